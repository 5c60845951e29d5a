/- l12Sweep of the specification, at every good list of points. No condition beyond those typed. Written by mksw13.py. -/
import Derived.Test.YtikllcoekcglcaaGreatPkR5
import Derived.Test.YtikllcoekcglcaaGreatPkR4
import Derived.Deep.Slices
namespace Go.Proofs.YtikllcoekcglcaaGreat
open Go.ChangeShapes Go.WideShapes Go.ChangeAt Go.RowKit Go.Joins
set_option linter.unusedVariables false
set_option maxRecDepth 100000
set_option linter.unusedSimpArgs false

theorem open_spanc {H : Type} {enc : TypeId × Value → H} {W : World} {m : Nat} {c0 c1 c2 c3 c4 c5 c6 c7 : Value} {x : DataW H × List MemPlace}
    (hf : DataW.trod enc Tryz.prog W 0 (fun _ => true) true m 80 [c0, c1, c2, c3, c4, c5, c6, c7] = some x) :
    ∃ p : SV × SD, (c0 = .bool p.1.lo.num.g ∧ c1 = .slice p.1.lo.num.a p.1.lo.num.n p.1.lo.num.c ∧ c2 = .bool p.1.lo.den.g ∧ c3 = .slice p.1.lo.den.a p.1.lo.den.n p.1.lo.den.c ∧ c4 = .bool p.1.hi.num.g ∧ c5 = .slice p.1.hi.num.a p.1.hi.num.n p.1.hi.num.c ∧ c6 = .bool p.1.hi.den.g ∧ c7 = .slice p.1.hi.den.a p.1.hi.den.n p.1.hi.den.c) ∧ AllSl W [(p.1.lo.num, p.2.lo.num), (p.1.lo.den, p.2.lo.den), (p.1.hi.num, p.2.hi.num), (p.1.hi.den, p.2.hi.den)] ∧ p.1.lo.num.n ≤ maxLen ∧ p.1.lo.den.n ≤ maxLen ∧ p.1.hi.num.n ≤ maxLen ∧ p.1.hi.den.n ≤ maxLen := by
  obtain ⟨y0, y1, n, hx, _, h0, h1⟩ := trod_struct2 Tryz.underlying80 hf
  have k0 : DataW.trod enc Tryz.prog W 0 (fun _ => true) true n 69 [c0, c1, c2, c3] = some y0 := by simpa [Value.cells, Tryz.cells69] using h0
  have k1 : DataW.trod enc Tryz.prog W 0 (fun _ => true) true n 69 [c4, c5, c6, c7] = some y1 := by simpa [Value.cells, Tryz.cells69] using h1
  obtain ⟨p, ⟨rfl, rfl, rfl, rfl⟩, hp, s1, s2⟩ := open_ratc k0
  obtain ⟨q, ⟨rfl, rfl, rfl, rfl⟩, hq, t1, t2⟩ := open_ratc k1
  exact ⟨(⟨p.1, q.1⟩, ⟨p.2, q.2⟩), ⟨rfl, rfl, rfl, rfl, rfl, rfl, rfl, rfl⟩, AllSl.cons hp.head (AllSl.cons hp.tail.head hq), s1, s2, t1, t2⟩
theorem open_PS {H : Type} {enc : TypeId × Value → H} {W : World} {r : Reach} {b0 : Nat} {v : Value} {d : DataW H} {p : List MemPlace}
    (hv : Value.okWide Tryz.prog W r b0 66 v) (h : DataW.Trod enc Tryz.prog W 0 (fun _ => true) true 66 v d p) :
    ∃ (a : Option Addr) (n c : Nat) (l : List (SV × SD)), v = .slice a n c ∧ PSlS W a l ∧ l.length = n ∧ n ≤ maxLen ∧ ∀ p ∈ l, p.1.lo.num.n ≤ maxLen ∧ p.1.lo.den.n ≤ maxLen ∧ p.1.hi.num.n ≤ maxLen ∧ p.1.hi.den.n ≤ maxLen := by
  obtain ⟨a, n, c, rfl⟩ := okWide_slice Tryz.underlying66 hv
  obtain ⟨fuel, hf⟩ := h
  rcases Go.Deep.open_slice Tryz.underlying66 hf with ⟨hcs, _⟩ | ⟨a', len, cap, m, n', D, Pl, hcs, _, hl, hm, hmm, _, hx⟩
  · simp only [Value.cells, List.cons.injEq, Value.slice.injEq, and_true] at hcs
    obtain ⟨rfl, rfl, rfl⟩ := hcs
    exact ⟨none, 0, 0, [], rfl, ⟨.inl rfl, fun p hp => by cases hp⟩, rfl, Nat.zero_le _, fun p hp => by cases hp⟩
  · simp only [Value.cells, List.cons.injEq, Value.slice.injEq, and_true] at hcs
    obtain ⟨rfl, rfl, rfl⟩ := hcs
    simp only [if_true] at hmm
    subst hmm
    have each : ∀ i, i < n → ∃ p : SV × SD, (W.cell? ((a'.add (i * 8)).add 0) = some (.bool p.1.lo.num.g) ∧ W.cell? ((a'.add (i * 8)).add 1) = some (.slice p.1.lo.num.a p.1.lo.num.n p.1.lo.num.c) ∧ W.cell? ((a'.add (i * 8)).add 2) = some (.bool p.1.lo.den.g) ∧ W.cell? ((a'.add (i * 8)).add 3) = some (.slice p.1.lo.den.a p.1.lo.den.n p.1.lo.den.c) ∧ W.cell? ((a'.add (i * 8)).add 4) = some (.bool p.1.hi.num.g) ∧ W.cell? ((a'.add (i * 8)).add 5) = some (.slice p.1.hi.num.a p.1.hi.num.n p.1.hi.num.c) ∧ W.cell? ((a'.add (i * 8)).add 6) = some (.bool p.1.hi.den.g) ∧ W.cell? ((a'.add (i * 8)).add 7) = some (.slice p.1.hi.den.a p.1.hi.den.n p.1.hi.den.c)) ∧ AllSl W [(p.1.lo.num, p.2.lo.num), (p.1.lo.den, p.2.lo.den), (p.1.hi.num, p.2.hi.num), (p.1.hi.den, p.2.hi.den)] ∧ p.1.lo.num.n ≤ maxLen ∧ p.1.lo.den.n ≤ maxLen ∧ p.1.hi.num.n ≤ maxLen ∧ p.1.hi.den.n ≤ maxLen := by
      intro i hi
      obtain ⟨cs, h1, h2⟩ := hx i (by omega)
      rw [Tryz.cells80] at h1
      obtain ⟨_, h3, h4⟩ := World.cells?_some h1
      match cs, h3 with
      | [c0, c1, c2, c3, c4, c5, c6, c7], _ =>
        obtain ⟨p, ⟨rfl, rfl, rfl, rfl, rfl, rfl, rfl, rfl⟩, hp⟩ := open_spanc h2
        exact ⟨p, ⟨h4 0 (by omega), h4 1 (by omega), h4 2 (by omega), h4 3 (by omega), h4 4 (by omega), h4 5 (by omega), h4 6 (by omega), h4 7 (by omega)⟩, hp⟩
    have inh : Inhabited (SV × SD) := ⟨(⟨⟨⟨false, none, 0, 0⟩, ⟨false, none, 0, 0⟩⟩, ⟨⟨false, none, 0, 0⟩, ⟨false, none, 0, 0⟩⟩⟩, ⟨⟨⟨false, []⟩, ⟨false, []⟩⟩, ⟨⟨false, []⟩, ⟨false, []⟩⟩⟩)⟩
    obtain ⟨f, hf⟩ := Go.Deep.choose_lt each
    refine ⟨some a', n, m, (List.range n).map f, rfl, ⟨?_, ?_⟩, by simp, Nat.le_trans hl hm, ?_⟩
    · by_cases h0 : n = 0
      · subst h0; exact .inl rfl
      · obtain ⟨b, off, spot⟩ := a'
        have hc := (hf 0 (by omega)).1.1
        have hspot : spot = none := by simpa [Addr.add] using World.cell?_spot hc
        subst hspot
        refine .inr ⟨b, off, rfl, ?_, fun i hi => ?_⟩
        · have := World.block_lt_of_cell? _ _ hc
          rw [addr_add, addr_add] at this
          exact this
        · have hi' : i < n := by simpa using hi
          have h1 := (hf i hi').1
          rw [addr_add, addr_add, addr_add, addr_add, addr_add, addr_add, addr_add, addr_add, addr_add] at h1
          simpa using h1
    · intro p hp
      obtain ⟨i, hi, rfl⟩ := List.mem_map.1 hp
      exact (hf i (List.mem_range.1 hi)).2.1
    · intro p hp
      obtain ⟨i, hi, rfl⟩ := List.mem_map.1 hp
      exact (hf i (List.mem_range.1 hi)).2.2
end Go.Proofs.YtikllcoekcglcaaGreat
namespace Go.Proofs.YtikllcoekcglcaaGreat
open Go.RowKit
set_option linter.unusedVariables false
set_option maxRecDepth 100000
set_option linter.unusedSimpArgs false

/-- A row of n points at block B, whose limbs lie below block E. -/
structure GrE (B n E : Nat) (w : World) (us : List (SV × SD)) : Prop where
  row : ∃ M, w.ownsRow B 34 8 (.slice (some ⟨B, 0, none⟩) n n) n M ∧ ∀ i (h : i < us.length), M[i * 8]? = some (.bool us[i].1.lo.num.g) ∧ M[i * 8 + 1]? = some (.slice us[i].1.lo.num.a us[i].1.lo.num.n us[i].1.lo.num.c) ∧ M[i * 8 + 2]? = some (.bool us[i].1.lo.den.g) ∧ M[i * 8 + 3]? = some (.slice us[i].1.lo.den.a us[i].1.lo.den.n us[i].1.lo.den.c) ∧ M[i * 8 + 4]? = some (.bool us[i].1.hi.num.g) ∧ M[i * 8 + 5]? = some (.slice us[i].1.hi.num.a us[i].1.hi.num.n us[i].1.hi.num.c) ∧ M[i * 8 + 6]? = some (.bool us[i].1.hi.den.g) ∧ M[i * 8 + 7]? = some (.slice us[i].1.hi.den.a us[i].1.hi.den.n us[i].1.hi.den.c)
  own : AllOwn (B + 1) E w (zipPS us)
  ar : ∀ p ∈ us, AllAr w [(p.1.lo.num, p.2.lo.num), (p.1.lo.den, p.2.lo.den), (p.1.hi.num, p.2.hi.num), (p.1.hi.den, p.2.hi.den)]
  lt : B < E
  le : E ≤ w.heap.size
  len : us.length = n
theorem GrZ.e {B n : Nat} {w w' : World} {us : List (SV × SD)} (h : GrZ B n w us) (hb : Below w.heap.size w w') : GrE B n w.heap.size w' us := by
  have h2 := h.later hb
  exact ⟨h2.row, h.own.later hb, h2.ar, h.lt, hb.size, h.len⟩
theorem GrE.z {B n E : Nat} {w : World} {us : List (SV × SD)} (h : GrE B n E w us) : GrZ B n w us := ⟨h.row, h.own.wide (Nat.le_refl _) h.le, h.ar, Nat.lt_of_lt_of_le h.lt h.le, h.len⟩
theorem GrE.put {B n E E' k : Nat} {w : World} {us : List (SV × SD)} {u : SV} {d : SD} (h : GrE B n E w us) (hk : k < n) (hE : E ≤ E') (hE' : E' ≤ w.heap.size) (ho : AllOwn E E' w [(u.lo.num, d.lo.num), (u.lo.den, d.lo.den), (u.hi.num, d.hi.num), (u.hi.den, d.hi.den)]) (ha : AllAr w [(u.lo.num, d.lo.num), (u.lo.den, d.lo.den), (u.hi.num, d.hi.num), (u.hi.den, d.hi.den)]) : GrE B n E' ((((((((w.setCell ⟨B, k * 8, none⟩ (.bool u.lo.num.g)).setCell ⟨B, k * 8 + 1, none⟩ (.slice u.lo.num.a u.lo.num.n u.lo.num.c)).setCell ⟨B, k * 8 + 2, none⟩ (.bool u.lo.den.g)).setCell ⟨B, k * 8 + 3, none⟩ (.slice u.lo.den.a u.lo.den.n u.lo.den.c)).setCell ⟨B, k * 8 + 4, none⟩ (.bool u.hi.num.g)).setCell ⟨B, k * 8 + 5, none⟩ (.slice u.hi.num.a u.hi.num.n u.hi.num.c)).setCell ⟨B, k * 8 + 6, none⟩ (.bool u.hi.den.g)).setCell ⟨B, k * 8 + 7, none⟩ (.slice u.hi.den.a u.hi.den.n u.hi.den.c)) (us.set k (u, d)) := by
  obtain ⟨M, hM, hL⟩ := h.row
  have bt : But B (B + 1) w ((((((((w.setCell ⟨B, k * 8, none⟩ (.bool u.lo.num.g)).setCell ⟨B, k * 8 + 1, none⟩ (.slice u.lo.num.a u.lo.num.n u.lo.num.c)).setCell ⟨B, k * 8 + 2, none⟩ (.bool u.lo.den.g)).setCell ⟨B, k * 8 + 3, none⟩ (.slice u.lo.den.a u.lo.den.n u.lo.den.c)).setCell ⟨B, k * 8 + 4, none⟩ (.bool u.hi.num.g)).setCell ⟨B, k * 8 + 5, none⟩ (.slice u.hi.num.a u.hi.num.n u.hi.num.c)).setCell ⟨B, k * 8 + 6, none⟩ (.bool u.hi.den.g)).setCell ⟨B, k * 8 + 7, none⟩ (.slice u.hi.den.a u.hi.den.n u.hi.den.c)) := but_rowS
  have hkl : k < us.length := by rw [h.len]; exact hk
  have own := AllOwn.replZ (U := zipPS [(u, d)]) (by have := h.own; rw [(zipS_set (u := (u, d)) hkl).1] at this; exact this) (by rw [zipPS_one]; exact ho) (Nat.succ_le_of_lt h.lt) hE
  rw [← (zipS_set (u := (u, d)) hkl).2] at own
  have ar : AllAr w (zipPS (us.set k (u, d))) := allSl_ar_mem (fun p hp => by
    rcases List.mem_or_eq_of_mem_set hp with hp | rfl
    · exact h.ar p hp
    · exact ha)
  exact ⟨⟨_, (World.ownsRow.stored (World.ownsRow.stored (World.ownsRow.stored (World.ownsRow.stored (World.ownsRow.stored (World.ownsRow.stored (World.ownsRow.stored (World.ownsRow.stored hM (k * 8) (.bool u.lo.num.g)).1 (k * 8 + 1) (.slice u.lo.num.a u.lo.num.n u.lo.num.c)).1 (k * 8 + 2) (.bool u.lo.den.g)).1 (k * 8 + 3) (.slice u.lo.den.a u.lo.den.n u.lo.den.c)).1 (k * 8 + 4) (.bool u.hi.num.g)).1 (k * 8 + 5) (.slice u.hi.num.a u.hi.num.n u.hi.num.c)).1 (k * 8 + 6) (.bool u.hi.den.g)).1 (k * 8 + 7) (.slice u.hi.den.a u.hi.den.n u.hi.den.c)).1, rep_rowS hM.1 h.len hk hL⟩, own.but bt (.inr (Nat.le_refl _)), fun p hp x hx => ar_fin bt own ar (Nat.le_refl _) x (zipPS_mem hp hx), Nat.lt_of_lt_of_le h.lt hE, Nat.le_trans hE' bt.size, by rw [List.length_set]; exact h.len⟩
theorem GwZ.one {w : World} {u : SV} {d : SD} (ht : TypZ w [(u.lo.num, d.lo.num), (u.lo.den, d.lo.den), (u.hi.num, d.hi.num), (u.hi.den, d.hi.den)]) (ha : AllAr w [(u.lo.num, d.lo.num), (u.lo.den, d.lo.den), (u.hi.num, d.hi.num), (u.hi.den, d.hi.den)]) : GwZ w.heap.size (w.alloc (.cells #[.bool u.lo.num.g, .slice u.lo.num.a u.lo.num.n u.lo.num.c, .bool u.lo.den.g, .slice u.lo.den.a u.lo.den.n u.lo.den.c, .bool u.hi.num.g, .slice u.hi.num.a u.hi.num.n u.hi.num.c, .bool u.hi.den.g, .slice u.hi.den.a u.hi.den.n u.hi.den.c] 34)) (.slice (some ⟨w.heap.size, 0, none⟩) 1 1) [(u, d)] := by
  have al : Below w.heap.size w (w.alloc (.cells #[.bool u.lo.num.g, .slice u.lo.num.a u.lo.num.n u.lo.num.c, .bool u.lo.den.g, .slice u.lo.den.a u.lo.den.n u.lo.den.c, .bool u.hi.num.g, .slice u.hi.num.a u.hi.num.n u.hi.num.c, .bool u.hi.den.g, .slice u.hi.den.a u.hi.den.n u.hi.den.c] 34)) := (Below.refl _ _).alloc (Nat.le_refl _) _
  refine ⟨⟨rfl, .inr ⟨w.heap.size, 1, #[.bool u.lo.num.g, .slice u.lo.num.a u.lo.num.n u.lo.num.c, .bool u.lo.den.g, .slice u.lo.den.a u.lo.den.n u.lo.den.c, .bool u.hi.num.g, .slice u.hi.num.a u.hi.num.n u.hi.num.c, .bool u.hi.den.g, .slice u.hi.den.a u.hi.den.n u.hi.den.c], rfl, Nat.le_refl _, heap_alloc_new _ _, Nat.le_refl _, by unfold maxLen; omega, rfl, rfl⟩⟩, ?_, ?_⟩
  · rw [zipPS_one]; exact ht.later al
  · rw [zipPS_one]; exact ha.later al

end Go.Proofs.YtikllcoekcglcaaGreat
namespace Go.Proofs.YtikllcoekcglcaaGreat
open Go.RowKit
set_option linter.unusedVariables false
set_option maxRecDepth 100000
set_option linter.unusedSimpArgs false

/-- A row that is read, apart from block B: an argument, or a call's own. -/
def RdF (w0 : World) (B : Nat) (w : World) (a : Option Addr) (n c : Nat) (l : List (SV × SD)) (ps : List (Rat × Rat)) : Prop := RdC w a n c l ps ∧ ((RdC w0 a n c l ps ∧ Below w0.heap.size w0 w) ∨ ∃ E, PRoZ (B + 1) E w a n c l)
theorem RdF.later {w0 w w' : World} {B : Nat} {a : Option Addr} {n c : Nat} {l : List (SV × SD)} {ps : List (Rat × Rat)} (h : RdF w0 B w a n c l ps) (hb : Below w.heap.size w w') : RdF w0 B w' a n c l ps := by
  refine ⟨h.1.later hb, ?_⟩
  rcases h.2 with ⟨h1, h2⟩ | ⟨E, h1⟩
  · exact .inl ⟨h1, below_on h2 hb⟩
  · exact .inr ⟨E, h1.later hb⟩
theorem RdF.but {w0 w w' : World} {B : Nat} {a : Option Addr} {n c : Nat} {l : List (SV × SD)} {ps : List (Rat × Rat)} (h : RdF w0 B w a n c l ps) (hB : w0.heap.size ≤ B) (bt : But B (B + 1) w w') : RdF w0 B w' a n c l ps := by
  rcases h.2 with ⟨h1, h2⟩ | ⟨E, h1⟩
  · have hb := bt.below h2 hB h2.size
    exact ⟨h1.later hb, .inl ⟨h1, hb⟩⟩
  · have k1 := h1.but bt (.inr (Nat.le_refl _))
    have sl := k1.sl
    refine ⟨⟨⟨sl.at_, fun p hp x hx => ?_, h.1.ar.len, h.1.ar.cap, h.1.ar.top⟩, h.1.is⟩, .inr ⟨E, k1⟩⟩
    have a0 := h.1.ar.rd p hp x hx
    have s0 := sl.rd p hp x hx
    exact ⟨a0.sg, ⟨s0.sl, a0.ar.len, a0.ar.cap, a0.ar.top, a0.ar.addr⟩⟩

end Go.Proofs.YtikllcoekcglcaaGreat
namespace Go.Proofs.YtikllcoekcglcaaGreat
open Go.RowKit
set_option linter.unusedVariables false
set_option maxRecDepth 100000
set_option linter.unusedSimpArgs false

theorem PArS.grown {w w' : World} {a : Option Addr} {n c B : Nat} {l us : List (SV × SD)} {v : Value} (h : PArS w a n c l) (ht : TypZ w (zipPS l)) (hG : GwZ B w v us) (hg : w.grownBy w' v.ownBlock) (hne : ∀ b off, a = some ⟨b, off, none⟩ → v.ownBlock ≠ some b) : PArS w' a n c l ∧ TypZ w' (zipPS l) := by
  have t1 := ht.grown hg hG.row
  refine ⟨⟨?_, fun p hp => ?_, h.len, h.cap, h.top⟩, t1⟩
  · rcases h.at_ with e | ⟨b, off, rfl, hb, hc⟩
    · exact .inl e
    · have nb : some b ≠ v.ownBlock := fun e => hne b off rfl e.symm
      have ce : ∀ o, w'.cell? ⟨b, o, none⟩ = w.cell? ⟨b, o, none⟩ := fun o => hg.cell_far ⟨b, o, none⟩ hb nb
      refine .inr ⟨b, off, rfl, Nat.lt_of_lt_of_le hb hg.size, fun i hi => ?_⟩
      have h1 := hc i hi
      simp only [ce]
      exact h1
  · have a1 := t1.ar (allSl_ar_mem h.rd)
    exact fun x hx => a1 x (zipPS_mem hp hx)
end Go.Proofs.YtikllcoekcglcaaGreat
namespace Go.Proofs.YtikllcoekcglcaaGreat
open Go.RowKit
set_option linter.unusedVariables false
set_option maxRecDepth 100000
set_option linter.unusedSimpArgs false

/-- A sum's box at block S; its limbs lie behind block R. -/
structure SmB (R S : Nat) (w : World) (q : QV) (x : Rat) : Prop where
  c0 : w.cell? ⟨S, 0, none⟩ = some (.bool q.num.g)
  c1 : w.cell? ⟨S, 1, none⟩ = some (.slice q.num.a q.num.n q.num.c)
  c2 : w.cell? ⟨S, 2, none⟩ = some (.bool q.den.g)
  c3 : w.cell? ⟨S, 3, none⟩ = some (.slice q.den.a q.den.n q.den.c)
  fz : ∀ o, w.frozen? ⟨S, o, none⟩ = false
  ow : OwR (R + 1) w.heap.size w q x
theorem SmB.lt {R S : Nat} {w : World} {q : QV} {x : Rat} (h : SmB R S w q x) : S < w.heap.size := World.block_lt_of_cell? _ _ h.c0
theorem SmB.later {R S : Nat} {w w' : World} {q : QV} {x : Rat} (h : SmB R S w q x) (hb : Below w.heap.size w w') : SmB R S w' q x := ⟨cell_later hb h.c0, cell_later hb h.c1, cell_later hb h.c2, cell_later hb h.c3, fun o => frozen_later hb h.lt (h.fz o), (h.ow.later hb).wide (Nat.le_refl _) hb.size⟩
theorem OwR.but {lo hi lo' hi' : Nat} {w w' : World} {q : QV} {x : Rat} (h : OwR lo hi w q x) (bt : But lo' hi' w w') (hd : hi ≤ lo' ∨ hi' ≤ lo) : OwR lo hi w' q x := by
  obtain ⟨xs, us, k1, k2, k3, k4⟩ := h
  have o := k1.but bt hd
  exact ⟨xs, us, o, fun p hp => ⟨(k2 p hp).sg, ⟨(o.sl p hp).sl, (k2 p hp).ar.len, (k2 p hp).ar.cap, (k2 p hp).ar.top, (k2 p hp).ar.addr⟩⟩, k3, k4⟩
theorem SmB.put {R S lo hi : Nat} {w : World} {q q' : QV} {x x' : Rat} (h : SmB R S w q x) (ho : OwR lo hi w q' x') (h1 : S + 1 ≤ lo) (h2 : hi ≤ w.heap.size) (hR : R + 1 ≤ lo) : SmB R S ((((w.setCell ⟨S, 0, none⟩ (.bool q'.num.g)).setCell ⟨S, 1, none⟩ (.slice q'.num.a q'.num.n q'.num.c)).setCell ⟨S, 2, none⟩ (.bool q'.den.g)).setCell ⟨S, 3, none⟩ (.slice q'.den.a q'.den.n q'.den.c)) q' x' := by
  have bt := metQ_but (w5 := w) (v := q') (G := S)
  have e0 := h.c0
  have e1 := h.c1
  have e2 := h.c2
  have e3 := h.c3
  refine ⟨?_, ?_, ?_, ?_, fun o => ?_, (ho.but bt (.inr h1)).wide hR (Nat.le_trans h2 bt.size)⟩
  · simp [go_sem, e0, e1, e2, e3]
  · simp [go_sem, e0, e1, e2, e3]
  · simp [go_sem, e0, e1, e2, e3]
  · simp [go_sem, e0, e1, e2, e3]
  · have := h.fz o
    simp [go_sem, e0, e1, e2, e3, this]
end Go.Proofs.YtikllcoekcglcaaGreat
namespace Go.Proofs.YtikllcoekcglcaaGreat
open Go.RowKit
set_option linter.unusedVariables false
set_option maxRecDepth 100000
set_option linter.unusedSimpArgs false

/-- A sum's box at block S; its limbs lie behind block R. -/
structure SmV (R S : Nat) (w : World) (q : QV) (x : Rat) : Prop where
  c0 : w.cell? ⟨S, 0, none⟩ = some (.bool q.num.g)
  c1 : w.cell? ⟨S, 1, none⟩ = some (.slice q.num.a q.num.n q.num.c)
  c2 : w.cell? ⟨S, 2, none⟩ = some (.bool q.den.g)
  c3 : w.cell? ⟨S, 3, none⟩ = some (.slice q.den.a q.den.n q.den.c)
  fz : ∀ o, w.frozen? ⟨S, o, none⟩ = false
  ow : OwV (R + 1) w.heap.size w q x
theorem SmV.lt {R S : Nat} {w : World} {q : QV} {x : Rat} (h : SmV R S w q x) : S < w.heap.size := World.block_lt_of_cell? _ _ h.c0
theorem SmV.later {R S : Nat} {w w' : World} {q : QV} {x : Rat} (h : SmV R S w q x) (hb : Below w.heap.size w w') : SmV R S w' q x := ⟨cell_later hb h.c0, cell_later hb h.c1, cell_later hb h.c2, cell_later hb h.c3, fun o => frozen_later hb h.lt (h.fz o), (h.ow.later hb).wide (Nat.le_refl _) hb.size⟩
theorem SmV.put {R S lo hi : Nat} {w : World} {q q' : QV} {x x' : Rat} (h : SmV R S w q x) (ho : OwV lo hi w q' x') (h1 : S + 1 ≤ lo) (h2 : hi ≤ w.heap.size) (hR : R + 1 ≤ lo) : SmV R S ((((w.setCell ⟨S, 0, none⟩ (.bool q'.num.g)).setCell ⟨S, 1, none⟩ (.slice q'.num.a q'.num.n q'.num.c)).setCell ⟨S, 2, none⟩ (.bool q'.den.g)).setCell ⟨S, 3, none⟩ (.slice q'.den.a q'.den.n q'.den.c)) q' x' := by
  have bt := metQ_but (w5 := w) (v := q') (G := S)
  have e0 := h.c0
  have e1 := h.c1
  have e2 := h.c2
  have e3 := h.c3
  refine ⟨?_, ?_, ?_, ?_, fun o => ?_, (ho.but bt (.inr h1)).wide hR (Nat.le_trans h2 bt.size)⟩
  · simp [go_sem, e0, e1, e2, e3]
  · simp [go_sem, e0, e1, e2, e3]
  · simp [go_sem, e0, e1, e2, e3]
  · simp [go_sem, e0, e1, e2, e3]
  · have := h.fz o
    simp [go_sem, e0, e1, e2, e3, this]
end Go.Proofs.YtikllcoekcglcaaGreat
