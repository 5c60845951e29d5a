/- Arguments that are points, or slices of points, as they came in. No condition. -/
import Derived.Test.YtikllcoekcglcaaPkQ1
import Derived.Test.YtikllcoekcglcaaFlat
import Derived.Deep.Slices
import Derived.Test.YtikllcoekcglcaaPkQ0
import Derived.Test.YtikllcoekcglcaaTo
import Derived.Test.YtikllcoekcglcaaMark
import Derived.Deep.RegionHeld3
import Derived.Deep.AppendLies
import Derived.Test.YtikllcoekcglcaaLaw2
import Derived.BigQuiet
namespace Go.Proofs.Ytikllcoekcglcaa
open Go.ChangeShapes Go.WideShapes Go.ChangeAt Go.RowKit Go.Joins
set_option linter.unusedVariables false
set_option maxRecDepth 100000
set_option linter.unusedSimpArgs false

theorem Try.cells45 : Try.prog.cellsOf 45 = 4 := by kernel_rfl

theorem open_two {H : Type} {enc : TypeId × Value → H} {W : World} {m : Nat} {c0 c1 : Value} {y0 y1 : DataW H × List MemPlace}
    (hy0 : DataW.trod enc Try.prog W 0 (fun _ => true) true m 4 [c0] = some y0) (hy1 : DataW.trod enc Try.prog W 0 (fun _ => true) true m 41 [c1] = some y1) :
    ∃ (g : Bool) (a : Option Addr) (n c : Nat) (xs : List Int), c0 = .bool g ∧ c1 = .slice a n c ∧ Sl W a xs ∧ xs.length = n ∧ n ≤ maxLen ∧ ∀ x ∈ xs, (Lit.int .i64 x).wf = true := by
  obtain ⟨g, e0, _⟩ := DataW.trod_bool Try.underlying4 hy0
  simp only [List.cons.injEq, and_true] at e0
  subst e0
  rcases open_ints Try.underlying41 Try.underlying3 Try.cells3 hy1 with ⟨hcs, _⟩ | ⟨x, l, c, zs, hcs, _, hl, hm, hz, _, hcell, hwz⟩
  · simp only [List.cons.injEq, and_true] at hcs
    subst hcs
    exact ⟨g, none, 0, 0, [], rfl, rfl, .inl rfl, rfl, Nat.zero_le _, fun x hx => by cases hx⟩
  · simp only [List.cons.injEq, and_true] at hcs
    subst hcs
    simp only [if_true] at hz
    have hlen : (zs.take l).length = l := by rw [List.length_take]; omega
    refine ⟨g, some x, l, c, zs.take l, rfl, rfl, ?_, hlen, Nat.le_trans hl hm, fun y hy => hwz y (List.mem_of_mem_take hy)⟩
    by_cases h0 : l = 0
    · subst h0; exact .inl (by simp)
    · obtain ⟨b, off, spot⟩ := x
      have hc := hcell 0 (by omega)
      have hspot : spot = none := by simpa [Addr.add] using World.cell?_spot hc
      subst hspot
      refine .inr ⟨b, off, rfl, ?_, fun i hi => ?_⟩
      · exact World.block_lt_of_cell? _ _ hc
      · have := hcell i (by omega)
        have e : (zs.take l).getD i 0 = zs.getD i 0 := by
          simp only [List.getD_eq_getElem?_getD, List.getElem?_take]
          rw [if_pos (by omega)]
        rw [e]
        by_cases hi0 : i = 0
        · subst hi0; simpa [Addr.add] using this
        · simpa [Addr.add, hi0] using this

theorem open_rat {H : Type} {enc : TypeId × Value → H} {W : World} {r : Reach} {b0 : Nat} {v : Value} {d : DataW H} {p : List MemPlace}
    (hv : Value.okWide Try.prog W r b0 45 v) (h : DataW.Trod enc Try.prog W 0 (fun _ => true) true 45 v d p) :
    ∃ (g : Bool) (a : Option Addr) (n c : Nat) (xs : List Int) (h : Bool) (b : Option Addr) (q e : Nat) (us : List Int), v = .agg #[.bool g, .slice a n c, .bool h, .slice b q e] ∧ (Sl W a xs ∧ xs.length = n ∧ n ≤ maxLen) ∧ (Sl W b us ∧ us.length = q ∧ q ≤ maxLen) := by
  obtain ⟨cs, rfl, hsz⟩ := okWide_struct Try.underlying45 hv
  obtain ⟨c0, c1, c2, c3, rfl⟩ := array4 (hsz.trans Try.cells45)
  obtain ⟨fuel, hf⟩ := h
  obtain ⟨y0, y1, n, hx, _, h0, h1⟩ := trod_struct2 Try.underlying45 hf
  have k0 : DataW.trod enc Try.prog W 0 (fun _ => true) true n 43 [c0, c1] = some y0 := by simpa [Value.cells, Try.cells43] using h0
  have k1 : DataW.trod enc Try.prog W 0 (fun _ => true) true n 43 [c2, c3] = some y1 := by simpa [Value.cells, Try.cells43] using h1
  obtain ⟨z0, z1, n1, _, _, p0, p1⟩ := trod_struct2 Try.underlying43 k0
  obtain ⟨z2, z3, n2, _, _, p2, p3⟩ := trod_struct2 Try.underlying43 k1
  have c_b : Try.prog.cellsOf 4 = 1 := by kernel_rfl
  have c_s : Try.prog.cellsOf 41 = 1 := by kernel_rfl
  obtain ⟨g, a, n', c, xs, rfl, rfl, s1, s2, s3, _⟩ := open_two (c0 := c0) (c1 := c1) (by simpa [c_b] using p0) (by simpa [c_s] using p1)
  obtain ⟨h, b, q, e, us, rfl, rfl, t1, t2, t3, _⟩ := open_two (c0 := c2) (c1 := c3) (by simpa [c_b] using p2) (by simpa [c_s] using p3)
  exact ⟨g, a, n', c, xs, h, b, q, e, us, rfl, ⟨s1, s2, s3⟩, ⟨t1, t2, t3⟩⟩
end Go.Proofs.Ytikllcoekcglcaa
namespace Go.Proofs.Ytikllcoekcglcaa
open Go.ChangeShapes Go.WideShapes Go.ChangeAt Go.RowKit Go.Joins
set_option linter.unusedVariables false
set_option maxRecDepth 100000
set_option linter.unusedSimpArgs false

theorem open_Q {H : Type} {enc : TypeId × Value → H} {W : World} {r : Reach} {b0 : Nat} {v : Value} {d : DataW H} {p : List MemPlace}
    (hv : Value.okWide Try.prog W r b0 45 v) (h : DataW.Trod enc Try.prog W 0 (fun _ => true) true 45 v d p) :
    ∃ (q : QV) (e : QD), v = .agg #[.bool q.num.g, .slice q.num.a q.num.n q.num.c, .bool q.den.g, .slice q.den.a q.den.n q.den.c] ∧ AllSl W [(q.num, e.num), (q.den, e.den)] ∧ q.num.n ≤ maxLen ∧ q.den.n ≤ maxLen := by
  obtain ⟨g, a, n, c, xs, g', b, q, e, us, rfl, ⟨hx, hn, hm⟩, ⟨hu, hq, hk⟩⟩ := open_rat hv h
  exact ⟨⟨⟨g, a, n, c⟩, ⟨g', b, q, e⟩⟩, ⟨⟨g, xs⟩, ⟨g', us⟩⟩, rfl, AllSl.cons ⟨rfl, hx, hn⟩ (AllSl.cons ⟨rfl, hu, hq⟩ (AllSl.nil _)), hm, hk⟩
end Go.Proofs.Ytikllcoekcglcaa
namespace Go.Proofs.Ytikllcoekcglcaa
open Go.ChangeShapes Go.WideShapes Go.ChangeAt Go.RowKit Go.Joins
set_option linter.unusedVariables false
set_option maxRecDepth 100000
set_option linter.unusedSimpArgs false

theorem open_ratc {H : Type} {enc : TypeId × Value → H} {W : World} {m : Nat} {c0 c1 c2 c3 : Value} {x : DataW H × List MemPlace}
    (hf : DataW.trod enc Try.prog W 0 (fun _ => true) true m 45 [c0, c1, c2, c3] = some x) :
    ∃ p : QV × QD, (c0 = .bool p.1.num.g ∧ c1 = .slice p.1.num.a p.1.num.n p.1.num.c ∧ c2 = .bool p.1.den.g ∧ c3 = .slice p.1.den.a p.1.den.n p.1.den.c) ∧ AllSl W [(p.1.num, p.2.num), (p.1.den, p.2.den)] ∧ p.1.num.n ≤ maxLen ∧ p.1.den.n ≤ maxLen := by
  obtain ⟨y0, y1, n, hx, _, h0, h1⟩ := trod_struct2 Try.underlying45 hf
  have k0 : DataW.trod enc Try.prog W 0 (fun _ => true) true n 43 [c0, c1] = some y0 := by simpa [Value.cells, Try.cells43] using h0
  have k1 : DataW.trod enc Try.prog W 0 (fun _ => true) true n 43 [c2, c3] = some y1 := by simpa [Value.cells, Try.cells43] using h1
  obtain ⟨z0, z1, n1, _, _, p0, p1⟩ := trod_struct2 Try.underlying43 k0
  obtain ⟨z2, z3, n2, _, _, p2, p3⟩ := trod_struct2 Try.underlying43 k1
  have c_b : Try.prog.cellsOf 4 = 1 := by kernel_rfl
  have c_s : Try.prog.cellsOf 41 = 1 := by kernel_rfl
  obtain ⟨g, a, n', c, xs, rfl, rfl, s1, s2, s3, _⟩ := open_two (c0 := c0) (c1 := c1) (by simpa [c_b] using p0) (by simpa [c_s] using p1)
  obtain ⟨h, b, q, e, us, rfl, rfl, t1, t2, t3, _⟩ := open_two (c0 := c2) (c1 := c3) (by simpa [c_b] using p2) (by simpa [c_s] using p3)
  exact ⟨(⟨⟨g, a, n', c⟩, ⟨h, b, q, e⟩⟩, ⟨⟨g, xs⟩, ⟨h, us⟩⟩), ⟨rfl, rfl, rfl, rfl⟩, AllSl.cons ⟨rfl, s1, s2⟩ (AllSl.cons ⟨rfl, t1, t2⟩ (AllSl.nil _)), s3, t3⟩
theorem addr_add (b off k : Nat) : (⟨b, off, none⟩ : Addr).add k = ⟨b, off + k, none⟩ := by
  unfold Addr.add
  split
  · rename_i h; subst h; rfl
  · rfl
theorem addr_add_block (a : Addr) (k : Nat) : (a.add k).block = a.block := by unfold Addr.add; split <;> rfl
end Go.Proofs.Ytikllcoekcglcaa
namespace Go.Proofs.Ytikllcoekcglcaa
open Go.ChangeShapes Go.WideShapes Go.ChangeAt Go.RowKit Go.Joins
set_option linter.unusedVariables false
set_option maxRecDepth 100000
set_option linter.unusedSimpArgs false

theorem Try.cells47 : Try.prog.cellsOf 47 = 8 := by kernel_rfl
theorem array_8 {α : Type} {cs : Array α} (h : cs.size = 8) : ∃ a b c d e f g k, cs = #[a, b, c, d, e, f, g, k] := by
  obtain ⟨l⟩ := cs
  match l, h with
  | [a, b, c, d, e, f, g, k], _ => exact ⟨a, b, c, d, e, f, g, k, rfl⟩

theorem open_four {H : Type} {enc : TypeId × Value → H} {W : World} {n : Nat} {c0 c1 c2 c3 : Value} {y : DataW H × List MemPlace}
    (h : DataW.trod enc Try.prog W 0 (fun _ => true) true n 45 [c0, c1, c2, c3] = some y) :
    ∃ (q : QV) (e : QD), c0 = .bool q.num.g ∧ c1 = .slice q.num.a q.num.n q.num.c ∧ c2 = .bool q.den.g ∧ c3 = .slice q.den.a q.den.n q.den.c ∧ AllSl W [(q.num, e.num), (q.den, e.den)] ∧ q.num.n ≤ maxLen ∧ q.den.n ≤ maxLen := by
  obtain ⟨y0, y1, n', hx, _, h0, h1⟩ := trod_struct2 Try.underlying45 h
  have k0 : DataW.trod enc Try.prog W 0 (fun _ => true) true n' 43 [c0, c1] = some y0 := by simpa [Try.cells43] using h0
  have k1 : DataW.trod enc Try.prog W 0 (fun _ => true) true n' 43 [c2, c3] = some y1 := by simpa [Try.cells43] using h1
  obtain ⟨z0, z1, n1, _, _, p0, p1⟩ := trod_struct2 Try.underlying43 k0
  obtain ⟨z2, z3, n2, _, _, p2, p3⟩ := trod_struct2 Try.underlying43 k1
  have c_b : Try.prog.cellsOf 4 = 1 := by kernel_rfl
  have c_s : Try.prog.cellsOf 41 = 1 := by kernel_rfl
  obtain ⟨g, a, m, c, xs, rfl, rfl, s1, s2, s3, _⟩ := open_two (c0 := c0) (c1 := c1) (by simpa [c_b] using p0) (by simpa [c_s] using p1)
  obtain ⟨g', b, q, e, us, rfl, rfl, t1, t2, t3, _⟩ := open_two (c0 := c2) (c1 := c3) (by simpa [c_b] using p2) (by simpa [c_s] using p3)
  exact ⟨⟨⟨g, a, m, c⟩, ⟨g', b, q, e⟩⟩, ⟨⟨g, xs⟩, ⟨g', us⟩⟩, rfl, rfl, rfl, rfl, AllSl.cons ⟨rfl, s1, s2⟩ (AllSl.cons ⟨rfl, t1, t2⟩ (AllSl.nil _)), s3, t3⟩

theorem open_S {H : Type} {enc : TypeId × Value → H} {W : World} {r : Reach} {b0 : Nat} {v : Value} {d : DataW H} {p : List MemPlace}
    (hv : Value.okWide Try.prog W r b0 47 v) (h : DataW.Trod enc Try.prog W 0 (fun _ => true) true 47 v d p) :
    ∃ (s : SV) (e : SD), v = .agg #[.bool s.lo.num.g, .slice s.lo.num.a s.lo.num.n s.lo.num.c, .bool s.lo.den.g, .slice s.lo.den.a s.lo.den.n s.lo.den.c, .bool s.hi.num.g, .slice s.hi.num.a s.hi.num.n s.hi.num.c, .bool s.hi.den.g, .slice s.hi.den.a s.hi.den.n s.hi.den.c] ∧ AllSl W [(s.lo.num, e.lo.num), (s.lo.den, e.lo.den), (s.hi.num, e.hi.num), (s.hi.den, e.hi.den)] ∧ s.lo.num.n ≤ maxLen ∧ s.lo.den.n ≤ maxLen ∧ s.hi.num.n ≤ maxLen ∧ s.hi.den.n ≤ maxLen := by
  obtain ⟨cs, rfl, hsz⟩ := okWide_struct Try.underlying47 hv
  obtain ⟨c0, c1, c2, c3, c4, c5, c6, c7, rfl⟩ := array_8 (hsz.trans Try.cells47)
  obtain ⟨fuel, hf⟩ := h
  obtain ⟨y0, y1, n, hx, _, h0, h1⟩ := trod_struct2 Try.underlying47 hf
  have k0 : DataW.trod enc Try.prog W 0 (fun _ => true) true n 45 [c0, c1, c2, c3] = some y0 := by simpa [Value.cells, Try.cells45] using h0
  have k1 : DataW.trod enc Try.prog W 0 (fun _ => true) true n 45 [c4, c5, c6, c7] = some y1 := by simpa [Value.cells, Try.cells45] using h1
  obtain ⟨q, e, rfl, rfl, rfl, rfl, s1, m1, m2⟩ := open_four k0
  obtain ⟨q', e', rfl, rfl, rfl, rfl, s2, m3, m4⟩ := open_four k1
  exact ⟨⟨q, q'⟩, ⟨e, e'⟩, rfl, AllSl.cons s1.head (AllSl.cons s1.tail.head (AllSl.cons s2.head (AllSl.cons s2.tail.head (AllSl.nil _)))), m1, m2, m3, m4⟩
end Go.Proofs.Ytikllcoekcglcaa
namespace Go.Proofs.Ytikllcoekcglcaa
open Go.ChangeShapes Go.WideShapes Go.ChangeAt Go.RowKit Go.Joins
set_option linter.unusedVariables false
set_option maxRecDepth 100000
set_option linter.unusedSimpArgs false

theorem open_spanc {H : Type} {enc : TypeId × Value → H} {W : World} {m : Nat} {c0 c1 c2 c3 c4 c5 c6 c7 : Value} {x : DataW H × List MemPlace}
    (hf : DataW.trod enc Try.prog W 0 (fun _ => true) true m 47 [c0, c1, c2, c3, c4, c5, c6, c7] = some x) :
    ∃ p : SV × SD, (c0 = .bool p.1.lo.num.g ∧ c1 = .slice p.1.lo.num.a p.1.lo.num.n p.1.lo.num.c ∧ c2 = .bool p.1.lo.den.g ∧ c3 = .slice p.1.lo.den.a p.1.lo.den.n p.1.lo.den.c ∧ c4 = .bool p.1.hi.num.g ∧ c5 = .slice p.1.hi.num.a p.1.hi.num.n p.1.hi.num.c ∧ c6 = .bool p.1.hi.den.g ∧ c7 = .slice p.1.hi.den.a p.1.hi.den.n p.1.hi.den.c) ∧ AllSl W [(p.1.lo.num, p.2.lo.num), (p.1.lo.den, p.2.lo.den), (p.1.hi.num, p.2.hi.num), (p.1.hi.den, p.2.hi.den)] ∧ p.1.lo.num.n ≤ maxLen ∧ p.1.lo.den.n ≤ maxLen ∧ p.1.hi.num.n ≤ maxLen ∧ p.1.hi.den.n ≤ maxLen := by
  obtain ⟨y0, y1, n, hx, _, h0, h1⟩ := trod_struct2 Try.underlying47 hf
  have k0 : DataW.trod enc Try.prog W 0 (fun _ => true) true n 45 [c0, c1, c2, c3] = some y0 := by simpa [Value.cells, Try.cells45] using h0
  have k1 : DataW.trod enc Try.prog W 0 (fun _ => true) true n 45 [c4, c5, c6, c7] = some y1 := by simpa [Value.cells, Try.cells45] using h1
  obtain ⟨p, ⟨rfl, rfl, rfl, rfl⟩, hp, s1, s2⟩ := open_ratc k0
  obtain ⟨q, ⟨rfl, rfl, rfl, rfl⟩, hq, t1, t2⟩ := open_ratc k1
  exact ⟨(⟨p.1, q.1⟩, ⟨p.2, q.2⟩), ⟨rfl, rfl, rfl, rfl, rfl, rfl, rfl, rfl⟩, AllSl.cons hp.head (AllSl.cons hp.tail.head hq), s1, s2, t1, t2⟩
theorem open_PS {H : Type} {enc : TypeId × Value → H} {W : World} {r : Reach} {b0 : Nat} {v : Value} {d : DataW H} {p : List MemPlace}
    (hv : Value.okWide Try.prog W r b0 22 v) (h : DataW.Trod enc Try.prog W 0 (fun _ => true) true 22 v d p) :
    ∃ (a : Option Addr) (n c : Nat) (l : List (SV × SD)), v = .slice a n c ∧ PSlS W a l ∧ l.length = n ∧ n ≤ maxLen ∧ ∀ p ∈ l, p.1.lo.num.n ≤ maxLen ∧ p.1.lo.den.n ≤ maxLen ∧ p.1.hi.num.n ≤ maxLen ∧ p.1.hi.den.n ≤ maxLen := by
  obtain ⟨a, n, c, rfl⟩ := okWide_slice Try.underlying22 hv
  obtain ⟨fuel, hf⟩ := h
  rcases Go.Deep.open_slice Try.underlying22 hf with ⟨hcs, _⟩ | ⟨a', len, cap, m, n', D, Pl, hcs, _, hl, hm, hmm, _, hx⟩
  · simp only [Value.cells, List.cons.injEq, Value.slice.injEq, and_true] at hcs
    obtain ⟨rfl, rfl, rfl⟩ := hcs
    exact ⟨none, 0, 0, [], rfl, ⟨.inl rfl, fun p hp => by cases hp⟩, rfl, Nat.zero_le _, fun p hp => by cases hp⟩
  · simp only [Value.cells, List.cons.injEq, Value.slice.injEq, and_true] at hcs
    obtain ⟨rfl, rfl, rfl⟩ := hcs
    simp only [if_true] at hmm
    subst hmm
    have each : ∀ i, i < n → ∃ p : SV × SD, (W.cell? ((a'.add (i * 8)).add 0) = some (.bool p.1.lo.num.g) ∧ W.cell? ((a'.add (i * 8)).add 1) = some (.slice p.1.lo.num.a p.1.lo.num.n p.1.lo.num.c) ∧ W.cell? ((a'.add (i * 8)).add 2) = some (.bool p.1.lo.den.g) ∧ W.cell? ((a'.add (i * 8)).add 3) = some (.slice p.1.lo.den.a p.1.lo.den.n p.1.lo.den.c) ∧ W.cell? ((a'.add (i * 8)).add 4) = some (.bool p.1.hi.num.g) ∧ W.cell? ((a'.add (i * 8)).add 5) = some (.slice p.1.hi.num.a p.1.hi.num.n p.1.hi.num.c) ∧ W.cell? ((a'.add (i * 8)).add 6) = some (.bool p.1.hi.den.g) ∧ W.cell? ((a'.add (i * 8)).add 7) = some (.slice p.1.hi.den.a p.1.hi.den.n p.1.hi.den.c)) ∧ AllSl W [(p.1.lo.num, p.2.lo.num), (p.1.lo.den, p.2.lo.den), (p.1.hi.num, p.2.hi.num), (p.1.hi.den, p.2.hi.den)] ∧ p.1.lo.num.n ≤ maxLen ∧ p.1.lo.den.n ≤ maxLen ∧ p.1.hi.num.n ≤ maxLen ∧ p.1.hi.den.n ≤ maxLen := by
      intro i hi
      obtain ⟨cs, h1, h2⟩ := hx i (by omega)
      rw [Try.cells47] at h1
      obtain ⟨_, h3, h4⟩ := World.cells?_some h1
      match cs, h3 with
      | [c0, c1, c2, c3, c4, c5, c6, c7], _ =>
        obtain ⟨p, ⟨rfl, rfl, rfl, rfl, rfl, rfl, rfl, rfl⟩, hp⟩ := open_spanc h2
        exact ⟨p, ⟨h4 0 (by omega), h4 1 (by omega), h4 2 (by omega), h4 3 (by omega), h4 4 (by omega), h4 5 (by omega), h4 6 (by omega), h4 7 (by omega)⟩, hp⟩
    have inh : Inhabited (SV × SD) := ⟨(⟨⟨⟨false, none, 0, 0⟩, ⟨false, none, 0, 0⟩⟩, ⟨⟨false, none, 0, 0⟩, ⟨false, none, 0, 0⟩⟩⟩, ⟨⟨⟨false, []⟩, ⟨false, []⟩⟩, ⟨⟨false, []⟩, ⟨false, []⟩⟩⟩)⟩
    obtain ⟨f, hf⟩ := Go.Deep.choose_lt each
    refine ⟨some a', n, m, (List.range n).map f, rfl, ⟨?_, ?_⟩, by simp, Nat.le_trans hl hm, ?_⟩
    · by_cases h0 : n = 0
      · subst h0; exact .inl rfl
      · obtain ⟨b, off, spot⟩ := a'
        have hc := (hf 0 (by omega)).1.1
        have hspot : spot = none := by simpa [Addr.add] using World.cell?_spot hc
        subst hspot
        refine .inr ⟨b, off, rfl, ?_, fun i hi => ?_⟩
        · have := World.block_lt_of_cell? _ _ hc
          rw [addr_add, addr_add] at this
          exact this
        · have hi' : i < n := by simpa using hi
          have h1 := (hf i hi').1
          rw [addr_add, addr_add, addr_add, addr_add, addr_add, addr_add, addr_add, addr_add, addr_add] at h1
          simpa using h1
    · intro p hp
      obtain ⟨i, hi, rfl⟩ := List.mem_map.1 hp
      exact (hf i (List.mem_range.1 hi)).2.1
    · intro p hp
      obtain ⟨i, hi, rfl⟩ := List.mem_map.1 hp
      exact (hf i (List.mem_range.1 hi)).2.2
end Go.Proofs.Ytikllcoekcglcaa
namespace Go.Proofs.Ytikllcoekcglcaa
open Go.RowKit
set_option linter.unusedVariables false
set_option maxRecDepth 100000
set_option linter.unusedSimpArgs false

theorem toP (x y : Int) (w : World) :
    Calls Try.prog 44 #[.agg #[.int .i64 x, .int .i64 y]] w fun e w' => e = .returned (.agg #[.int .i64 x, .int .i64 y]) ∧ Below w.heap.size w w' := by
  go_enter Try.func44, Try.ntmps44
  go_wp2
  refine bodyPost_ret (v := .agg #[.int .i64 x, .int .i64 y]) (by simp [results, Try.results44, go_sem]) rfl ⟨rfl, ?_⟩
  exact (((Below.refl _ _).alloc (Nat.le_refl _) _).alloc (by simp) _).alloc (by simp; omega) _
/-- A slice that reads as these points. -/
def SlP (w : World) (a : Option Addr) (l : List (Int × Int)) : Prop := l = [] ∨ ∃ b off, a = some ⟨b, off, none⟩ ∧ b < w.heap.size ∧ ∀ i (h : i < l.length), w.cell? ⟨b, off + i * 2, none⟩ = some (.int .i64 l[i].1) ∧ w.cell? ⟨b, off + i * 2 + 1, none⟩ = some (.int .i64 l[i].2)
theorem SlP.later {w w' : World} {a : Option Addr} {l : List (Int × Int)} (h : SlP w a l) (hb : Below w.heap.size w w') : SlP w' a l := by
  rcases h with h | ⟨b, off, rfl, h1, h2⟩
  · exact .inl h
  · exact .inr ⟨b, off, rfl, Nat.lt_of_lt_of_le h1 hb.size, fun i hi => ⟨cell_later hb ((h2 i hi).1), cell_later hb ((h2 i hi).2)⟩⟩
/-- .. as an argument. -/
structure ArP (w : World) (a : Option Addr) (n c : Nat) (l : List (Int × Int)) : Prop where
  sl : SlP w a l
  len : l.length = n
  cap : n ≤ c
  top : c ≤ maxLen
theorem ArP.later {w w' : World} {a : Option Addr} {n c : Nat} {l : List (Int × Int)} (h : ArP w a n c l) (hb : Below w.heap.size w w') : ArP w' a n c l := ⟨h.sl.later hb, h.len, h.cap, h.top⟩
theorem szPs (a : Option Addr) (n c : Nat) (left : Int) (w : World) (hm : n ≤ maxLen) (h0 : 0 ≤ left) (h1 : left ≤ 1048576) :
    Calls Try.prog 18 #[.slice a n c, .int .i64 left] w fun e w' => Below w.heap.size w w' ∧ ((e = .returned (.int .i64 (-1)) ∧ left < n) ∨ (e = .returned (.int .i64 (left - n)) ∧ (n : Int) ≤ left)) := by
  unfold maxLen at hm
  have iw : IntKind.i64.wrap (left - (n : Int)) = left - (n : Int) := by rw [IntKind.wrap_i64]; omega
  by_cases c0 : left - (n : Int) < 0
  · have d0 : decide (left - (n : Int) < 0) = true := decide_eq_true c0
    go_enter Try.func18, Try.ntmps18
    go_wp2
    go_ret
    exact ⟨Below.refl _ _, .inl ⟨rfl, by omega⟩⟩
  · have d0 : decide (left - (n : Int) < 0) = false := decide_eq_false c0
    go_enter Try.func18, Try.ntmps18
    go_wp2
    go_ret
    exact ⟨Below.refl _ _, .inr ⟨rfl, by omega⟩⟩
theorem eqP (x y : Int) (w : World) :
    Calls Try.prog 48 #[.agg #[.int .i64 x, .int .i64 y], .agg #[.int .i64 x, .int .i64 y]] w fun e w' => e = .returned (.bool true) ∧ Below w.heap.size w w' := by
  go_enter Try.func48, Try.ntmps48
  go_wp2
  go_ret
  exact ⟨rfl, ((Below.refl _ _).alloc (Nat.le_refl _) _).alloc (by simp) _⟩
theorem cdP {w : World} {b o : Nat} {v : Value} (h : w.cell? ⟨b, o, none⟩ = some v) : w.drew.cell? ⟨b, o, none⟩ = some v := h
theorem take_succP {l : List (Int × Int)} {i : Nat} (h : i < l.length) : l.take (i + 1) = l.take i ++ [l[i]] := (List.take_append_getElem h).symm
set_option maxHeartbeats 4000000 in
theorem eqPs (a a' : Option Addr) (n c c' : Nat) (l : List (Int × Int)) (w : World) (h : SlP w a l) (h' : SlP w a' l) (hn : l.length = n) (hm : n ≤ maxLen) :
    Calls Try.prog 22 #[.slice a n c, .slice a' n c'] w fun e w' => e = .returned (.bool true) ∧ Below w.heap.size w w' := by
  have HS := hide h
  have HS' := hide h'
  have HN := hide hn
  clear h hn h'
  unfold maxLen at hm
  go_enter Try.func22, Try.ntmps22
  go_wp2
  go_loopw [5] (fun iv wr => ∃ (i : Nat), i ≤ n ∧ iv = .int .i64 i ∧ Hid (Below w.heap.size w wr)) (fun iv _ => n - (intOf iv).toNat)
  case atStart => exact ⟨0, Nat.zero_le _, rfl, hide (Below.refl _ _)⟩
  case round =>
    obtain ⟨i, hi, rfl, HB⟩ := hrel
    by_cases hlt : i < n
    · have hlt' : (i : Int) < (n : Int) := by omega
      rcases (unhide HS) with e | ⟨b, off, rfl, hb, hc⟩
      · exact absurd (unhide HN) (by rw [e]; simp; omega)
      have e0 := hc i (by rw [unhide HN]; exact hlt)
      rcases (unhide HS') with e | ⟨b', off', rfl, hb', hc'⟩
      · exact absurd (unhide HN) (by rw [e]; simp; omega)
      have f0 := hc' i (by rw [unhide HN]; exact hlt)
      obtain ⟨y, hy⟩ : ∃ y, y = l[i]'(by rw [unhide HN]; exact hlt) := ⟨_, rfl⟩
      rw [← hy] at e0 f0
      clear hy hc hc'
      have E0 : wr.cell? ⟨b, off + i * 2, none⟩ = some (.int .i64 y.1) := ((unhide HB).cell (p := ⟨b, off + i * 2, none⟩) hb).trans (e0.1)
      have E1 : wr.cell? ⟨b, off + i * 2 + 1, none⟩ = some (.int .i64 y.2) := ((unhide HB).cell (p := ⟨b, off + i * 2 + 1, none⟩) hb).trans (e0.2)
      have F0 : wr.cell? ⟨b', off' + i * 2, none⟩ = some (.int .i64 y.1) := ((unhide HB).cell (p := ⟨b', off' + i * 2, none⟩) hb').trans (f0.1)
      have F1 : wr.cell? ⟨b', off' + i * 2 + 1, none⟩ = some (.int .i64 y.2) := ((unhide HB).cell (p := ⟨b', off' + i * 2 + 1, none⟩) hb').trans (f0.2)
      clear e0 f0
      go_upto_region 6 with fail
      go_region_held3 (fun w' => w'.cell? ⟨b, off + i * 2, none⟩ = some (.int .i64 y.1) ∧ w'.cell? ⟨b, off + i * 2 + 1, none⟩ = some (.int .i64 y.2) ∧ w'.cell? ⟨b', off' + i * 2, none⟩ = some (.int .i64 y.1) ∧ w'.cell? ⟨b', off' + i * 2 + 1, none⟩ = some (.int .i64 y.2))
        (with_reducible (first | exact ⟨E0, E1, F0, F1⟩ | exact ⟨cdP E0, cdP E1, cdP F0, cdP F1⟩ | fail))
        (first
        | (go_at_call 48; refine (eqP y.1 y.2 _).mono ?_; rintro e w1 ⟨rfl, hb1⟩; have HB1 := hide (below_on (unhide HB) (below_of_drew hb1)); have hbx := below_of_drew hb1; replace E0 := cell_later hbx E0; replace E1 := cell_later hbx E1; replace F0 := cell_later hbx F0; replace F1 := cell_later hbx F1; clear hb1 hbx)
        | fail)
      clear E0 F0 E1 F1
      go_wp2
      go_roundw
      case rel => exact ⟨i + 1, by omega, by go_num, HB1⟩
      case measure => simp [intOf]; omega
    · obtain rfl : i = n := by omega
      go_wp2
      go_ret
      exact ⟨rfl, unhide HB⟩
/-- Points in a row of one's own, at block G. -/
structure OwP (w : World) (G n c : Nat) (l : List (Int × Int)) : Prop where
  row : ∃ M, w.ownsRow G 62 2 (.slice (some ⟨G, 0, none⟩) n c) n M ∧ ∀ i (h : i < l.length), M[i * 2]? = some (.int .i64 l[i].1) ∧ M[i * 2 + 1]? = some (.int .i64 l[i].2)
  len : l.length = n
theorem ownsRow_laterP {w w' : World} {G g n c size : Nat} {e : TypeId} {M : List Value} (h : w.ownsRow G e size (.slice (some ⟨g, 0, none⟩) n c) n M) (hb : Below w.heap.size w w') : w'.ownsRow G e size (.slice (some ⟨g, 0, none⟩) n c) n M := by
  refine ⟨h.1, ?_⟩
  rcases h.2 with ⟨h', _⟩ | ⟨g', cap, cur, hv, h1, hg, r⟩
  · simp at h'
  · refine .inr ⟨g', cap, cur, hv, h1, ?_, r⟩
    rw [hb.block g' (Array.getElem?_eq_some_iff.1 hg).1]
    exact hg
theorem OwP.later {w w' : World} {G n c : Nat} {l : List (Int × Int)} (h : OwP w G n c l) (hb : Below w.heap.size w w') : OwP w' G n c l := by
  obtain ⟨M, hr, hM⟩ := h.row
  exact ⟨⟨M, ownsRow_laterP hr hb, hM⟩, h.len⟩
theorem OwP.arg {w : World} {G n c : Nat} {l : List (Int × Int)} (h : OwP w G n c l) : ArP w (some ⟨G, 0, none⟩) n c l := by
  obtain ⟨M, hr, hM⟩ := h.row
  have hl := h.len
  rcases hr.2 with ⟨h', _⟩ | ⟨g', cap, cur, hv, h1, hg, r1, r2, r3⟩
  · simp at h'
  simp only [Value.slice.injEq, Option.some.injEq, Addr.mk.injEq, and_true, true_and] at hv
  obtain ⟨rfl, rfl⟩ := hv
  refine ⟨.inr ⟨G, 0, rfl, (Array.getElem?_eq_some_iff.1 hg).1, fun i hi => ?_⟩, hl, r1, r2⟩
  have hc := hM i hi
  refine ⟨?_, ?_⟩ <;> rw [Nat.zero_add, hr.cellAt _ (by omega)]
  · exact hc.1
  · exact hc.2
theorem but_rowP {w : World} {G k : Nat} {x y : Value} : But G (G + 1) w ((w.setCell ⟨G, k * 2, none⟩ x).setCell ⟨G, k * 2 + 1, none⟩ y) := (((But.refl _ _ _).set (p := ⟨G, k * 2, none⟩) (Nat.le_refl G) (Nat.lt_succ_self G) x).set (p := ⟨G, k * 2 + 1, none⟩) (Nat.le_refl G) (Nat.lt_succ_self G) y)
theorem infoPt : (Try.prog.info? 62).map (fun i => (i.zero, i.size, i.bytes)) = some (some (.agg #[.int .i64 0, .int .i64 0]), 2, 16) := by kernel_rfl
theorem set_rowP {M : List Value} {us : List (Int × Int)} {n k : Nat} {x y : Int} (hM : M.length = n * 2) (hk : k < n) (hu : us.length = k) (h : ∀ i (h : i < us.length), M[i * 2]? = some (.int .i64 us[i].1) ∧ M[i * 2 + 1]? = some (.int .i64 us[i].2)) :
    ∀ i (h : i < (us ++ [(x, y)]).length), ((M.set (k * 2) (.int .i64 x)).set (k * 2 + 1) (.int .i64 y))[i * 2]? = some (.int .i64 (us ++ [(x, y)])[i].1) ∧ ((M.set (k * 2) (.int .i64 x)).set (k * 2 + 1) (.int .i64 y))[i * 2 + 1]? = some (.int .i64 (us ++ [(x, y)])[i].2) := by
  intro i hi
  by_cases e : i < k
  · have hi' : i < us.length := by omega
    have h1 := h i hi'
    rw [List.getElem_append_left hi']
    simp only [List.getElem?_set]
    refine ⟨?_, ?_⟩
    · rw [if_neg (by omega), if_neg (by omega)]; exact h1.1
    · rw [if_neg (by omega), if_neg (by omega)]; exact h1.2
  · obtain rfl : i = k := by simp at hi; omega
    subst hu
    rw [List.getElem_append_right (Nat.le_refl _)]
    simp only [Nat.sub_self, List.getElem_cons_zero]
    refine ⟨?_, ?_⟩
    · simp only [List.getElem?_set, List.length_set]; rw [if_neg (by omega)]; rw [if_pos trivial, if_pos (by omega)]
    · simp only [List.getElem?_set, List.length_set]; rw [if_pos trivial, if_pos (by omega)]
set_option maxHeartbeats 4000000 in
theorem toPs (a : Option Addr) (n c : Nat) (l : List (Int × Int)) (w : World) (h : SlP w a l) (hn : l.length = n) (h1 : n ≤ 1048576) :
    Calls Try.prog 20 #[.slice a n c] w fun e w' => e = .returned (.slice (some ⟨w.heap.size, 0, none⟩) n n) ∧ Below w.heap.size w w' ∧ OwP w' w.heap.size n n l := by
  obtain ⟨i0, hi, hz0, hz1, hz2⟩ := info_parts infoPt
  have HS := hide h
  have HN := hide hn
  clear h hn
  go_enter Try.func20, Try.ntmps20
  go_wp2_with (at_make; refine wpList_make_full _ rfl _ _ 35 rfl w.heap.size 62 i0 (.agg #[.int .i64 0, .int .i64 0]) 2 Try.underlying35 hi hz0 hz1 .i64 .i64 _ _ n rfl rfl rfl rfl ?c1 ?c2 ?c3 ?_)
  case c1 => rw [hz2]; omega
  case c2 => unfold maxLen; omega
  case c3 => exact Nat.le_refl _
  intro w1 hown hgrow
  have hb0 : Below w.heap.size w w1 := (Below.refl _ _).grown hgrow (Nat.le_refl _) (fun k e => by cases e)
  have P0 : Hid (∃ M, w1.ownsRow w.heap.size 62 2 (.slice (some ⟨w.heap.size, 0, none⟩) n n) n M) := hide ⟨_, hown⟩
  clear hown hgrow hi hz0 hz1 hz2
  have HB0 := hide hb0
  clear hb0
  go_wp2
  go_loopw [4] (fun iv wr => ∃ k : Nat, k ≤ n ∧ iv = .int .i64 k ∧ Hid (∃ M, wr.ownsRow w.heap.size 62 2 (.slice (some ⟨w.heap.size, 0, none⟩) n n) n M ∧ ∀ i (h : i < (l.take k).length), M[i * 2]? = some (.int .i64 (l.take k)[i].1) ∧ M[i * 2 + 1]? = some (.int .i64 (l.take k)[i].2)) ∧ Hid (Below w.heap.size w wr)) (fun iv _ => n - (intOf iv).toNat)
  case atStart =>
    obtain ⟨M, hM⟩ := unhide P0
    exact ⟨0, Nat.zero_le _, rfl, hide ⟨M, hM, fun i hi => absurd hi (by simp)⟩, HB0⟩
  case round =>
    clear P0 HB0
    obtain ⟨k, hk, rfl, EM, HB⟩ := hrel
    by_cases hlt : k < n
    · have hlt' : (k : Int) < (n : Int) := by omega
      rcases (unhide HS) with e | ⟨b, off, rfl, hb, hc⟩
      · exact absurd (unhide HN) (by rw [e]; simp; omega)
      have e0 := hc k (by rw [unhide HN]; exact hlt)
      obtain ⟨y, hy⟩ : ∃ y, y = l[k]'(by rw [unhide HN]; exact hlt) := ⟨_, rfl⟩
      rw [← hy] at e0
      have TK : Hid (l.take (k + 1) = l.take k ++ [(y.1, y.2)]) := hide (by have h := take_succP (l := l) (i := k) (by rw [unhide HN]; exact hlt); rw [← hy] at h; exact h)
      clear hy hc
      have E0 : wr.cell? ⟨b, off + k * 2, none⟩ = some (.int .i64 y.1) := ((unhide HB).cell (p := ⟨b, off + k * 2, none⟩) hb).trans (e0.1)
      have E1 : wr.cell? ⟨b, off + k * 2 + 1, none⟩ = some (.int .i64 y.2) := ((unhide HB).cell (p := ⟨b, off + k * 2 + 1, none⟩) hb).trans (e0.2)
      clear e0
      go_wp2_with fail
      refine (toP y.1 y.2 _).mono ?_
      rintro e w2 ⟨rfl, hb2⟩
      have HB1 := hide (below_on (unhide HB) hb2)
      obtain ⟨M, hM, hL⟩ := unhide EM
      replace hM := ownsRow_laterP hM hb2
      have old0 : ∃ x, w2.cell? ⟨w.heap.size, k * 2, none⟩ = some x := by
        have hl := hM.1
        rw [hM.cellAt _ (by omega)]
        exact ⟨_, List.getElem?_eq_getElem (by omega)⟩
      obtain ⟨x0, o0⟩ := old0
      have old1 : ∃ x, w2.cell? ⟨w.heap.size, k * 2 + 1, none⟩ = some x := by
        have hl := hM.1
        rw [hM.cellAt _ (by omega)]
        exact ⟨_, List.getElem?_eq_getElem (by omega)⟩
      obtain ⟨x1, o1⟩ := old1
      have fr : ∀ o, w2.frozen? ⟨w.heap.size, o, none⟩ = false := fun o => hM.frozenAt o
      have HM := hide hM
      have HL := hide hL
      clear hM hL hb2 EM E0 E1
      go_wp2
      go_roundw
      case rel =>
        have hM := unhide HM
        refine ⟨k + 1, by omega, by go_num, hide ⟨_, (World.ownsRow.stored (World.ownsRow.stored hM (k * 2) (.int .i64 y.1)).1 (k * 2 + 1) (.int .i64 y.2)).1, ?_⟩, hide ?_⟩
        · rw [unhide TK]
          exact set_rowP hM.1 hlt (by rw [List.length_take, unhide HN]; omega) (unhide HL)
        · exact but_rowP.below (unhide HB1) (Nat.le_refl _) (by have := (unhide HB1).size; omega)
      case measure => simp [intOf]; omega
    · obtain rfl : k = n := by omega
      go_wp2
      go_ret
      obtain ⟨M, hM, hL⟩ := unhide EM
      rw [← unhide HN, List.take_length] at hL
      exact ⟨rfl, unhide HB, ⟨M, hM, hL⟩, unhide HN⟩
end Go.Proofs.Ytikllcoekcglcaa
namespace Go.Proofs.Ytikllcoekcglcaa
open Go.RowKit
set_option linter.unusedVariables false
set_option maxRecDepth 100000
set_option linter.unusedSimpArgs false

def inR (n lo hi : Int) : Bool := decide (lo ≤ n) && decide (n ≤ hi)
theorem inS8 (n lo hi : Int) (w : World) :
    Calls Try.prog 32 #[.int .i64 n, .int .i64 lo, .int .i64 hi] w fun e w' => e = .returned (.bool (inR n lo hi)) ∧ w' = w := by
  unfold inR
  by_cases h1 : lo ≤ n
  · by_cases h2 : n ≤ hi
    · have d1 : decide (lo ≤ n) = true := decide_eq_true h1
      have d2 : decide (n ≤ hi) = true := decide_eq_true h2
      go_enter Try.func32, Try.ntmps32
      go_wp2
      go_ret
      exact ⟨by first | rfl | (rw [d1, d2]; rfl), rfl⟩
    · have d1 : decide (lo ≤ n) = true := decide_eq_true h1
      have d2 : decide (n ≤ hi) = false := decide_eq_false h2
      go_enter Try.func32, Try.ntmps32
      go_wp2
      go_ret
      exact ⟨by first | rfl | (rw [d1, d2]; rfl), rfl⟩
  · have d1 : decide (lo ≤ n) = false := decide_eq_false h1
    go_enter Try.func32, Try.ntmps32
    go_wp2
    go_ret
    exact ⟨by first | rfl | (rw [d1]; rfl), rfl⟩
def gPt (p : Int × Int) : Bool := inR p.1 (-1000) 1000 && inR p.2 (-1000) 1000
theorem goodPS (x y : Int) (w : World) :
    Calls Try.prog 62 #[.agg #[.int .i64 x, .int .i64 y]] w fun e w' => e = .returned (.bool (gPt (x, y))) ∧ Below w.heap.size w w' := by
  unfold gPt
  cases h1 : inR x (-1000) 1000
  · have C1 := hide (fun w => inS8 x (-1000) 1000 w)
    rw [h1] at C1
    go_enter Try.func62, Try.ntmps62
    go_wp2_with fail
    refine (unhide C1 _).mono ?_
    rintro e w1 ⟨rfl, rfl⟩
    go_wp2_with fail
    go_ret
    exact ⟨rfl, (Below.refl _ _).alloc (Nat.le_refl _) _⟩
  · have C1 := hide (fun w => inS8 x (-1000) 1000 w)
    have C2 := hide (fun w => inS8 y (-1000) 1000 w)
    rw [h1] at C1
    generalize inR y (-1000) 1000 = r at *
    go_enter Try.func62, Try.ntmps62
    go_wp2_with fail
    refine (unhide C1 _).mono ?_
    rintro e w1 ⟨rfl, rfl⟩
    go_wp2_with fail
    refine (unhide C2 _).mono ?_
    rintro e w1 ⟨rfl, rfl⟩
    go_wp2_with fail
    go_ret
    exact ⟨by cases r <;> rfl, (Below.refl _ _).alloc (Nat.le_refl _) _⟩
set_option maxHeartbeats 2000000 in
theorem ptsS (a : Option Addr) (n c : Nat) (l : List (Int × Int)) (w : World) (h : SlP w a l) (hn : l.length = n) (hm : n ≤ maxLen) :
    Calls Try.prog 42 #[.slice a n c] w fun e w' => e = .returned (.bool (l.all gPt)) ∧ Below w.heap.size w w' := by
  have HS := hide h
  have HN := hide hn
  clear h hn
  unfold maxLen at hm
  go_enter Try.func42, Try.ntmps42
  go_wp2
  go_loopw [7] (fun iv wr => ∃ i : Nat, i ≤ n ∧ iv = .int .i64 i ∧ Hid ((l.take i).all gPt = true) ∧ Hid (Below w.heap.size w wr)) (fun iv _ => n - (intOf iv).toNat)
  case atStart => exact ⟨0, Nat.zero_le _, rfl, hide rfl, hide (Below.refl _ _)⟩
  case round =>
    obtain ⟨i, hi, rfl, HA, HB⟩ := hrel
    by_cases hlt : i < n
    · have hlt' : (i : Int) < (n : Int) := by omega
      rcases (unhide HS) with e | ⟨b, off, rfl, hb, hc⟩
      · exact absurd (unhide HN) (by rw [e]; simp; omega)
      have e0 := hc i (by rw [unhide HN]; exact hlt)
      obtain ⟨y, hy⟩ : ∃ y, y = l[i]'(by rw [unhide HN]; exact hlt) := ⟨_, rfl⟩
      rw [← hy] at e0
      have MY : Hid (y ∈ l) := hide (by rw [hy]; exact List.getElem_mem _)
      have TK : Hid ((l.take (i + 1)).all gPt = gPt y) := hide (by rw [take_succP (by rw [unhide HN]; exact hlt), List.all_append, unhide HA, ← hy]; simp)
      clear hy hc
      have E0 : wr.cell? ⟨b, off + i * 2, none⟩ = some (.int .i64 y.1) := ((unhide HB).cell (p := ⟨b, off + i * 2, none⟩) hb).trans (e0.1)
      have E1 : wr.cell? ⟨b, off + i * 2 + 1, none⟩ = some (.int .i64 y.2) := ((unhide HB).cell (p := ⟨b, off + i * 2 + 1, none⟩) hb).trans (e0.2)
      clear e0
      have C1 := hide (fun w => goodPS y.1 y.2 w)
      cases hg : gPt y
      · have hg2 : gPt (y.1, y.2) = false := hg
        rw [hg2] at C1
        have NA : Hid (l.all gPt = false) := hide (by rw [List.all_eq_false]; exact ⟨y, unhide MY, by rw [hg]; simp⟩)
        go_wp2_with fail
        refine (unhide C1 _).mono ?_
        rintro e w1 ⟨rfl, hb1⟩
        have HB1 := hide (below_on (below_on (unhide HB) ((Below.refl _ _).alloc (Nat.le_refl _) _)) hb1)
        clear hb1 E0 E1
        go_wp2
        go_ret
        exact ⟨by rw [unhide NA]; rfl, unhide HB1⟩
      · have hg2 : gPt (y.1, y.2) = true := hg
        rw [hg2] at C1
        go_wp2_with fail
        refine (unhide C1 _).mono ?_
        rintro e w1 ⟨rfl, hb1⟩
        have HB1 := hide (below_on (below_on (unhide HB) ((Below.refl _ _).alloc (Nat.le_refl _) _)) hb1)
        clear hb1 E0 E1
        go_wp2
        go_roundw
        case rel => exact ⟨i + 1, by omega, by go_num, hide (by rw [unhide TK, hg]), HB1⟩
        case measure => simp [intOf]; omega
    · obtain rfl : i = n := by omega
      have EA : Hid (l.all gPt = true) := hide (by have := unhide HA; rw [← unhide HN, List.take_length] at this; exact this)
      go_wp2
      go_ret
      exact ⟨by rw [unhide EA]; rfl, unhide HB⟩
def crs (a b c : Int × Int) : Int := (b.1 - a.1) * (c.2 - a.2) - (b.2 - a.2) * (c.1 - a.1)
def sgZ (n : Int) : Int := if 0 < n then 1 else if n < 0 then -1 else 0
/-- A point of the document's, or one a little beyond. -/
structure Near (p : Int × Int) : Prop where
  x0 : -100000 ≤ p.1
  x1 : p.1 ≤ 100000
  y0 : -100000 ≤ p.2
  y1 : p.2 ≤ 100000
theorem near_of {p : Int × Int} (h : gPt p = true) : Near p := by
  simp [gPt, inR] at h
  exact ⟨by omega, by omega, by omega, by omega⟩
theorem mul_bd {u v : Int} (h1 : -200000 ≤ u) (h2 : u ≤ 200000) (h3 : -200000 ≤ v) (h4 : v ≤ 200000) : -40000000000 ≤ u * v ∧ u * v ≤ 40000000000 := by
  have h := Nat.mul_le_mul (show u.natAbs ≤ 200000 by omega) (show v.natAbs ≤ 200000 by omega)
  rw [← Int.natAbs_mul] at h
  omega
theorem al3 (w : World) (o p q : Obj) : Below w.heap.size w (((w.alloc o).alloc p).alloc q) := (((Below.refl _ _).alloc (Nat.le_refl _) _).alloc (by simp) _).alloc (by simp; omega) _
theorem crs_bd {a b c : Int × Int} (ha : Near a) (hb : Near b) (hc : Near c) : -80000000000 ≤ crs a b c ∧ crs a b c ≤ 80000000000 := by
  obtain ⟨a0, a1, a2, a3⟩ := ha
  obtain ⟨b0, b1, b2, b3⟩ := hb
  obtain ⟨c0, c1, c2, c3⟩ := hc
  have m1 := @mul_bd (b.1 - a.1) (c.2 - a.2) (by omega) (by omega) (by omega) (by omega)
  have m2 := @mul_bd (b.2 - a.2) (c.1 - a.1) (by omega) (by omega) (by omega) (by omega)
  unfold crs
  omega
/-- What three points tell. -/
def orV (a b c : Int × Int) : Int := if [a, b, c].all gPt then sgZ (crs a b c) else 0
theorem cellsP3 (w : World) (a b c : Int × Int) : SlP (w.alloc (.cells #[.int .i64 a.1, .int .i64 a.2, .int .i64 b.1, .int .i64 b.2, .int .i64 c.1, .int .i64 c.2] 62)) (some ⟨w.heap.size, 0, none⟩) [a, b, c] := by
  refine .inr ⟨w.heap.size, 0, rfl, by simp, fun i hi => ?_⟩
  match i, hi with
  | 0, _ => exact ⟨by simp [go_sem], by simp [go_sem]⟩
  | 1, _ => exact ⟨by simp [go_sem], by simp [go_sem]⟩
  | 2, _ => exact ⟨by simp [go_sem], by simp [go_sem]⟩
def btw (a b x : Int) : Bool := (decide (a ≤ x) && decide (x ≤ b)) || (decide (b ≤ x) && decide (x ≤ a))
def onV (a b p : Int × Int) : Bool := decide (crs a b p = 0) && (btw a.1 b.1 p.1 && btw a.2 b.2 p.2)
/-- Whether a point is on a segment, as told. -/
def osV (a b c : Int × Int) : Bool := if [a, b, c].all gPt then onV a b c else false
def gcdZ (a b : Int) : Int := ((Nat.gcd a.natAbs b.natAbs : Nat) : Int)
def gcI (a b : Int) : Bool := inR a (-10000) 10000 && inR b (-10000) 10000
theorem inR_le {n lo hi : Int} (h : inR n lo hi = true) : lo ≤ n ∧ n ≤ hi := by simpa [inR] using h
def wayB (l : List (Int × Int)) : Bool := inR l.length 3 12 && l.all gPt
theorem wayS (a : Option Addr) (n c : Nat) (l : List (Int × Int)) (w : World) (h : SlP w a l) (hn : l.length = n) (hm : n ≤ maxLen) :
    Calls Try.prog 51 #[.slice a n c] w fun e w' => e = .returned (.bool (wayB l)) ∧ Below w.heap.size w w' := by
  have C1 := hide (fun w => inS8 n 3 12 w)
  have C2 := hide (fun w (k : SlP w a l) => ptsS a n c l w k hn hm)
  have HS := hide h
  unfold wayB
  rw [hn]
  clear h hn hm
  cases h1 : inR (n : Int) 3 12
  · rw [h1] at C1
    go_enter Try.func51, Try.ntmps51
    go_wp2_with fail
    refine (unhide C1 _).mono ?_
    rintro e w1 ⟨rfl, rfl⟩
    go_wp2_with fail
    go_ret
    exact ⟨rfl, Below.refl _ _⟩
  · rw [h1] at C1
    generalize l.all gPt = r at *
    go_enter Try.func51, Try.ntmps51
    go_wp2_with fail
    refine (unhide C1 _).mono ?_
    rintro e w1 ⟨rfl, rfl⟩
    go_wp2_with fail
    refine (unhide C2 _ (unhide HS)).mono ?_
    rintro e w2 ⟨rfl, hb⟩
    go_wp2_with fail
    go_ret
    exact ⟨by cases r <;> rfl, hb⟩
/-- The point behind one. -/
def nxt (l : List (Int × Int)) (i : Nat) : Int × Int := l.getD ((i + 1) % l.length) (0, 0)
theorem getD_gt {l : List (Int × Int)} {i : Nat} (h : i < l.length) : l.getD i (0, 0) = l[i] := by rw [List.getD_eq_getElem?_getD, List.getElem?_eq_getElem h]; rfl
theorem nxt_mem {l : List (Int × Int)} (h : 0 < l.length) (i : Nat) : nxt l i ∈ l := by
  unfold nxt
  rw [getD_gt (Nat.mod_lt _ h)]
  exact List.getElem_mem _
def arS (l : List (Int × Int)) : Nat → Int
  | 0 => 0
  | k + 1 => arS l k + ((l.getD k (0, 0)).1 * (nxt l k).2 - (nxt l k).1 * (l.getD k (0, 0)).2)
theorem cr_bd {p q : Int × Int} (hp : Near p) (hq : Near q) : -80000000000 ≤ p.1 * q.2 - q.1 * p.2 ∧ p.1 * q.2 - q.1 * p.2 ≤ 80000000000 := by
  have m1 := @mul_bd p.1 q.2 (by have := hp.x0; omega) (by have := hp.x1; omega) (by have := hq.y0; omega) (by have := hq.y1; omega)
  have m2 := @mul_bd q.1 p.2 (by have := hq.x0; omega) (by have := hq.x1; omega) (by have := hp.y0; omega) (by have := hp.y1; omega)
  omega
theorem arS_bd {l : List (Int × Int)} (h : ∀ p ∈ l, Near p) : ∀ k, k ≤ l.length → -((k : Int) * 80000000000) ≤ arS l k ∧ arS l k ≤ (k : Int) * 80000000000
  | 0, _ => by simp [arS]
  | k + 1, hk => by
    have ih := arS_bd h k (by omega)
    have b := cr_bd (h (l.getD k (0, 0)) (by rw [getD_gt (by omega)]; exact List.getElem_mem _)) (h _ (nxt_mem (by omega) k))
    unfold arS
    omega
theorem gcd_bd {a b : Int} (h0 : -200000 ≤ a) (h1 : a ≤ 200000) (h2 : -200000 ≤ b) (h3 : b ≤ 200000) : 0 ≤ gcdZ a b ∧ gcdZ a b ≤ 200000 := by
  unfold gcdZ
  refine ⟨by omega, ?_⟩
  by_cases ha : a.natAbs = 0
  · rw [ha, Nat.gcd_zero_left]; omega
  · have := Nat.gcd_le_left b.natAbs (show 0 < a.natAbs by omega)
    omega
def boS (l : List (Int × Int)) : Nat → Int
  | 0 => 0
  | k + 1 => boS l k + gcdZ ((nxt l k).1 - (l.getD k (0, 0)).1) ((nxt l k).2 - (l.getD k (0, 0)).2)
theorem boS_bd {l : List (Int × Int)} (h : ∀ p ∈ l, Near p) : ∀ k, k ≤ l.length → 0 ≤ boS l k ∧ boS l k ≤ (k : Int) * 200000
  | 0, _ => by simp [boS]
  | k + 1, hk => by
    have ih := boS_bd h k (by omega)
    have np := h (l.getD k (0, 0)) (by rw [getD_gt (by omega)]; exact List.getElem_mem _)
    have nq := h _ (nxt_mem (show 0 < l.length by omega) k)
    have n0 := np.x0
    have n1 := np.x1
    have n2 := np.y0
    have n3 := np.y1
    have n4 := nq.x0
    have n5 := nq.x1
    have n6 := nq.y0
    have n7 := nq.y1
    have b := gcd_bd (a := (nxt l k).1 - (l.getD k (0, 0)).1) (b := (nxt l k).2 - (l.getD k (0, 0)).2) (by omega) (by omega) (by omega) (by omega)
    unfold boS
    omega
theorem way_parts {l : List (Int × Int)} (h : wayB l = true) : (3 ≤ l.length ∧ l.length ≤ 12) ∧ ∀ p ∈ l, Near p := by
  unfold wayB at h
  have h2 := (Bool.and_eq_true _ _).mp h
  have h3 := inR_le h2.1
  exact ⟨by omega, fun p hp => near_of (List.all_eq_true.1 h2.2 p hp)⟩
end Go.Proofs.Ytikllcoekcglcaa
namespace Go.Proofs.Ytikllcoekcglcaa
open Go.RowKit
set_option linter.unusedVariables false
set_option maxRecDepth 100000
set_option linter.unusedSimpArgs false

/-- Whether two segments have a point in common, as it is reckoned. -/
def meV (a b c d : Int × Int) : Bool := if onV a b c || onV a b d || onV c d a || onV c d b then true else decide (sgZ (crs a b c) * sgZ (crs a b d) < 0) && decide (sgZ (crs c d a) * sgZ (crs c d b) < 0)
theorem sg_bd (n : Int) : -1 ≤ sgZ n ∧ sgZ n ≤ 1 := by
  unfold sgZ
  split
  · omega
  · split <;> omega
theorem sg_mul {u v : Int} (h : -1 ≤ u ∧ u ≤ 1) (k : -1 ≤ v ∧ v ≤ 1) : IntKind.i64.wrap (u * v) = u * v := by
  have m := @mul_bd u v (by omega) (by omega) (by omega) (by omega)
  rw [IntKind.wrap_i64]; omega
theorem al4 (w : World) (o p q r : Obj) : Below w.heap.size w ((((w.alloc o).alloc p).alloc q).alloc r) := (al3 w o p q).alloc (by simp; omega) _
theorem cellsP4 (w : World) (a b c d : Int × Int) : SlP (w.alloc (.cells #[.int .i64 a.1, .int .i64 a.2, .int .i64 b.1, .int .i64 b.2, .int .i64 c.1, .int .i64 c.2, .int .i64 d.1, .int .i64 d.2] 62)) (some ⟨w.heap.size, 0, none⟩) [a, b, c, d] := by
  refine .inr ⟨w.heap.size, 0, rfl, by simp, fun i hi => ?_⟩
  match i, hi with
  | 0, _ => exact ⟨by simp [go_sem], by simp [go_sem]⟩
  | 1, _ => exact ⟨by simp [go_sem], by simp [go_sem]⟩
  | 2, _ => exact ⟨by simp [go_sem], by simp [go_sem]⟩
  | 3, _ => exact ⟨by simp [go_sem], by simp [go_sem]⟩
def smV (a b c d : Int × Int) : Bool := if [a, b, c, d].all gPt then meV a b c d else false
end Go.Proofs.Ytikllcoekcglcaa
namespace Go.Proofs.Ytikllcoekcglcaa
open Go.RowKit
set_option linter.unusedVariables false
set_option maxRecDepth 100000
set_option linter.unusedSimpArgs false

/-- Points that lie in a block below B. -/
def SlB8 (w : World) (B : Nat) (a : Option Addr) (l : List (Int × Int)) : Prop := l = [] ∨ ∃ b off, a = some ⟨b, off, none⟩ ∧ b < B ∧ b < w.heap.size ∧ ∀ i (h : i < l.length), w.cell? ⟨b, off + i * 2, none⟩ = some (.int .i64 l[i].1) ∧ w.cell? ⟨b, off + i * 2 + 1, none⟩ = some (.int .i64 l[i].2)
theorem SlP.below8 {w : World} {a : Option Addr} {l : List (Int × Int)} (h : SlP w a l) : SlB8 w w.heap.size a l := by
  rcases h with h | ⟨b, off, e, h1, h2⟩
  · exact .inl h
  · exact .inr ⟨b, off, e, h1, h1, h2⟩
theorem SlB8.sl {w : World} {B : Nat} {a : Option Addr} {l : List (Int × Int)} (h : SlB8 w B a l) : SlP w a l := by
  rcases h with h | ⟨b, off, e, h1, h2, h3⟩
  · exact .inl h
  · exact .inr ⟨b, off, e, h2, h3⟩
theorem SlB8.keep {w w' : World} {B lo hi : Nat} {a : Option Addr} {l : List (Int × Int)} (h : SlB8 w B a l) (hb : But lo hi w w') (hB : B ≤ lo) : SlB8 w' B a l := by
  rcases h with h | ⟨b, off, e, h1, h2, h3⟩
  · exact .inl h
  · exact .inr ⟨b, off, e, h1, Nat.lt_of_lt_of_le h2 hb.size, fun i hi => ⟨hb.cell (h3 i hi).1 (.inl (by omega)), hb.cell (h3 i hi).2 (.inl (by omega))⟩⟩
theorem SlB8.later {w w' : World} {B : Nat} {a : Option Addr} {l : List (Int × Int)} (h : SlB8 w B a l) (hb : Below w.heap.size w w') : SlB8 w' B a l := h.keep (But.of_below (lo := B) (hi := B) hb) (Nat.le_refl _)
theorem OwP.keep {w w' : World} {G n c lo hi : Nat} {l : List (Int × Int)} (h : OwP w G n c l) (hb : But lo hi w w') (hG : G < lo ∨ hi ≤ G) : OwP w' G n c l := by
  obtain ⟨M, hr, hM⟩ := h.row
  refine ⟨⟨M, ⟨hr.1, ?_⟩, hM⟩, h.len⟩
  rcases hr.2 with ⟨h', _⟩ | ⟨g', cap, cur, hv, h1, hg, r⟩
  · simp at h'
  · refine .inr ⟨g', cap, cur, hv, h1, ?_, r⟩
    have e : g' = G := by simp only [Value.slice.injEq, Option.some.injEq, Addr.mk.injEq, and_true, true_and] at hv; exact hv.1.symm
    subst e
    rw [hb.block _ (Array.getElem?_eq_some_iff.1 hg).1 hG]
    exact hg
theorem OwP.lt {w : World} {G n c : Nat} {l : List (Int × Int)} (h : OwP w G n c l) : G < w.heap.size := by
  obtain ⟨M, hr, _⟩ := h.row
  rcases hr.2 with ⟨h', _⟩ | ⟨g', cap, cur, hv, h1, hg, r⟩
  · simp at h'
  · have e : g' = G := by simp only [Value.slice.injEq, Option.some.injEq, Addr.mk.injEq, and_true, true_and] at hv; exact hv.1.symm
    subst e
    exact (Array.getElem?_eq_some_iff.1 hg).1
/-- n points that bear the numbers from k on. -/
def mks (k : Int) (n : Nat) : List (Int × Int) := (List.range n).map (fun i : Nat => (k + 2 * (i : Int), k + 2 * (i : Int) + 1))
theorem mks_len (k : Int) (n : Nat) : (mks k n).length = n := by simp [mks]
theorem mks_at {k : Int} {n i : Nat} (h : i < (mks k n).length) : (mks k n)[i] = (k + 2 * (i : Int), k + 2 * (i : Int) + 1) := by simp [mks]
set_option maxHeartbeats 4000000 in
theorem markPs (G n c : Nat) (k : Int) (l : List (Int × Int)) (w : World) (h : OwP w G n c l) (h1 : n ≤ 1048576) (k0 : 0 ≤ k) (k1 : k ≤ 1000000) :
    Calls Try.prog 23 #[.slice (some ⟨G, 0, none⟩) n c, .int .i64 k] w fun e w' => e = .returned (.int .i64 (k + 2 * n)) ∧ But G (G + 1) w w' ∧ OwP w' G n c (mks k n) := by
  have R0 := hide h.row
  clear h
  go_enter Try.func23, Try.ntmps23
  go_wp2
  go_loopw [1, 5] (fun kv iv wr => ∃ i : Nat, i ≤ n ∧ iv = .int .i64 i ∧ kv = .int .i64 (k + 2 * i) ∧ Hid (But G (G + 1) w wr) ∧ Hid (∃ M, wr.ownsRow G 62 2 (.slice (some ⟨G, 0, none⟩) n c) n M ∧ ∀ j (h : j < (mks k i).length), M[j * 2]? = some (.int .i64 (mks k i)[j].1) ∧ M[j * 2 + 1]? = some (.int .i64 (mks k i)[j].2))) (fun _ iv _ => n - (intOf iv).toNat)
  case atStart =>
    obtain ⟨M, hM, _⟩ := unhide R0
    exact ⟨0, Nat.zero_le _, rfl, by simp, hide (But.refl _ _ _), hide ⟨M, hM, fun j hj => absurd hj (by simp [mks])⟩⟩
  case round =>
    obtain ⟨i, hi, rfl, rfl, HB, EM⟩ := hrel
    by_cases hlt : i < n
    · have hlt' : (i : Int) < (n : Int) := by omega
      obtain ⟨M, hM, hL⟩ := unhide EM
      have old0 : ∃ x, wr.cell? ⟨G, i * 2, none⟩ = some x := by
        have hl := hM.1
        rw [hM.cellAt _ (by omega)]
        exact ⟨_, List.getElem?_eq_getElem (by omega)⟩
      obtain ⟨x0, o0⟩ := old0
      have old1 : ∃ x, wr.cell? ⟨G, i * 2 + 1, none⟩ = some x := by
        have hl := hM.1
        rw [hM.cellAt _ (by omega)]
        exact ⟨_, List.getElem?_eq_getElem (by omega)⟩
      obtain ⟨x1, o1⟩ := old1
      have fr : ∀ o, wr.frozen? ⟨G, o, none⟩ = false := fun o => hM.frozenAt o
      have HM := hide hM
      have HL := hide hL
      have v1 : IntKind.i64.wrap (k + 2 * (i : Int) + 1) = k + 2 * (i : Int) + 1 := by rw [IntKind.wrap_i64]; omega
      have v2 : IntKind.i64.wrap (k + 2 * (i : Int) + 1 + 1) = k + 2 * (i : Int) + 1 + 1 := by rw [IntKind.wrap_i64]; omega
      clear hM hL EM
      go_wp2
      go_roundw
      case rel =>
        have hM := unhide HM
        refine ⟨i + 1, by omega, by go_num, by congr 1; omega, hide ((unhide HB).trans but_rowP), hide ⟨_, (World.ownsRow.stored (World.ownsRow.stored hM (i * 2) (.int .i64 (k + 2 * (i : Int)))).1 (i * 2 + 1) (.int .i64 (k + 2 * (i : Int) + 1))).1, ?_⟩⟩
        have em : mks k (i + 1) = mks k i ++ [(k + 2 * (i : Int), k + 2 * (i : Int) + 1)] := by simp [mks, List.range_succ]
        rw [em]
        exact set_rowP hM.1 hlt (mks_len k i) (unhide HL)
      case measure => simp [intOf]; omega
    · obtain rfl : i = n := by omega
      go_wp2
      go_ret
      exact ⟨rfl, unhide HB, unhide EM, mks_len k i⟩
/-- An answer that is a slice of points of the call's own. -/
structure RtP (B : Nat) (w : World) (a : Option Addr) (n c : Nat) (l : List (Int × Int)) : Prop where
  len : l.length = n
  own : (n = 0) ∨ ∃ G, a = some ⟨G, 0, none⟩ ∧ B ≤ G ∧ OwP w G n c l
theorem RtP.later {B : Nat} {w w' : World} {a : Option Addr} {n c : Nat} {l : List (Int × Int)} (h : RtP B w a n c l) (hb : Below w.heap.size w w') : RtP B w' a n c l := by
  refine ⟨h.len, ?_⟩
  rcases h.own with h0 | ⟨G, e, hB, ho⟩
  · exact .inl h0
  · exact .inr ⟨G, e, hB, ho.later hb⟩
theorem RtP.keep {B G : Nat} {w w' : World} {a : Option Addr} {n c : Nat} {l : List (Int × Int)} (h : RtP B w a n c l) (hb : But G (G + 1) w w') (hG : G < B) : RtP B w' a n c l := by
  refine ⟨h.len, ?_⟩
  rcases h.own with h0 | ⟨G', e, hB, ho⟩
  · exact .inl h0
  · exact .inr ⟨G', e, hB, ho.keep hb (.inr (by omega))⟩
theorem RtP.sl {B : Nat} {w : World} {a : Option Addr} {n c : Nat} {l : List (Int × Int)} (h : RtP B w a n c l) : SlP w a l := by
  rcases h.own with h0 | ⟨G, rfl, hB, ho⟩
  · exact .inl (List.length_eq_zero_iff.1 (h.len.trans h0))
  · exact ho.arg.sl
theorem below_but8 {B : Nat} {w w' : World} (h : Below B w w') {hi : Nat} (hh : w.heap.size ≤ hi) : But B hi w w' := ⟨h.os, h.tape, h.output, h.size, fun k hk hj => h.block k (by omega)⟩
/-- Marks of an answer: what lies below B stays. -/
theorem markRt (B : Nat) (a : Option Addr) (n c : Nat) (k : Int) (l : List (Int × Int)) (w : World) (h : RtP B w a n c l) (h1 : n ≤ 1048576) (k0 : 0 ≤ k) (k1 : k ≤ 1000000) (hB : B ≤ w.heap.size) :
    Calls Try.prog 23 #[.slice a n c, .int .i64 k] w fun e w' => e = .returned (.int .i64 (k + 2 * n)) ∧ Below B w w' ∧ RtP B w' a n c (mks k n) := by
  rcases h.own with h0 | ⟨G, rfl, hG, ho⟩
  · subst h0
    go_enter Try.func23, Try.ntmps23
    go_wp2
    refine wp_loop_rounds 1 ?_
    rw [rounds_succ]
    go_wp2
    go_ret
    exact ⟨by simp, Below.refl _ _, ⟨rfl, .inl rfl⟩⟩
  · refine (markPs G n c k l w ho h1 k0 k1).mono ?_
    rintro e w1 ⟨rfl, hb, o1⟩
    exact ⟨rfl, hb.below (Below.refl _ _) hG hB, ⟨mks_len k n, .inr ⟨G, rfl, hG, o1⟩⟩⟩
end Go.Proofs.Ytikllcoekcglcaa
namespace Go.Proofs.Ytikllcoekcglcaa
open Go.RowKit
set_option linter.unusedVariables false
set_option maxRecDepth 100000
set_option linter.unusedSimpArgs false

def flatP (l : List (Int × Int)) : List Value := l.flatMap (fun p => [.int .i64 p.1, .int .i64 p.2])
theorem flatP_append (l m : List (Int × Int)) : flatP (l ++ m) = flatP l ++ flatP m := by simp [flatP]
theorem flatP_one (x y : Int) : flatP [(x, y)] = [.int .i64 x, .int .i64 y] := by simp [flatP]
theorem flatP_at : ∀ (l : List (Int × Int)) (i : Nat) (h : i < l.length), (flatP l)[i * 2]? = some (.int .i64 l[i].1) ∧ (flatP l)[i * 2 + 1]? = some (.int .i64 l[i].2)
  | [], i, h => absurd h (by simp)
  | p :: l, 0, h => by simp [flatP]
  | p :: l, i + 1, h => by
    have ih := flatP_at l i (by simpa using h)
    have e : flatP (p :: l) = .int .i64 p.1 :: .int .i64 p.2 :: flatP l := by simp [flatP]
    rw [e, show (i + 1) * 2 = i * 2 + 1 + 1 by omega]
    simpa using ih
theorem own_rt {w : World} {B n : Nat} {v : Value} {l : List (Int × Int)} (h : w.ownsRow B 62 2 v n (flatP l)) (hl : l.length = n) : ∃ a c, v = .slice a n c ∧ RtP B w a n c l := by
  rcases h.2 with ⟨rfl, h0⟩ | ⟨g, cap, cur, rfl, hb, r⟩
  · subst h0
    exact ⟨none, 0, rfl, hl, .inl rfl⟩
  · exact ⟨_, _, rfl, hl, .inr ⟨g, rfl, hb, ⟨flatP l, ⟨h.1, .inr ⟨g, cap, cur, rfl, Nat.le_refl _, r⟩⟩, flatP_at l⟩, hl⟩⟩
theorem new_cellP (w : World) (x y : Int) : ∀ j u, [Value.int .i64 x, Value.int .i64 y][j]? = some u → (w.alloc (.cells #[.int .i64 x, .int .i64 y] 62)).cell? ((⟨w.heap.size, 0, none⟩ : Addr).add j) = some u :=
  World.news_of_block (cs := #[.int .i64 x, .int .i64 y]) (t := 62) (fr := (0, 0)) (by show (w.heap.push _)[w.heap.size]? = _; simp)
theorem one_rowP (w : World) (x y : Int) : (w.alloc (.cells #[.int .i64 x, .int .i64 y] 62)).ownsRow w.heap.size 62 2 (.slice (some ⟨w.heap.size, 0, none⟩) 1 1) 1 (flatP [(x, y)]) := by
  refine ⟨rfl, .inr ⟨w.heap.size, 1, #[.int .i64 x, .int .i64 y], rfl, Nat.le_refl _, ?_, Nat.le_refl _, by unfold maxLen; omega, rfl, by simp [flatP]⟩⟩
  show (w.heap.push _)[w.heap.size]? = _
  simp
/-- The first point, and j points from the last one back. -/
def tvN (l : List (Int × Int)) (j : Nat) : List (Int × Int) := l.getD 0 (0, 0) :: (List.range j).map (fun t => l.getD (l.length - 1 - t) (0, 0))
theorem tvN_len (l : List (Int × Int)) (j : Nat) : (tvN l j).length = j + 1 := by simp [tvN]
theorem tvN_succ (l : List (Int × Int)) (j : Nat) : tvN l (j + 1) = tvN l j ++ [l.getD (l.length - 1 - j) (0, 0)] := by simp [tvN, List.range_succ]
def tvV (l : List (Int × Int)) : List (Int × Int) := if wayB l then tvN l (l.length - 1) else []
theorem push_belowP {B : Nat} {W wr w1 : World} {o : Obj} {v : Value} {n : Nat} {xs : List Value} (hb : Below B W wr) (hB : B ≤ wr.heap.size) (hown : wr.ownsRow B 62 2 v n xs) (hg : (wr.alloc o).grownBy w1 v.ownBlock) : Below B W w1 := by
  have h1 : Below B W (wr.alloc o) := hb.alloc hB o
  refine h1.grown hg (by simp; omega) (fun k e => ?_)
  rcases hown.2 with ⟨rfl, _⟩ | ⟨g, cap, cur, rfl, hb', _⟩
  · simp [Value.ownBlock] at e
  · simp [Value.ownBlock] at e
    omega
end Go.Proofs.Ytikllcoekcglcaa
namespace Go.Proofs.Ytikllcoekcglcaa
open Go.RowKit
set_option linter.unusedVariables false
set_option maxRecDepth 100000
set_option linter.unusedSimpArgs false

def mvL (l : List (Int × Int)) (q : Int × Int) : List (Int × Int) := l.map (fun p => (p.1 + q.1, p.2 + q.2))
def mvB (l : List (Int × Int)) (q : Int × Int) : Bool := (wayB l && gPt q) && (mvL l q).all gPt
def mvV (l : List (Int × Int)) (q : Int × Int) : List (Int × Int) := if mvB l q then mvL l q else []
theorem mvL_succ {l : List (Int × Int)} (q : Int × Int) {j : Nat} (h : j < l.length) : mvL (l.take (j + 1)) q = mvL (l.take j) q ++ [((l.getD j (0, 0)).1 + q.1, (l.getD j (0, 0)).2 + q.2)] := by
  unfold mvL
  rw [take_succP h, List.map_append, getD_gt h]
  rfl
end Go.Proofs.Ytikllcoekcglcaa
namespace Go.Proofs.Ytikllcoekcglcaa
open Go.RowKit
set_option linter.unusedVariables false
set_option maxRecDepth 100000
set_option linter.unusedSimpArgs false

theorem withinI (n far : Int) (w : World) (h0 : 0 ≤ far) (h1 : far ≤ 1000000) :
    Calls Try.prog 76 #[.int .i64 n, .int .i64 far] w fun e w' => e = .returned (.bool (inR n (-far) far)) ∧ w' = w := by
  unfold inR
  have iw : IntKind.i64.wrap (-far) = -far := by rw [IntKind.wrap_i64]; omega
  clear h0 h1
  cases d1 : decide (-far ≤ n) <;> cases d2 : decide (n ≤ far) <;>
    (go_enter Try.func76, Try.ntmps76
     go_wp2
     go_ret
     exact ⟨rfl, rfl⟩)
theorem goodPI (x y : Int) (w : World) :
    Calls Try.prog 64 #[.agg #[.int .i64 x, .int .i64 y]] w fun e w' => e = .returned (.bool (gPt (x, y))) ∧ Below w.heap.size w w' := by
  unfold gPt
  cases h1 : inR x (-1000) 1000
  · have C1 := hide (fun w => withinI x 1000 w (by omega) (by omega))
    rw [h1] at C1
    go_enter Try.func64, Try.ntmps64
    go_wp2_with fail
    refine (unhide C1 _).mono ?_
    rintro e w1 ⟨rfl, rfl⟩
    go_wp2_with fail
    go_ret
    exact ⟨rfl, (Below.refl _ _).alloc (Nat.le_refl _) _⟩
  · have C1 := hide (fun w => withinI x 1000 w (by omega) (by omega))
    have C2 := hide (fun w => withinI y 1000 w (by omega) (by omega))
    rw [h1] at C1
    generalize inR y (-1000) 1000 = r at *
    go_enter Try.func64, Try.ntmps64
    go_wp2_with fail
    refine (unhide C1 _).mono ?_
    rintro e w1 ⟨rfl, rfl⟩
    go_wp2_with fail
    refine (unhide C2 _).mono ?_
    rintro e w1 ⟨rfl, rfl⟩
    go_wp2_with fail
    go_ret
    exact ⟨by cases r <;> rfl, (Below.refl _ _).alloc (Nat.le_refl _) _⟩
set_option maxHeartbeats 2000000 in
theorem ptsI (a : Option Addr) (n c : Nat) (l : List (Int × Int)) (w : World) (h : SlP w a l) (hn : l.length = n) (hm : n ≤ maxLen) :
    Calls Try.prog 46 #[.slice a n c] w fun e w' => e = .returned (.bool (l.all gPt)) ∧ Below w.heap.size w w' := by
  have HS := hide h
  have HN := hide hn
  clear h hn
  unfold maxLen at hm
  go_enter Try.func46, Try.ntmps46
  go_wp2
  go_loopw [7] (fun iv wr => ∃ i : Nat, i ≤ n ∧ iv = .int .i64 i ∧ Hid ((l.take i).all gPt = true) ∧ Hid (Below w.heap.size w wr)) (fun iv _ => n - (intOf iv).toNat)
  case atStart => exact ⟨0, Nat.zero_le _, rfl, hide rfl, hide (Below.refl _ _)⟩
  case round =>
    obtain ⟨i, hi, rfl, HA, HB⟩ := hrel
    by_cases hlt : i < n
    · have hlt' : (i : Int) < (n : Int) := by omega
      rcases (unhide HS) with e | ⟨b, off, rfl, hb, hc⟩
      · exact absurd (unhide HN) (by rw [e]; simp; omega)
      have e0 := hc i (by rw [unhide HN]; exact hlt)
      obtain ⟨y, hy⟩ : ∃ y, y = l[i]'(by rw [unhide HN]; exact hlt) := ⟨_, rfl⟩
      rw [← hy] at e0
      have MY : Hid (y ∈ l) := hide (by rw [hy]; exact List.getElem_mem _)
      have TK : Hid ((l.take (i + 1)).all gPt = gPt y) := hide (by rw [take_succP (by rw [unhide HN]; exact hlt), List.all_append, unhide HA, ← hy]; simp)
      clear hy hc
      have E0 : wr.cell? ⟨b, off + i * 2, none⟩ = some (.int .i64 y.1) := ((unhide HB).cell (p := ⟨b, off + i * 2, none⟩) hb).trans (e0.1)
      have E1 : wr.cell? ⟨b, off + i * 2 + 1, none⟩ = some (.int .i64 y.2) := ((unhide HB).cell (p := ⟨b, off + i * 2 + 1, none⟩) hb).trans (e0.2)
      clear e0
      have C1 := hide (fun w => goodPI y.1 y.2 w)
      cases hg : gPt y
      · have hg2 : gPt (y.1, y.2) = false := hg
        rw [hg2] at C1
        have NA : Hid (l.all gPt = false) := hide (by rw [List.all_eq_false]; exact ⟨y, unhide MY, by rw [hg]; simp⟩)
        go_wp2_with fail
        refine (unhide C1 _).mono ?_
        rintro e w1 ⟨rfl, hb1⟩
        have HB1 := hide (below_on (below_on (unhide HB) ((Below.refl _ _).alloc (Nat.le_refl _) _)) hb1)
        clear hb1 E0 E1
        go_wp2
        go_ret
        exact ⟨by rw [unhide NA]; rfl, unhide HB1⟩
      · have hg2 : gPt (y.1, y.2) = true := hg
        rw [hg2] at C1
        go_wp2_with fail
        refine (unhide C1 _).mono ?_
        rintro e w1 ⟨rfl, hb1⟩
        have HB1 := hide (below_on (below_on (unhide HB) ((Below.refl _ _).alloc (Nat.le_refl _) _)) hb1)
        clear hb1 E0 E1
        go_wp2
        go_roundw
        case rel => exact ⟨i + 1, by omega, by go_num, hide (by rw [unhide TK, hg]), HB1⟩
        case measure => simp [intOf]; omega
    · obtain rfl : i = n := by omega
      have EA : Hid (l.all gPt = true) := hide (by have := unhide HA; rw [← unhide HN, List.take_length] at this; exact this)
      go_wp2
      go_ret
      exact ⟨by rw [unhide EA]; rfl, unhide HB⟩
set_option maxHeartbeats 4000000 in
theorem wayI (a : Option Addr) (n c : Nat) (l : List (Int × Int)) (w : World) (h : SlP w a l) (hn : l.length = n) (hm : n ≤ maxLen) :
    Calls Try.prog 52 #[.slice a n c] w fun e w' => e = .returned (.bool (wayB l)) ∧ Below w.heap.size w w' := by
  have C2 := hide (fun w (k : SlP w a l) => ptsI a n c l w k hn hm)
  have HS := hide h
  unfold wayB inR
  rw [hn]
  clear h hn hm
  cases d1 : decide ((3 : Int) ≤ (n : Int)) <;> cases d2 : decide ((n : Int) ≤ 12)
  · go_enter Try.func52, Try.ntmps52
    go_wp2_with fail
    go_ret
    exact ⟨rfl, Below.refl _ _⟩
  · go_enter Try.func52, Try.ntmps52
    go_wp2_with fail
    go_ret
    exact ⟨rfl, Below.refl _ _⟩
  · go_enter Try.func52, Try.ntmps52
    go_wp2_with fail
    go_ret
    exact ⟨rfl, Below.refl _ _⟩
  · generalize l.all gPt = r at *
    go_enter Try.func52, Try.ntmps52
    go_wp2_with fail
    refine (unhide C2 _ (unhide HS)).mono ?_
    rintro e w2 ⟨rfl, hb⟩
    go_wp2_with fail
    go_ret
    exact ⟨by cases r <;> rfl, hb⟩
theorem sg_zero (k : Int) : decide (k = 0) = decide (sgZ k = 0) := by
  unfold sgZ
  split
  · rw [decide_eq_false (by omega), decide_eq_false (by omega)]
  · split
    · rw [decide_eq_false (by omega), decide_eq_false (by omega)]
    · rw [decide_eq_true (by omega), decide_eq_true rfl]
def meI (a b c d : Int × Int) : Bool := (onV a b c || onV a b d) || (onV c d a || onV c d b) || (decide (sgZ (crs a b c) * sgZ (crs a b d) < 0) && decide (sgZ (crs c d a) * sgZ (crs c d b) < 0))
theorem meI_eq (a b c d : Int × Int) : meI a b c d = meV a b c d := by
  unfold meI meV
  cases onV a b c <;> cases onV a b d <;> cases onV c d a <;> cases onV c d b <;> rfl
end Go.Proofs.Ytikllcoekcglcaa
namespace Go.Proofs.Ytikllcoekcglcaa
open Go.RowKit
set_option linter.unusedVariables false
set_option maxRecDepth 100000
set_option linter.unusedSimpArgs false

/-- Points of the grid as points of fractions. -/
def ofP (p : Int × Int) : Rat × Rat := ((p.1 : Rat), (p.2 : Rat))
def coL (l : List (Int × Int)) : List (Rat × Rat) := l.map ofP
def gCo (l : List (Int × Int)) : Bool := many l.length && l.all gPt
theorem gPt_in {p : Int × Int} (h : gPt p = true) : (-1000 ≤ p.1 ∧ p.1 ≤ 1000) ∧ (-1000 ≤ p.2 ∧ p.2 ≤ 1000) := by
  unfold gPt inR at h
  simp only [Bool.and_eq_true, decide_eq_true_eq] at h
  omega
theorem gCo_mem {l : List (Int × Int)} (h : gCo l = true) : (1 ≤ l.length ∧ l.length ≤ 5) ∧ ∀ p ∈ l, gPt p = true := by
  unfold gCo many at h
  simp only [Bool.and_eq_true, decide_eq_true_eq] at h
  exact ⟨h.1, fun p hp => List.all_eq_true.1 h.2 p hp⟩
theorem coL_len (l : List (Int × Int)) : (coL l).length = l.length := by unfold coL; simp
theorem coL_get {l : List (Int × Int)} {i : Nat} {p : Int × Int} (h : l[i]? = some p) : (coL l)[i]? = some (ofP p) := by unfold coL; rw [List.getElem?_map, h]; rfl
theorem coL_bd {l : List (Int × Int)} (h : gCo l = true) : BdC (coL l) 40 := fun x hx => by
  obtain ⟨p, hp, rfl⟩ := List.mem_map.1 hx
  have k := gPt_in ((gCo_mem h).2 p hp)
  exact ⟨(bdR_int (by omega) (by omega)).mono (by omega), (bdR_int (by omega) (by omega)).mono (by omega)⟩
theorem coL_bd2 {l : List (Int × Int)} (h : ∀ p ∈ l, gPt p = true) : BdC (coL l) 1 := fun x hx => by
  obtain ⟨p, hp, rfl⟩ := List.mem_map.1 hx
  have k := gPt_in (h p hp)
  exact ⟨(bdR_int (by omega) (by omega)).mono (by omega), (bdR_int (by omega) (by omega)).mono (by omega)⟩
theorem owR_pt {lo mid hi : Nat} {w : World} {q q' : QV} {x y : Rat} (h : OwR lo mid w q x) (k : OwR mid hi w q' y) (h1 : lo ≤ mid) (h2 : mid ≤ hi) : ∃ d : SD, AllOwn lo hi w [((⟨q, q'⟩ : SV).lo.num, d.lo.num), ((⟨q, q'⟩ : SV).lo.den, d.lo.den), ((⟨q, q'⟩ : SV).hi.num, d.hi.num), ((⟨q, q'⟩ : SV).hi.den, d.hi.den)] ∧ AllAr w [((⟨q, q'⟩ : SV).lo.num, d.lo.num), ((⟨q, q'⟩ : SV).lo.den, d.lo.den), ((⟨q, q'⟩ : SV).hi.num, d.hi.num), ((⟨q, q'⟩ : SV).hi.den, d.hi.den)] ∧ IsDP (x, y) d := by
  obtain ⟨xs, us, a1, a2, a3, a4⟩ := h
  obtain ⟨ys, vs, b1, b2, b3, b4⟩ := k
  exact ⟨⟨⟨⟨_, xs⟩, ⟨_, us⟩⟩, ⟨⟨_, ys⟩, ⟨_, vs⟩⟩⟩, a1.join b1 h1 h2, a2.append b2, ⟨rfl, a3, rfl, a4, rfl, b3, rfl, b4⟩⟩

set_option maxHeartbeats 8000000 in
theorem rptsofI (a : Option Addr) (n c : Nat) (l : List (Int × Int)) (w : World) (h : SlP w a l) (hl : l.length = n) (hg : ∀ p ∈ l, gPt p = true) (hn : n ≤ 1000) :
    Calls Try.prog 47 #[.slice a n c] w (OutCz w (coL l)) := by
  have HS := hide h
  have HN := hide hl
  have HG := hide hg
  clear h hl hg
  obtain ⟨i0, hi, hz0, hz1, hz2⟩ := info_parts Try.info52
  go_enter Try.func47, Try.ntmps47
  go_wp2_with (at_make; refine wpList_make_full _ rfl _ _ 25 rfl w.heap.size 52 i0 (.agg #[.bool false, .slice none 0 0, .bool false, .slice none 0 0, .bool false, .slice none 0 0, .bool false, .slice none 0 0]) 8 Try.underlying25 hi hz0 hz1 .i64 .i64 _ _ n rfl rfl rfl rfl ?c1 ?c2 ?c3 ?_)
  case c1 => rw [hz2]; omega
  case c2 => unfold maxLen; omega
  case c3 => exact Nat.le_refl _
  intro wm hown hgrow
  have hbm : Below w.heap.size w wm := (Below.refl _ _).grown hgrow (Nat.le_refl _) (fun k e => by cases e)
  have G0 := hide (GrZ.start hown hbm)
  have HBm := hide hbm
  clear hown hgrow hi hz0 hz1 hz2 hbm
  go_wp2
  go_loopw [11] (fun iv wr => ∃ (i : Nat) (us : List (SV × SD)), i ≤ n ∧ iv = .int .i64 i ∧ Hid (GrZ w.heap.size n wr us) ∧ Hid (∀ j p, j < i → (coL l)[j]? = some p → AtZ us j p) ∧ Hid (Below w.heap.size w wr)) (fun iv _ => n - (intOf iv).toNat)
  case atStart => exact ⟨0, _, Nat.zero_le _, rfl, G0, hide (fun j p hj => absurd hj (Nat.not_lt_zero _)), HBm⟩
  case round =>
    clear G0 HBm
    obtain ⟨i, us, hi', rfl, GR, AT, HB⟩ := hrel
    by_cases hlt : i < n
    · have hlt' : (i : Int) < (n : Int) := by omega
      rcases (unhide HS) with e | ⟨b, off, rfl, hb, hcb⟩
      · exact absurd (unhide HN) (by rw [e]; simp <;> omega)
      have e0 := hcb i (by rw [unhide HN]; exact hlt)
      obtain ⟨y, hy⟩ : ∃ y, y = l[i]'(by rw [unhide HN]; exact hlt) := ⟨_, rfl⟩
      rw [← hy] at e0
      have My : Hid (l[i]? = some y) := hide (by rw [hy]; exact List.getElem?_eq_getElem _)
      have GY := gPt_in ((unhide HG) y (by rw [hy]; exact List.getElem_mem _))
      have P0 : wr.cell? ⟨b, off + i * 2, none⟩ = some (.int .i64 y.1) := ((unhide HB).cell (p := ⟨b, off + i * 2, none⟩) hb).trans e0.1
      have P1 : wr.cell? ⟨b, off + i * 2 + 1, none⟩ = some (.int .i64 y.2) := ((unhide HB).cell (p := ⟨b, off + i * 2 + 1, none⟩) hb).trans e0.2
      clear hy e0 hcb
      have AL : Hid (Below wr.heap.size wr (wr.alloc (.cells #[.int .i64 y.1, .int .i64 y.2] 62))) := hide ((Below.refl _ _).alloc (Nat.le_refl _) _)
      have zb := (unhide GR).lt
      have GR0 := GR
      have HBq := HB
      have ki0 : (wr.alloc (.cells #[.int .i64 y.1, .int .i64 y.2] 62)).cell? ⟨wr.heap.size, 0, none⟩ = some (.int .i64 y.1) := by simp [go_sem]
      have ki1 : (wr.alloc (.cells #[.int .i64 y.1, .int .i64 y.2] 62)).cell? ⟨wr.heap.size, 1, none⟩ = some (.int .i64 y.2) := by simp [go_sem]
      have szp : wr.heap.size + 1 = (wr.alloc (.cells #[.int .i64 y.1, .int .i64 y.2] 62)).heap.size := by simp
      have j4 : (0 : Int) ≤ (i : Int) := by omega
      go_upto_region 5 with fail
      have k0_0 := ki0
      have k0_1 := ki1
      clear ki0 ki1 P0 P1
      generalize (wr.alloc (.cells #[.int .i64 y.1, .int .i64 y.2] 62)) = wp at *
      have ne0_1 : wr.heap.size ≠ w.heap.size := by omega
      go_region_held3 (fun w' => w'.cell? ⟨wr.heap.size, 0, none⟩ = some (.int .i64 y.1) ∧ w'.cell? ⟨wr.heap.size, 1, none⟩ = some (.int .i64 y.2)) (with_reducible (first | exact ⟨k0_0, k0_1⟩ | exact ⟨cd_other k0_0, cd_other k0_1⟩ | exact ⟨cs_other (cs_other (cs_other (cs_other (cs_other (cs_other (cs_other (cs_other (k0_0) ne0_1) ne0_1) ne0_1) ne0_1) ne0_1) ne0_1) ne0_1) ne0_1, cs_other (cs_other (cs_other (cs_other (cs_other (cs_other (cs_other (cs_other (k0_1) ne0_1) ne0_1) ne0_1) ne0_1) ne0_1) ne0_1) ne0_1) ne0_1⟩ | fail))
        (first
        | (have chk := A1; clear chk; go_at_call_of 65 (Value.int IntKind.i64 y.2); refine (wholeRI y.2 _ (by omega) (by omega)).mono ?_; rintro e w3 ⟨xb, la2, lb2, rfl, hb, ob, ab, mb, nb⟩; have hbx : Below w2.heap.size w2 w3 := hb; have szw3 := hbx.size; replace k0_0 := cell_later hbx k0_0; replace k0_1 := cell_later hbx k0_1; obtain ⟨d, ho, ha, hd⟩ := owR_pt ((unhide A1).later hbx) (owR_of (lo := w2.heap.size) (x := (y.2 : Rat)) ob ab mb nb) fs1 hbx.size; have FR := hide (below_on (below_on (unhide AL) (unhide F1)) hbx); have G2 := hide ((unhide GR0).later (unhide FR)); have GP := hide ((unhide GR0).put (k := i) (u := ⟨xa, xb⟩) (unhide FR) hlt (ho.wide (by omega) (Nat.le_refl _)) ha); have HBx := hide (below_on (unhide HBq) (unhide FR)); have HD := hide hd; obtain ⟨x0, o0⟩ := (unhide G2).old (o := i * 8) (by omega); obtain ⟨x1, o1⟩ := (unhide G2).old (o := i * 8 + 1) (by omega); obtain ⟨x2, o2⟩ := (unhide G2).old (o := i * 8 + 2) (by omega); obtain ⟨x3, o3⟩ := (unhide G2).old (o := i * 8 + 3) (by omega); obtain ⟨x4, o4⟩ := (unhide G2).old (o := i * 8 + 4) (by omega); obtain ⟨x5, o5⟩ := (unhide G2).old (o := i * 8 + 5) (by omega); obtain ⟨x6, o6⟩ := (unhide G2).old (o := i * 8 + 6) (by omega); obtain ⟨x7, o7⟩ := (unhide G2).old (o := i * 8 + 7) (by omega); have fr := (unhide G2).fz; have HBr := hide (below_on (unhide HBr) hbx); clear hbx hb ob ab mb nb ho ha hd)
        | (go_at_call_of 65 (Value.int IntKind.i64 y.1); refine (wholeRI y.1 _ (by omega) (by omega)).mono ?_; rintro e w2 ⟨xa, la1, lb1, rfl, hb, oa, aa, ma, na⟩; have hbx : Below wp.heap.size wp w2 := below_of_drew hb; have szw2 := hbx.size; replace k0_0 := cell_later hbx k0_0; replace k0_1 := cell_later hbx k0_1; have F1 := hide hbx; have A1 := hide (owR_of (lo := wp.heap.size) (x := (y.1 : Rat)) oa aa ma na); have fs1 := hbx.size; have HBr := hide hbx; clear hbx hb oa aa ma na))
      have AT2 : Hid (∀ j p, j < i + 1 → (coL l)[j]? = some p → AtZ (us.set i ((⟨xa, xb⟩ : SV), d)) j p) := hide (fun j p hj hp => by
        by_cases e : j = i
        · subst e
          rw [coL_get (unhide My)] at hp
          obtain rfl := Option.some.inj hp
          exact AtZ.here (by rw [(unhide GR0).len]; exact hlt) (unhide HD)
        · exact ((unhide AT) j p (by omega) hp).keep (by omega))
      have HB3 := hide (GrZ.bel (n := 0) (B := w.heap.size) (k := i) (u := (⟨xa, xb⟩ : SV)) (unhide HBx) (Nat.le_refl _))
      clear k0_0 k0_1 HBr
      go_wp2
      go_roundw
      case rel => exact ⟨i + 1, _, by omega, by go_num, GP, AT2, HB3⟩
      case measure => simp [intOf]; omega
    · obtain rfl : i = n := by omega
      have IC : Hid (IsC (coL l) (us.map Prod.snd)) := hide (atZ_isC (by rw [(unhide GR).len, coL_len, unhide HN]) (fun k p hp => by
        have hk : k < i := by have := (List.getElem?_eq_some_iff.1 hp).1; rw [coL_len, unhide HN] at this; exact this
        exact (unhide AT) k p hk hp))
      obtain ⟨r1, r2⟩ := GrZ.finL (w0 := w) (unhide GR) (unhide IC) (coL_bd2 (unhide HG)) (by omega) (by omega) (by omega) (Nat.le_refl _)
      have R1 := hide r1
      have R2 := hide r2
      clear r1 r2
      go_wp2
      go_ret
      exact ⟨_, _, _, us, rfl, unhide HB, unhide R1, unhide R2⟩

set_option maxHeartbeats 8000000 in
theorem CvoI (a : Option Addr) (n c : Nat) (l : List (Int × Int)) (w : World) (h : ArP w a n c l) :
    Calls Try.prog 21 #[.slice a n c] w (RetPoZ w (AnsC (gCo l) (fun _ => true) (coL l))) := by
  have HS := hide h
  have HN := hide h.len
  have hm : n ≤ maxLen := Nat.le_trans h.cap h.top
  have hl := h.len
  clear h
  have C1 := hide (fun w1 => manyI n w1 hm)
  have C2 := hide (fun w1 (k : SlP w1 a l) => ptsI a n c l w1 k hl hm)
  cases h1 : many n
  · have hg : gCo l = false := by unfold gCo; rw [hl, h1]; rfl
    rw [h1] at C1
    rw [hg]
    unfold maxLen at hm
    go_enter Try.func21, Try.ntmps21
    go_wp2_with fail
    refine (unhide C1 _).mono ?_
    rintro e w ⟨rfl, rfl⟩
    have HB := hide (Below.refl w.heap.size w)
    go_wp2
    go_ret2
    exact ⟨none, 0, 0, [], false, rfl, unhide HB, PRoZ.none _ _ _, .inr ⟨rfl, rfl, rfl⟩⟩
  · cases h2 : l.all gPt
    · have hg : gCo l = false := by unfold gCo; rw [h2, Bool.and_false]
      rw [h1] at C1
      rw [h2] at C2
      rw [hg]
      unfold maxLen at hm
      go_enter Try.func21, Try.ntmps21
      go_wp2_with fail
      refine (unhide C1 _).mono ?_
      rintro e w ⟨rfl, rfl⟩
      go_wp2_with fail
      refine (unhide C2 _ (unhide HS).sl).mono ?_
      rintro e w2 ⟨rfl, hb⟩
      have HB := hide hb
      clear hb
      go_wp2
      go_ret2
      exact ⟨none, 0, 0, [], false, rfl, unhide HB, PRoZ.none _ _ _, .inr ⟨rfl, rfl, rfl⟩⟩
    · have hg : gCo l = true := by unfold gCo; rw [hl, h1, h2]; rfl
      rw [h1] at C1
      rw [h2] at C2
      rw [hg]
      have HG := hide hg
      have n5 : 1 ≤ n ∧ n ≤ 5 := by have := (gCo_mem hg).1; rw [hl] at this; exact this
      clear hg h1 h2
      unfold maxLen at hm
      go_enter Try.func21, Try.ntmps21
      go_wp2_with fail
      refine (unhide C1 _).mono ?_
      rintro e w ⟨rfl, rfl⟩
      go_wp2_with fail
      refine (unhide C2 _ (unhide HS).sl).mono ?_
      rintro e w1 ⟨rfl, hb⟩
      have HB1 := hide hb
      have s1 := hb.size
      clear hb C1 C2
      go_wp2_with fail
      refine (rptsofI _ _ _ l _ ((unhide HS).sl.later (unhide HB1)) (unhide HN) (gCo_mem (unhide HG)).2 (by omega)).mono ?_
      rintro e w2 ⟨a2, n2, c2, l2, rfl, hb2, ro, rd⟩
      have HB := hide (below_on (unhide HB1) hb2)
      have R1 := hide (ro.wide s1 (Nat.le_refl _))
      have IC := hide rd.is
      clear hb2 ro rd
      go_wp2
      go_ret2
      exact ⟨_, _, _, l2, true, rfl, unhide HB, unhide R1, .inl ⟨rfl, _, unhide IC, .inl ⟨rfl, rfl, rfl⟩⟩⟩

set_option maxHeartbeats 4000000 in
theorem ofS (x y : Int) (w : World) (h0 : -1000 ≤ x) (h1 : x ≤ 1000) (h2 : -1000 ≤ y) (h3 : y ≤ 1000) :
    Calls Try.prog 43 #[.agg #[.int .i64 x, .int .i64 y]] w (OutPt w ((x : Rat), (y : Rat))) := by
  go_enter Try.func43, Try.ntmps43
  go_upto_region 1 with fail
  have hb : Below w.heap.size w ((w.alloc (.cells #[.int .i64 x, .int .i64 y] 62)).alloc (.cells #[.bool false, .slice none 0 0, .bool false, .slice none 0 0, .bool false, .slice none 0 0, .bool false, .slice none 0 0] 52)) := (((Below.refl _ _).alloc (by simp) _).alloc (by simp) _)
  have k0_0 : ((w.alloc (.cells #[.int .i64 x, .int .i64 y] 62)).alloc (.cells #[.bool false, .slice none 0 0, .bool false, .slice none 0 0, .bool false, .slice none 0 0, .bool false, .slice none 0 0] 52)).cell? ⟨w.heap.size, 0, none⟩ = some (.int .i64 x) := by simp [go_sem]
  have k0_1 : ((w.alloc (.cells #[.int .i64 x, .int .i64 y] 62)).alloc (.cells #[.bool false, .slice none 0 0, .bool false, .slice none 0 0, .bool false, .slice none 0 0, .bool false, .slice none 0 0] 52)).cell? ⟨w.heap.size, 1, none⟩ = some (.int .i64 y) := by simp [go_sem]
  have k1_0 : ((w.alloc (.cells #[.int .i64 x, .int .i64 y] 62)).alloc (.cells #[.bool false, .slice none 0 0, .bool false, .slice none 0 0, .bool false, .slice none 0 0, .bool false, .slice none 0 0] 52)).cell? ⟨w.heap.size + 1, 0, none⟩ = some (.bool false) := by simp [go_sem]
  have k1_1 : ((w.alloc (.cells #[.int .i64 x, .int .i64 y] 62)).alloc (.cells #[.bool false, .slice none 0 0, .bool false, .slice none 0 0, .bool false, .slice none 0 0, .bool false, .slice none 0 0] 52)).cell? ⟨w.heap.size + 1, 1, none⟩ = some (.slice none 0 0) := by simp [go_sem]
  have k1_2 : ((w.alloc (.cells #[.int .i64 x, .int .i64 y] 62)).alloc (.cells #[.bool false, .slice none 0 0, .bool false, .slice none 0 0, .bool false, .slice none 0 0, .bool false, .slice none 0 0] 52)).cell? ⟨w.heap.size + 1, 2, none⟩ = some (.bool false) := by simp [go_sem]
  have k1_3 : ((w.alloc (.cells #[.int .i64 x, .int .i64 y] 62)).alloc (.cells #[.bool false, .slice none 0 0, .bool false, .slice none 0 0, .bool false, .slice none 0 0, .bool false, .slice none 0 0] 52)).cell? ⟨w.heap.size + 1, 3, none⟩ = some (.slice none 0 0) := by simp [go_sem]
  have k1_4 : ((w.alloc (.cells #[.int .i64 x, .int .i64 y] 62)).alloc (.cells #[.bool false, .slice none 0 0, .bool false, .slice none 0 0, .bool false, .slice none 0 0, .bool false, .slice none 0 0] 52)).cell? ⟨w.heap.size + 1, 4, none⟩ = some (.bool false) := by simp [go_sem]
  have k1_5 : ((w.alloc (.cells #[.int .i64 x, .int .i64 y] 62)).alloc (.cells #[.bool false, .slice none 0 0, .bool false, .slice none 0 0, .bool false, .slice none 0 0, .bool false, .slice none 0 0] 52)).cell? ⟨w.heap.size + 1, 5, none⟩ = some (.slice none 0 0) := by simp [go_sem]
  have k1_6 : ((w.alloc (.cells #[.int .i64 x, .int .i64 y] 62)).alloc (.cells #[.bool false, .slice none 0 0, .bool false, .slice none 0 0, .bool false, .slice none 0 0, .bool false, .slice none 0 0] 52)).cell? ⟨w.heap.size + 1, 6, none⟩ = some (.bool false) := by simp [go_sem]
  have k1_7 : ((w.alloc (.cells #[.int .i64 x, .int .i64 y] 62)).alloc (.cells #[.bool false, .slice none 0 0, .bool false, .slice none 0 0, .bool false, .slice none 0 0, .bool false, .slice none 0 0] 52)).cell? ⟨w.heap.size + 1, 7, none⟩ = some (.slice none 0 0) := by simp [go_sem]
  have z1 : ∀ o, ((w.alloc (.cells #[.int .i64 x, .int .i64 y] 62)).alloc (.cells #[.bool false, .slice none 0 0, .bool false, .slice none 0 0, .bool false, .slice none 0 0, .bool false, .slice none 0 0] 52)).frozen? ⟨w.heap.size + 1, o, none⟩ = false := fun o => by simp [go_sem]
  have szw0 : w.heap.size + 2 ≤ ((w.alloc (.cells #[.int .i64 x, .int .i64 y] 62)).alloc (.cells #[.bool false, .slice none 0 0, .bool false, .slice none 0 0, .bool false, .slice none 0 0, .bool false, .slice none 0 0] 52)).heap.size := by simp
  have HB := hide hb
  clear hb
  generalize ((w.alloc (.cells #[.int .i64 x, .int .i64 y] 62)).alloc (.cells #[.bool false, .slice none 0 0, .bool false, .slice none 0 0, .bool false, .slice none 0 0, .bool false, .slice none 0 0] 52)) = w0 at *
  have ne0_1 : w.heap.size ≠ w.heap.size + 1 := by omega
  go_region_held3 (fun w' => w'.cell? ⟨w.heap.size, 0, none⟩ = some (.int .i64 x) ∧ w'.cell? ⟨w.heap.size, 1, none⟩ = some (.int .i64 y)) (with_reducible (first | exact ⟨k0_0, k0_1⟩ | exact ⟨cd_other k0_0, cd_other k0_1⟩ | exact ⟨cs_other (cs_other (cs_other (cs_other (cs_other (cs_other (cs_other (cs_other (k0_0) ne0_1) ne0_1) ne0_1) ne0_1) ne0_1) ne0_1) ne0_1) ne0_1, cs_other (cs_other (cs_other (cs_other (cs_other (cs_other (cs_other (cs_other (k0_1) ne0_1) ne0_1) ne0_1) ne0_1) ne0_1) ne0_1) ne0_1) ne0_1⟩ | fail))
    (first
    | (have chk := P1; clear chk; go_at_call_of 63 (Value.int IntKind.i64 y); refine (wholeRS y _ (by omega) (by omega)).mono ?_; rintro e w2 ⟨x2, la2, lb2, rfl, hb, o2, a2, m2, n2⟩; have hbx : Below w1.heap.size w1 w2 := hb; have szw2 := hbx.size; replace z1 := fun o => frozen_later hbx (World.block_lt_of_cell? _ _ k1_0) (z1 o); replace k0_0 := cell_later hbx k0_0; replace k0_1 := cell_later hbx k0_1; replace k1_0 := cell_later hbx k1_0; replace k1_1 := cell_later hbx k1_1; replace k1_2 := cell_later hbx k1_2; replace k1_3 := cell_later hbx k1_3; replace k1_4 := cell_later hbx k1_4; replace k1_5 := cell_later hbx k1_5; replace k1_6 := cell_later hbx k1_6; replace k1_7 := cell_later hbx k1_7; replace P1 := hide ((unhide P1).later hbx); have P2 := hide (owR_of (lo := w1.heap.size) (x := (y : Rat)) o2 a2 m2 n2); have HBr := hide (below_on (unhide HBr) hbx); clear hbx hb o2 a2 m2 n2)
    | (go_at_call_of 63 (Value.int IntKind.i64 x); refine (wholeRS x _ (by omega) (by omega)).mono ?_; rintro e w1 ⟨x1, la1, lb1, rfl, hb, o1, a1, m1, n1⟩; have hbx : Below w0.heap.size w0 w1 := below_of_drew hb; have szw1 := hbx.size; replace z1 := fun o => frozen_later hbx (World.block_lt_of_cell? _ _ k1_0) (z1 o); replace k0_0 := cell_later hbx k0_0; replace k0_1 := cell_later hbx k0_1; replace k1_0 := cell_later hbx k1_0; replace k1_1 := cell_later hbx k1_1; replace k1_2 := cell_later hbx k1_2; replace k1_3 := cell_later hbx k1_3; replace k1_4 := cell_later hbx k1_4; replace k1_5 := cell_later hbx k1_5; replace k1_6 := cell_later hbx k1_6; replace k1_7 := cell_later hbx k1_7; have P1 := hide (owR_of (lo := w0.heap.size) (x := (x : Rat)) o1 a1 m1 n1); have HBr := hide hbx; clear hbx hb o1 a1 m1 n1))
  replace HB := hide (below_on (unhide HB) (unhide HBr))
  clear HBr
  go_wp2
  refine bodyPost_ret (v := .agg #[.bool x1.num.g, .slice x1.num.a x1.num.n x1.num.c, .bool x1.den.g, .slice x1.den.a x1.den.n x1.den.c, .bool x2.num.g, .slice x2.num.a x2.num.n x2.num.c, .bool x2.den.g, .slice x2.den.a x2.den.n x2.den.c]) (by simp [results, Try.results43, go_sem, k1_0, k1_1, k1_2, k1_3, k1_4, k1_5, k1_6, k1_7]) rfl ?_
  exact outPt_fin (v := (⟨x1, x2⟩ : SV)) (R := w.heap.size + 1) (by omega) (unhide HB) (metS_but (w5 := w2) (v := (⟨x1, x2⟩ : SV)) (G := w.heap.size + 1)) (unhide P1) (unhide P2) (by omega) (by omega) (by omega) (by omega)

set_option maxHeartbeats 8000000 in
theorem CvoS (a : Option Addr) (n c : Nat) (l : List (Int × Int)) (w : World) (h : ArP w a n c l) :
    Calls Try.prog 19 #[.slice a n c] w (RetPrZ w (AnsC (gCo l) (fun _ => true) (coL l))) := by
  have HS := hide h
  have HN := hide h.len
  have hm : n ≤ maxLen := Nat.le_trans h.cap h.top
  have hl := h.len
  clear h
  have C1 := hide (fun w1 => (show Calls Try.prog 32 #[.int .i64 (n : Int), .int .i64 1, .int .i64 5] w1 fun e w' => e = .returned (.bool (many n)) ∧ w' = w1 from by have h := l1In_any (n : Int) 1 5 w1; rw [show (decide ((1 : Int) ≤ (n : Int)) && decide ((n : Int) ≤ 5)) = many n from by unfold many; congr 1 <;> (apply decide_eq_decide.2; omega)] at h; exact h))
  have C2 := hide (fun w1 (k : SlP w1 a l) => ptsS a n c l w1 k hl hm)
  cases h1 : many n
  · have hg : gCo l = false := by unfold gCo; rw [hl, h1]; rfl
    rw [h1] at C1
    rw [hg]
    unfold maxLen at hm
    go_enter Try.func19, Try.ntmps19
    go_wp2_with fail
    refine (unhide C1 _).mono ?_
    rintro e w ⟨rfl, rfl⟩
    have HB := hide (Below.refl w.heap.size w)
    go_wp2
    go_ret2
    exact ⟨none, 0, 0, [], false, rfl, unhide HB, ⟨.inl rfl, fun p hp => (by cases hp)⟩, rfl, .inr ⟨rfl, rfl, rfl⟩⟩
  · cases h2 : l.all gPt
    · have hg : gCo l = false := by unfold gCo; rw [h2, Bool.and_false]
      rw [h1] at C1
      rw [h2] at C2
      rw [hg]
      unfold maxLen at hm
      go_enter Try.func19, Try.ntmps19
      go_wp2_with fail
      refine (unhide C1 _).mono ?_
      rintro e w ⟨rfl, rfl⟩
      go_wp2_with fail
      refine (unhide C2 _ (unhide HS).sl).mono ?_
      rintro e w2 ⟨rfl, hb⟩
      have HB := hide hb
      clear hb
      go_wp2
      go_ret2
      exact ⟨none, 0, 0, [], false, rfl, unhide HB, ⟨.inl rfl, fun p hp => (by cases hp)⟩, rfl, .inr ⟨rfl, rfl, rfl⟩⟩
    · have hg : gCo l = true := by unfold gCo; rw [hl, h1, h2]; rfl
      rw [h1] at C1
      rw [h2] at C2
      rw [hg]
      have HG := hide hg
      have n5 : 1 ≤ n ∧ n ≤ 5 := by have := (gCo_mem hg).1; rw [hl] at this; exact this
      clear hg h1 h2
      unfold maxLen at hm
      go_enter Try.func19, Try.ntmps19
      go_wp2_with fail
      refine (unhide C1 _).mono ?_
      rintro e w ⟨rfl, rfl⟩
      go_wp2_with fail
      refine (unhide C2 _ (unhide HS).sl).mono ?_
      rintro e w1 ⟨rfl, hb⟩
      have HB1 := hide hb
      clear hb C1 C2
      go_wp2
      go_loopw [4, 18] (fun x iv wr => ∃ (i : Nat) (us : List (SV × SD)), i ≤ n ∧ iv = .int .i64 i ∧ us.length = i ∧ Hid (GwZ w.heap.size wr x us) ∧ Hid (∀ j p, j < i → (coL l)[j]? = some p → AtZ us j p) ∧ Hid (Below w.heap.size w wr)) (fun _ iv _ => n - (intOf iv).toNat)
      case atStart => exact ⟨0, [], Nat.zero_le _, rfl, rfl, hide (GwZ.nil _ _), hide (fun j p hj => absurd hj (Nat.not_lt_zero _)), HB1⟩
      case round =>
        clear HB1
        obtain ⟨i, us, hi', rfl, hu, GW, AT, HB⟩ := hrel
        by_cases hlt : i < n
        · have hlt' : (i : Int) < (n : Int) := by omega
          rcases (unhide HS).sl with e | ⟨b, off, rfl, hb, hcb⟩
          · exact absurd (unhide HN) (by rw [e]; simp <;> omega)
          have e0 := hcb i (by rw [unhide HN]; exact hlt)
          obtain ⟨y, hy⟩ : ∃ y, y = l[i]'(by rw [unhide HN]; exact hlt) := ⟨_, rfl⟩
          rw [← hy] at e0
          have My : Hid (l[i]? = some y) := hide (by rw [hy]; exact List.getElem?_eq_getElem _)
          have GY := gPt_in ((gCo_mem (unhide HG)).2 y (by rw [hy]; exact List.getElem_mem _))
          have P0 : wr.cell? ⟨b, off + i * 2, none⟩ = some (.int .i64 y.1) := ((unhide HB).cell (p := ⟨b, off + i * 2, none⟩) hb).trans e0.1
          have P1 : wr.cell? ⟨b, off + i * 2 + 1, none⟩ = some (.int .i64 y.2) := ((unhide HB).cell (p := ⟨b, off + i * 2 + 1, none⟩) hb).trans e0.2
          clear hy e0 hcb
          have al : Below wr.heap.size wr (wr.alloc (.cells #[.int .i64 y.1, .int .i64 y.2] 62)) := (Below.refl _ _).alloc (Nat.le_refl _) _
          have AL := hide al
          clear al
          go_wp2_with fail
          refine (calls_dp (ofS y.1 y.2 _ (by omega) (by omega) (by omega) (by omega))).mono ?_
          rintro e w3 ⟨u, d, rfl, hb3, ho, ha, hd⟩
          have fr := below_on (unhide AL) hb3
          have a3 : Below w3.heap.size w3 (w3.alloc (.cells #[.bool u.lo.num.g, .slice u.lo.num.a u.lo.num.n u.lo.num.c, .bool u.lo.den.g, .slice u.lo.den.a u.lo.den.n u.lo.den.c, .bool u.hi.num.g, .slice u.hi.num.a u.hi.num.n u.hi.num.c, .bool u.hi.den.g, .slice u.hi.den.a u.hi.den.n u.hi.den.c] 52)) := (Below.refl _ _).alloc (Nat.le_refl _) _
          have fr3 := below_on fr a3
          have GW3 := hide ((unhide GW).later fr3)
          have TY3 := hide (ho.typZ.later a3)
          have AR3 := hide (ha.later a3)
          have HB3 := hide (below_on (unhide HB) fr3)
          have zz := (below_on (unhide HB) fr).size
          have HD := hide hd
          clear hb3 ho ha hd fr a3 fr3 P0 P1 GW AL
          go_wp2_with (at_builtin; refine appZ rfl (.tmp 22) (.tmp 25) rfl w.heap.size _ us rfl (unhide GW3) w3.heap.size u d rfl (heap_alloc_new _ _) (unhide TY3) (unhide AR3) (by omega) (by simp; omega) ?_)
          intro g cap w4 hG hgrow
          have HB4 := hide (GwZ.bel (unhide GW3) (unhide HB3) (Nat.le_refl _) hgrow)
          have GW4 := hide hG
          have AT4 : Hid (∀ j p, j < i + 1 → (coL l)[j]? = some p → AtZ (us ++ [(u, d)]) j p) := hide (fun j p hj hp => by
            by_cases e : j = i
            · subst e
              rw [coL_get (unhide My)] at hp
              obtain rfl := Option.some.inj hp
              exact ⟨(u, d), by rw [List.getElem?_append_right (by omega), hu, Nat.sub_self]; rfl, unhide HD⟩
            · obtain ⟨y', q1, q2⟩ := (unhide AT) j p (by omega) hp
              exact ⟨y', by rw [List.getElem?_append_left (List.getElem?_eq_some_iff.1 q1).1]; exact q1, q2⟩)
          clear hG hgrow GW3 HB3 HB AT
          go_wp2
          go_roundw
          case rel => exact ⟨i + 1, us ++ [(u, d)], by omega, by go_num, by simp [hu], GW4, AT4, HB4⟩
          case measure => simp [intOf]; omega
        · obtain rfl : i = n := by omega
          have IC : Hid (IsC (coL l) (us.map Prod.snd)) := hide (atZ_isC (by rw [hu, coL_len, unhide HN]) (fun k p hp => by
            have hk : k < i := by have := (List.getElem?_eq_some_iff.1 hp).1; rw [coL_len, unhide HN] at this; exact this
            exact (unhide AT) k p hk hp))
          obtain ⟨a3, c3, e3, _, p3⟩ := (unhide GW).arg
          rw [hu] at e3 p3
          subst e3
          have P3 := hide p3.sl
          clear p3 GW
          go_wp2
          go_ret2
          exact ⟨_, _, _, us, true, rfl, unhide HB, unhide P3, hu, .inl ⟨rfl, _, unhide IC, .inl ⟨rfl, rfl, rfl⟩⟩⟩
end Go.Proofs.Ytikllcoekcglcaa
namespace Go.Proofs.Ytikllcoekcglcaa
open Go.RowKit
set_option linter.unusedVariables false
set_option maxRecDepth 100000
set_option linter.unusedSimpArgs false

theorem wayB_mem {l : List (Int × Int)} (h : wayB l = true) : (3 ≤ l.length ∧ l.length ≤ 12) ∧ ∀ p ∈ l, gPt p = true := by
  unfold wayB inR at h
  simp only [Bool.and_eq_true, decide_eq_true_eq] at h
  exact ⟨by omega, fun p hp => List.all_eq_true.1 h.2 p hp⟩

set_option maxHeartbeats 8000000 in
theorem RioI (a : Option Addr) (n c : Nat) (l : List (Int × Int)) (w : World) (h : ArP w a n c l) :
    Calls Try.prog 27 #[.slice a n c] w (RetPoZ w (AnsC (wayB l) (fun _ => true) (coL l))) := by
  have HS := hide h
  have HN := hide h.len
  have hm : n ≤ maxLen := Nat.le_trans h.cap h.top
  have hl := h.len
  clear h
  have C1 := hide (fun w1 (k : SlP w1 a l) => wayI a n c l w1 k hl hm)
  clear hm
  cases hg : wayB l
  · rw [hg] at C1
    go_enter Try.func27, Try.ntmps27
    go_wp2_with fail
    refine (unhide C1 _ (unhide HS).sl).mono ?_
    rintro e w2 ⟨rfl, hb⟩
    have HB := hide hb
    clear hb
    go_wp2
    go_ret2
    exact ⟨none, 0, 0, [], false, rfl, unhide HB, PRoZ.none _ _ _, .inr ⟨rfl, rfl, rfl⟩⟩
  · rw [hg] at C1
    have HG := hide hg
    have n5 : 3 ≤ n ∧ n ≤ 12 := by have := (wayB_mem hg).1; rw [hl] at this; exact this
    clear hg
    go_enter Try.func27, Try.ntmps27
    go_wp2_with fail
    refine (unhide C1 _ (unhide HS).sl).mono ?_
    rintro e w1 ⟨rfl, hb⟩
    have HB1 := hide hb
    have s1 := hb.size
    clear hb C1
    go_wp2_with fail
    refine (rptsofI _ _ _ l _ ((unhide HS).sl.later (unhide HB1)) (unhide HN) (wayB_mem (unhide HG)).2 (by omega)).mono ?_
    rintro e w2 ⟨a2, n2, c2, l2, rfl, hb2, ro, rd⟩
    have HB := hide (below_on (unhide HB1) hb2)
    have R1 := hide (ro.wide s1 (Nat.le_refl _))
    have IC := hide rd.is
    clear hb2 ro rd
    go_wp2
    go_ret2
    exact ⟨_, _, _, l2, true, rfl, unhide HB, unhide R1, .inl ⟨rfl, _, unhide IC, .inl ⟨rfl, rfl, rfl⟩⟩⟩

set_option maxHeartbeats 8000000 in
theorem RioS (a : Option Addr) (n c : Nat) (l : List (Int × Int)) (w : World) (h : ArP w a n c l) :
    Calls Try.prog 26 #[.slice a n c] w (RetPrZ w (AnsC (wayB l) (fun _ => true) (coL l))) := by
  have HS := hide h
  have HN := hide h.len
  have hm : n ≤ maxLen := Nat.le_trans h.cap h.top
  have hl := h.len
  clear h
  have C1 := hide (fun w1 (k : SlP w1 a l) => wayS a n c l w1 k hl hm)
  clear hm
  cases hg : wayB l
  · rw [hg] at C1
    go_enter Try.func26, Try.ntmps26
    go_wp2_with fail
    refine (unhide C1 _ (unhide HS).sl).mono ?_
    rintro e w2 ⟨rfl, hb⟩
    have HB := hide hb
    clear hb
    go_wp2
    go_ret2
    exact ⟨none, 0, 0, [], false, rfl, unhide HB, ⟨.inl rfl, fun p hp => (by cases hp)⟩, rfl, .inr ⟨rfl, rfl, rfl⟩⟩
  · rw [hg] at C1
    have HG := hide hg
    have n5 : 3 ≤ n ∧ n ≤ 12 := by have := (wayB_mem hg).1; rw [hl] at this; exact this
    clear hg
    go_enter Try.func26, Try.ntmps26
    go_wp2_with fail
    refine (unhide C1 _ (unhide HS).sl).mono ?_
    rintro e w1 ⟨rfl, hb⟩
    have HB1 := hide hb
    have s1 := hb.size
    clear hb C1
    go_wp2
    go_loopw [4, 12] (fun x iv wr => ∃ (i : Nat) (us : List (SV × SD)), i ≤ n ∧ iv = .int .i64 i ∧ us.length = i ∧ Hid (GwZ w.heap.size wr x us) ∧ Hid (∀ j p, j < i → (coL l)[j]? = some p → AtZ us j p) ∧ Hid (Below w.heap.size w wr)) (fun _ iv _ => n - (intOf iv).toNat)
    case atStart => exact ⟨0, [], Nat.zero_le _, rfl, rfl, hide (GwZ.nil _ _), hide (fun j p hj => absurd hj (Nat.not_lt_zero _)), HB1⟩
    case round =>
      clear HB1
      obtain ⟨i, us, hi', rfl, hu, GW, AT, HB⟩ := hrel
      by_cases hlt : i < n
      · have hlt' : (i : Int) < (n : Int) := by omega
        rcases (unhide HS).sl with e | ⟨b, off, rfl, hb, hcb⟩
        · exact absurd (unhide HN) (by rw [e]; simp <;> omega)
        have e0 := hcb i (by rw [unhide HN]; exact hlt)
        obtain ⟨y, hy⟩ : ∃ y, y = l[i]'(by rw [unhide HN]; exact hlt) := ⟨_, rfl⟩
        rw [← hy] at e0
        have My : Hid (l[i]? = some y) := hide (by rw [hy]; exact List.getElem?_eq_getElem _)
        have GY := gPt_in ((wayB_mem (unhide HG)).2 y (by rw [hy]; exact List.getElem_mem _))
        have P0 : wr.cell? ⟨b, off + i * 2, none⟩ = some (.int .i64 y.1) := ((unhide HB).cell (p := ⟨b, off + i * 2, none⟩) hb).trans e0.1
        have P1 : wr.cell? ⟨b, off + i * 2 + 1, none⟩ = some (.int .i64 y.2) := ((unhide HB).cell (p := ⟨b, off + i * 2 + 1, none⟩) hb).trans e0.2
        clear hy e0 hcb
        have al : Below wr.heap.size wr (wr.alloc (.cells #[.int .i64 y.1, .int .i64 y.2] 62)) := (Below.refl _ _).alloc (Nat.le_refl _) _
        have AL := hide al
        clear al
        go_wp2_with fail
        refine (calls_dp (ofS y.1 y.2 _ (by omega) (by omega) (by omega) (by omega))).mono ?_
        rintro e w3 ⟨u, d, rfl, hb3, ho, ha, hd⟩
        have fr := below_on (unhide AL) hb3
        have a3 : Below w3.heap.size w3 (w3.alloc (.cells #[.bool u.lo.num.g, .slice u.lo.num.a u.lo.num.n u.lo.num.c, .bool u.lo.den.g, .slice u.lo.den.a u.lo.den.n u.lo.den.c, .bool u.hi.num.g, .slice u.hi.num.a u.hi.num.n u.hi.num.c, .bool u.hi.den.g, .slice u.hi.den.a u.hi.den.n u.hi.den.c] 52)) := (Below.refl _ _).alloc (Nat.le_refl _) _
        have fr3 := below_on fr a3
        have GW3 := hide ((unhide GW).later fr3)
        have TY3 := hide (ho.typZ.later a3)
        have AR3 := hide (ha.later a3)
        have HB3 := hide (below_on (unhide HB) fr3)
        have zz := (below_on (unhide HB) fr).size
        have HD := hide hd
        clear hb3 ho ha hd fr a3 fr3 P0 P1 GW AL
        go_wp2_with (at_builtin; refine appZ rfl (.tmp 16) (.tmp 19) rfl w.heap.size _ us rfl (unhide GW3) w3.heap.size u d rfl (heap_alloc_new _ _) (unhide TY3) (unhide AR3) (by omega) (by simp; omega) ?_)
        intro g cap w4 hG hgrow
        have HB4 := hide (GwZ.bel (unhide GW3) (unhide HB3) (Nat.le_refl _) hgrow)
        have GW4 := hide hG
        have AT4 : Hid (∀ j p, j < i + 1 → (coL l)[j]? = some p → AtZ (us ++ [(u, d)]) j p) := hide (fun j p hj hp => by
          by_cases e : j = i
          · subst e
            rw [coL_get (unhide My)] at hp
            obtain rfl := Option.some.inj hp
            exact ⟨(u, d), by rw [List.getElem?_append_right (by omega), hu, Nat.sub_self]; rfl, unhide HD⟩
          · obtain ⟨y', q1, q2⟩ := (unhide AT) j p (by omega) hp
            exact ⟨y', by rw [List.getElem?_append_left (List.getElem?_eq_some_iff.1 q1).1]; exact q1, q2⟩)
        clear hG hgrow GW3 HB3 HB AT
        go_wp2
        go_roundw
        case rel => exact ⟨i + 1, us ++ [(u, d)], by omega, by go_num, by simp [hu], GW4, AT4, HB4⟩
        case measure => simp [intOf]; omega
      · obtain rfl : i = n := by omega
        have IC : Hid (IsC (coL l) (us.map Prod.snd)) := hide (atZ_isC (by rw [hu, coL_len, unhide HN]) (fun k p hp => by
          have hk : k < i := by have := (List.getElem?_eq_some_iff.1 hp).1; rw [coL_len, unhide HN] at this; exact this
          exact (unhide AT) k p hk hp))
        obtain ⟨a3, c3, e3, _, p3⟩ := (unhide GW).arg
        rw [hu] at e3 p3
        subst e3
        have P3 := hide p3.sl
        clear p3 GW
        go_wp2
        go_ret2
        exact ⟨_, _, _, us, true, rfl, unhide HB, unhide P3, hu, .inl ⟨rfl, _, unhide IC, .inl ⟨rfl, rfl, rfl⟩⟩⟩

set_option maxHeartbeats 8000000 in
theorem FliI (a : Option Addr) (n c : Nat) (l : List (SV × SD)) (w : World) (h : PArS w a n c l) :
    Calls Try.prog 29 #[.slice a n c] w (RetPoZ w (AnsC (gRg (l.map Prod.snd)) (fun _ => true) (vC l).reverse)) := by
  have GC := hide (fun w1 (k : PArS w1 a n c l) => GoodRI a n c l w1 k)
  have HS := hide h
  have HN := hide h.len
  clear h
  cases hg : gRg (l.map Prod.snd)
  · rw [hg] at GC
    go_enter Try.func29, Try.ntmps29
    go_wp2_with fail
    refine (unhide GC _ (unhide HS)).mono ?_
    rintro e w1 ⟨rfl, hb⟩
    have HB := hide hb
    clear hb GC
    go_wp2
    go_ret2
    exact ⟨none, 0, 0, [], false, rfl, unhide HB, PRoZ.none _ _ _, .inr ⟨rfl, rfl, rfl⟩⟩
  · rw [hg] at GC
    have HG := hide hg
    have n5 : n ≤ 40 := by have := (gRg_mem hg).1; rw [List.length_map, unhide HN] at this; exact this
    clear hg
    have RD := hide (rdC_good8 (unhide HS) (unhide HG))
    have BD := hide ((bdC_good8 (unhide HG)).mono (show 8 ≤ 40 by omega))
    go_enter Try.func29, Try.ntmps29
    go_wp2_with fail
    refine (unhide GC _ (unhide HS)).mono ?_
    rintro e w1 ⟨rfl, hb⟩
    have HB1 := hide hb
    have s1 := hb.size
    clear hb GC
    go_wp2_with fail
    refine (revR _ _ _ l _ _ ((unhide RD).later (unhide HB1)) (unhide BD) (by omega)).mono ?_
    rintro e w2 ⟨a2, n2, c2, l2, rfl, hb2, ro, rd⟩
    have HB := hide (below_on (unhide HB1) hb2)
    have R1 := hide (ro.wide s1 (Nat.le_refl _))
    have IC := hide rd.is
    clear hb2 ro rd
    go_wp2
    go_ret2
    exact ⟨_, _, _, l2, true, rfl, unhide HB, unhide R1, .inl ⟨rfl, _, unhide IC, .inl ⟨rfl, rfl, rfl⟩⟩⟩


set_option maxHeartbeats 8000000 in
theorem FliS (a : Option Addr) (n c : Nat) (l : List (SV × SD)) (w : World) (h : PArS w a n c l) (ht : TypZ w (zipPS l)) :
    Calls Try.prog 28 #[.slice a n c] w (RetPrZ w (AnsC (gRg (l.map Prod.snd)) (fun _ => true) (vC l).reverse)) := by
  have HT := hide ht
  clear ht
  have GC := hide (fun w1 (k : PArS w1 a n c l) => GoodRS a n c l w1 k)
  have HS := hide h
  have HN := hide h.len
  clear h
  cases hg : gRg (l.map Prod.snd)
  · rw [hg] at GC
    go_enter Try.func28, Try.ntmps28
    go_wp2_with fail
    refine (unhide GC _ (unhide HS)).mono ?_
    rintro e w1 ⟨rfl, hb⟩
    have HB := hide hb
    clear hb GC
    go_wp2
    go_ret2
    exact ⟨none, 0, 0, [], false, rfl, unhide HB, ⟨.inl rfl, fun p hp => (by cases hp)⟩, rfl, .inr ⟨rfl, rfl, rfl⟩⟩
  · rw [hg] at GC
    have HG := hide hg
    have n5 : n ≤ 40 := by have := (gRg_mem hg).1; rw [List.length_map, unhide HN] at this; exact this
    clear hg
    go_enter Try.func28, Try.ntmps28
    go_wp2_with fail
    refine (unhide GC _ (unhide HS)).mono ?_
    rintro e w1 ⟨rfl, hb⟩
    have HB1 := hide hb
    have s1 := hb.size
    clear hb GC
    go_wp2
    go_loopw [4, 5] (fun v iv wr => ∃ (k : Nat) (q : Int) (us : List (SV × SD)), k ≤ n ∧ iv = .int .i64 q ∧ q = (n : Int) - 1 - (k : Int) ∧ us.length = k ∧ Hid (us.map Prod.snd = (l.map Prod.snd).reverse.take k) ∧ Hid (GwZ w.heap.size wr v us) ∧ Hid (Below w.heap.size w wr)) (fun _ iv _ => (intOf iv + 1).toNat)
    case atStart => exact ⟨0, _, [], Nat.zero_le _, rfl, by omega, rfl, hide (by simp), hide (GwZ.nil _ _), HB1⟩
    case round =>
      clear HB1
      obtain ⟨k, q, us, hk, rfl, hq, hu, ED, GW, HB⟩ := hrel
      by_cases hlt : k < n
      · have hlx : n - 1 - k < n := by omega
        have j1 : (0 : Int) ≤ q := by omega
        have j2 : q < (n : Int) := by omega
        have j3 : q.toNat = n - 1 - k := by omega
        have szv : w.heap.size ≤ wr.heap.size := (unhide HB).size
        rcases (unhide HS).at_ with e | ⟨b, off, rfl, hb, hcb⟩
        · exact absurd (unhide HN) (by rw [e]; simp <;> omega)
        have e0 := hcb (n - 1 - k) (by rw [unhide HN]; exact hlx)
        obtain ⟨y, hy⟩ : ∃ y, y = l[(n - 1 - k)]'(by rw [unhide HN]; exact hlx) := ⟨_, rfl⟩
        rw [← hy] at e0
        have My : Hid (l[(n - 1 - k)]? = some y) := hide (by rw [hy]; exact List.getElem?_eq_getElem _)
        clear hy
        have E0 : wr.cell? ⟨b, off + (n - 1 - k) * 8, none⟩ = some (.bool y.1.lo.num.g) := ((unhide HB).cell (p := ⟨b, off + (n - 1 - k) * 8, none⟩) hb).trans (e0.1)
        have E1 : wr.cell? ⟨b, off + (n - 1 - k) * 8 + 1, none⟩ = some (.slice y.1.lo.num.a y.1.lo.num.n y.1.lo.num.c) := ((unhide HB).cell (p := ⟨b, off + (n - 1 - k) * 8 + 1, none⟩) hb).trans (e0.2.1)
        have E2 : wr.cell? ⟨b, off + (n - 1 - k) * 8 + 2, none⟩ = some (.bool y.1.lo.den.g) := ((unhide HB).cell (p := ⟨b, off + (n - 1 - k) * 8 + 2, none⟩) hb).trans (e0.2.2.1)
        have E3 : wr.cell? ⟨b, off + (n - 1 - k) * 8 + 3, none⟩ = some (.slice y.1.lo.den.a y.1.lo.den.n y.1.lo.den.c) := ((unhide HB).cell (p := ⟨b, off + (n - 1 - k) * 8 + 3, none⟩) hb).trans (e0.2.2.2.1)
        have E4 : wr.cell? ⟨b, off + (n - 1 - k) * 8 + 4, none⟩ = some (.bool y.1.hi.num.g) := ((unhide HB).cell (p := ⟨b, off + (n - 1 - k) * 8 + 4, none⟩) hb).trans (e0.2.2.2.2.1)
        have E5 : wr.cell? ⟨b, off + (n - 1 - k) * 8 + 5, none⟩ = some (.slice y.1.hi.num.a y.1.hi.num.n y.1.hi.num.c) := ((unhide HB).cell (p := ⟨b, off + (n - 1 - k) * 8 + 5, none⟩) hb).trans (e0.2.2.2.2.2.1)
        have E6 : wr.cell? ⟨b, off + (n - 1 - k) * 8 + 6, none⟩ = some (.bool y.1.hi.den.g) := ((unhide HB).cell (p := ⟨b, off + (n - 1 - k) * 8 + 6, none⟩) hb).trans (e0.2.2.2.2.2.2.1)
        have E7 : wr.cell? ⟨b, off + (n - 1 - k) * 8 + 7, none⟩ = some (.slice y.1.hi.den.a y.1.hi.den.n y.1.hi.den.c) := ((unhide HB).cell (p := ⟨b, off + (n - 1 - k) * 8 + 7, none⟩) hb).trans (e0.2.2.2.2.2.2.2)
        clear e0
        clear hcb
        have MZ : Hid (y ∈ l) := hide (List.mem_of_getElem? (unhide My))
        have al : Below wr.heap.size wr (wr.alloc (.cells #[.bool y.1.lo.num.g, .slice y.1.lo.num.a y.1.lo.num.n y.1.lo.num.c, .bool y.1.lo.den.g, .slice y.1.lo.den.a y.1.lo.den.n y.1.lo.den.c, .bool y.1.hi.num.g, .slice y.1.hi.num.a y.1.hi.num.n y.1.hi.num.c, .bool y.1.hi.den.g, .slice y.1.hi.den.a y.1.hi.den.n y.1.hi.den.c] 52)) := (Below.refl _ _).alloc (Nat.le_refl _) _
        have GW3 := hide ((unhide GW).later al)
        have TY3 : Hid (TypZ (wr.alloc (.cells #[.bool y.1.lo.num.g, .slice y.1.lo.num.a y.1.lo.num.n y.1.lo.num.c, .bool y.1.lo.den.g, .slice y.1.lo.den.a y.1.lo.den.n y.1.lo.den.c, .bool y.1.hi.num.g, .slice y.1.hi.num.a y.1.hi.num.n y.1.hi.num.c, .bool y.1.hi.den.g, .slice y.1.hi.den.a y.1.hi.den.n y.1.hi.den.c] 52)) [(y.1.lo.num, y.2.lo.num), (y.1.lo.den, y.2.lo.den), (y.1.hi.num, y.2.hi.num), (y.1.hi.den, y.2.hi.den)]) := hide ((show TypZ w [(y.1.lo.num, y.2.lo.num), (y.1.lo.den, y.2.lo.den), (y.1.hi.num, y.2.hi.num), (y.1.hi.den, y.2.hi.den)] from fun x hx => (unhide HT) x (zipPS_mem (unhide MZ) hx)).later (below_on (unhide HB) al))
        have AR3 := hide (((unhide HS).rd y (unhide MZ)).later (below_on (unhide HB) al))
        have HB3 := hide (below_on (unhide HB) al)
        have TK : Hid ((l.map Prod.snd).reverse.take (k + 1) = (l.map Prod.snd).reverse.take k ++ [y.2]) := hide (by
          rw [List.take_add_one, List.getElem?_reverse (by rw [List.length_map, unhide HN]; exact hlt), List.getElem?_map, List.length_map, unhide HN, unhide My]
          rfl)
        clear al
        go_wp2_with (at_builtin; refine appZ rfl (.tmp 16) (.tmp 21) rfl w.heap.size _ us rfl (unhide GW3) wr.heap.size y.1 y.2 rfl (heap_alloc_new _ _) (unhide TY3) (unhide AR3) (by omega) (by simp; omega) ?_)
        intro g cap w3 hG hgrow
        have HB4 := hide (GwZ.bel (unhide GW3) (unhide HB3) (Nat.le_refl _) hgrow)
        have GW4 := hide hG
        have ED4 : Hid ((us ++ [(y.1, y.2)]).map Prod.snd = (l.map Prod.snd).reverse.take (k + 1)) := hide (by rw [unhide TK, List.map_append, unhide ED]; rfl)
        clear hG hgrow GW3 HB3 GW HB E0 E1 E2 E3 E4 E5 E6 E7
        go_wp2
        go_roundw
        case rel => exact ⟨k + 1, _, us ++ [(y.1, y.2)], by omega, rfl, by omega, by simp [hu], ED4, GW4, HB4⟩
        case measure => simp [intOf]; omega
      · obtain rfl : k = n := by omega
        have j1 : ¬ ((0 : Int) ≤ q) := by omega
        have j2 : q < 0 := by omega
        have EL : Hid (us.map Prod.snd = (l.map Prod.snd).reverse) := hide (by have h := unhide ED; rw [List.take_of_length_le (by simp; rw [unhide HN]; exact Nat.le_refl _)] at h; exact h)
        have IC : Hid (IsC (vC l).reverse (us.map Prod.snd)) := hide (by
          have h0 := isC_good8 (unhide HG)
          refine ⟨by rw [unhide EL, List.length_reverse, List.length_reverse, vC_len, List.length_map], fun i p d hp hd => ?_⟩
          have hi : i < l.length := by have := (List.getElem?_eq_some_iff.1 hp).1; rw [List.length_reverse, vC_len] at this; exact this
          rw [List.getElem?_reverse (by rw [vC_len]; exact hi), vC_len] at hp
          rw [unhide EL, List.getElem?_reverse (by rw [List.length_map]; exact hi), List.length_map] at hd
          exact h0.at_ _ p d hp hd)
        have F4 : Hid ((us.map Prod.snd).all f40 = true) := hide (List.all_eq_true.2 (fun d hd => by
          rw [unhide EL] at hd
          have h1 := (gRg_mem (unhide HG)).2 d (List.mem_reverse.1 hd)
          unfold gPt8 gF8 smk at h1
          simp only [Bool.and_eq_true, decide_eq_true_eq] at h1
          unfold f40
          simp only [Bool.and_eq_true, decide_eq_true_eq]
          omega))
        obtain ⟨a3, c3, e3, _, p3⟩ := (unhide GW).arg
        rw [hu] at e3 p3
        subst e3
        have P3 := hide p3
        clear p3 GW ED
        go_wp2_with fail
        refine (allZ _ _ _ us _ _ (unhide P3) (unhide IC) (by omega)).mono ?_
        rintro e w5 ⟨a5, n5', c5, l5, ok5, rfl, hb5, sl5, ln5, an5⟩
        have HB5 := hide (below_on (unhide HB) hb5)
        have S5 := hide sl5
        have L5 := hide ln5
        have A5 : Hid (AnsC true (fun _ => true) (vC l).reverse (l5.map Prod.snd) ok5) := hide (by
          rcases an5 with ⟨_, es, h1, h2⟩ | ⟨h, _⟩
          · obtain rfl := h1.same (unhide IC)
            rcases h2 with ⟨_, h3, h4⟩ | ⟨h3, _⟩
            · exact .inl ⟨rfl, _, h1, .inl ⟨rfl, h3, h4⟩⟩
            · exact absurd (h3.symm.trans (unhide F4)) (by decide)
          · cases h)
        clear hb5 sl5 ln5 an5
        go_wp2
        go_ret2
        exact ⟨_, _, _, l5, ok5, rfl, unhide HB5, unhide S5, unhide L5, unhide A5⟩
end Go.Proofs.Ytikllcoekcglcaa
namespace Go.Proofs.Ytikllcoekcglcaa
open Go.ChangeShapes Go.WideShapes Go.ChangeAt Go.RowKit Go.Joins
set_option linter.unusedVariables false
set_option maxRecDepth 100000
set_option linter.unusedSimpArgs false

theorem cellsLPt : Try.prog.cellsOf 65 = 2 := by kernel_rfl
theorem open_T {H : Type} {enc : TypeId × Value → H} {W : World} {r : Reach} {b0 : Nat} {v : Value} {d : DataW H} {p : List MemPlace}
    (hv : Value.okWide Try.prog W r b0 65 v) (h : DataW.Trod enc Try.prog W 0 (fun _ => true) true 65 v d p) :
    ∃ q : Int × Int, v = .agg #[.int .i64 q.1, .int .i64 q.2] := by
  obtain ⟨c0, c1, y0, y1, m, rfl, _, _, hy0, hy1⟩ := open_agg2 Try.underlying65 (by kernel_rfl) cellsLPt hv h
  obtain ⟨x, e0, _, _⟩ := DataW.trod_int Try.underlying3 hy0
  obtain ⟨y, e1, _, _⟩ := DataW.trod_int Try.underlying3 hy1
  simp only [List.cons.injEq, and_true] at e0 e1
  subst e0 e1
  exact ⟨(x, y), rfl⟩
theorem open_ptc {H : Type} {enc : TypeId × Value → H} {W : World} {m : Nat} {c0 c1 : Value} {x : DataW H × List MemPlace}
    (hf : DataW.trod enc Try.prog W 0 (fun _ => true) true m 65 [c0, c1] = some x) : ∃ q : Int × Int, c0 = .int .i64 q.1 ∧ c1 = .int .i64 q.2 := by
  obtain ⟨y0, y1, n, hx, _, h0, h1⟩ := trod_struct2 Try.underlying65 hf
  have c_i : Try.prog.cellsOf 3 = 1 := by kernel_rfl
  obtain ⟨x, e0, _, _⟩ := DataW.trod_int Try.underlying3 (show DataW.trod enc Try.prog W 0 (fun _ => true) true n 3 [c0] = some y0 by simpa [c_i] using h0)
  obtain ⟨y, e1, _, _⟩ := DataW.trod_int Try.underlying3 (show DataW.trod enc Try.prog W 0 (fun _ => true) true n 3 [c1] = some y1 by simpa [c_i] using h1)
  simp only [List.cons.injEq, and_true] at e0 e1
  exact ⟨(x, y), e0, e1⟩
theorem addr_addP (b off k : Nat) : (⟨b, off, none⟩ : Addr).add k = ⟨b, off + k, none⟩ := by
  unfold Addr.add
  split
  · rename_i h; subst h; rfl
  · rfl
theorem open_TS {H : Type} {enc : TypeId × Value → H} {W : World} {r : Reach} {b0 : Nat} {v : Value} {d : DataW H} {p : List MemPlace}
    (hv : Value.okWide Try.prog W r b0 32 v) (h : DataW.Trod enc Try.prog W 0 (fun _ => true) true 32 v d p) :
    ∃ (a : Option Addr) (n c : Nat) (l : List (Int × Int)), v = .slice a n c ∧ SlP W a l ∧ l.length = n ∧ n ≤ maxLen := by
  obtain ⟨a, n, c, rfl⟩ := okWide_slice Try.underlying32 hv
  obtain ⟨fuel, hf⟩ := h
  rcases Go.Deep.open_slice Try.underlying32 hf with ⟨hcs, _⟩ | ⟨a', len, cap, m, n', D, Pl, hcs, _, hl, hm, hmm, _, hx⟩
  · simp only [Value.cells, List.cons.injEq, Value.slice.injEq, and_true] at hcs
    obtain ⟨rfl, rfl, rfl⟩ := hcs
    exact ⟨none, 0, 0, [], rfl, .inl rfl, rfl, Nat.zero_le _⟩
  · simp only [Value.cells, List.cons.injEq, Value.slice.injEq, and_true] at hcs
    obtain ⟨rfl, rfl, rfl⟩ := hcs
    simp only [if_true] at hmm
    subst hmm
    have each : ∀ i, i < n → ∃ q : Int × Int, W.cell? ((a'.add (i * 2)).add 0) = some (.int .i64 q.1) ∧ W.cell? ((a'.add (i * 2)).add 1) = some (.int .i64 q.2) := by
      intro i hi
      obtain ⟨cs, h1, h2⟩ := hx i (by omega)
      rw [cellsLPt] at h1
      obtain ⟨_, h3, h4⟩ := World.cells?_some h1
      match cs, h3 with
      | [c0, c1], _ =>
        obtain ⟨q, rfl, rfl⟩ := open_ptc h2
        exact ⟨q, h4 0 (by omega), h4 1 (by omega)⟩
    obtain ⟨f, hf⟩ := Go.Deep.choose_lt each
    refine ⟨some a', n, m, (List.range n).map f, rfl, ?_, by simp, Nat.le_trans hl hm⟩
    by_cases h0 : n = 0
    · subst h0; exact .inl rfl
    · obtain ⟨b, off, spot⟩ := a'
      have hc := (hf 0 (by omega)).1
      have hspot : spot = none := by simpa [Addr.add] using World.cell?_spot hc
      subst hspot
      refine .inr ⟨b, off, rfl, ?_, fun i hi => ?_⟩
      · have := World.block_lt_of_cell? _ _ hc
        rw [addr_addP, addr_addP] at this
        exact this
      · have hi' : i < n := by simpa using hi
        have h1 := hf i hi'
        rw [addr_addP, addr_addP, addr_addP] at h1
        simpa using h1
end Go.Proofs.Ytikllcoekcglcaa
