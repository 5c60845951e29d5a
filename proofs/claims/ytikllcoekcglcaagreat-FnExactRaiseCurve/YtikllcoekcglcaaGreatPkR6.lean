/- l12Sweep of the specification, at every good list of points. No condition beyond those typed. Written by mksw13.py. -/
import Derived.Test.YtikllcoekcglcaaGreatPkR5
import Derived.Test.YtikllcoekcglcaaGreatPkR4
import Derived.Deep.Slices
namespace Go.Proofs.YtikllcoekcglcaaGreat
open Go.ChangeShapes Go.WideShapes Go.ChangeAt Go.RowKit Go.Joins
set_option linter.unusedVariables false
set_option maxRecDepth 100000
set_option linter.unusedSimpArgs false

theorem open_spanc {H : Type} {enc : TypeId × Value → H} {W : World} {m : Nat} {c0 c1 c2 c3 c4 c5 c6 c7 : Value} {x : DataW H × List MemPlace}
    (hf : DataW.trod enc Tryz.prog W 0 (fun _ => true) true m 80 [c0, c1, c2, c3, c4, c5, c6, c7] = some x) :
    ∃ p : SV × SD, (c0 = .bool p.1.lo.num.g ∧ c1 = .slice p.1.lo.num.a p.1.lo.num.n p.1.lo.num.c ∧ c2 = .bool p.1.lo.den.g ∧ c3 = .slice p.1.lo.den.a p.1.lo.den.n p.1.lo.den.c ∧ c4 = .bool p.1.hi.num.g ∧ c5 = .slice p.1.hi.num.a p.1.hi.num.n p.1.hi.num.c ∧ c6 = .bool p.1.hi.den.g ∧ c7 = .slice p.1.hi.den.a p.1.hi.den.n p.1.hi.den.c) ∧ AllSl W [(p.1.lo.num, p.2.lo.num), (p.1.lo.den, p.2.lo.den), (p.1.hi.num, p.2.hi.num), (p.1.hi.den, p.2.hi.den)] ∧ p.1.lo.num.n ≤ maxLen ∧ p.1.lo.den.n ≤ maxLen ∧ p.1.hi.num.n ≤ maxLen ∧ p.1.hi.den.n ≤ maxLen := by
  obtain ⟨y0, y1, n, hx, _, h0, h1⟩ := trod_struct2 Tryz.underlying80 hf
  have k0 : DataW.trod enc Tryz.prog W 0 (fun _ => true) true n 69 [c0, c1, c2, c3] = some y0 := by simpa [Value.cells, Tryz.cells69] using h0
  have k1 : DataW.trod enc Tryz.prog W 0 (fun _ => true) true n 69 [c4, c5, c6, c7] = some y1 := by simpa [Value.cells, Tryz.cells69] using h1
  obtain ⟨p, ⟨rfl, rfl, rfl, rfl⟩, hp, s1, s2⟩ := open_ratc k0
  obtain ⟨q, ⟨rfl, rfl, rfl, rfl⟩, hq, t1, t2⟩ := open_ratc k1
  exact ⟨(⟨p.1, q.1⟩, ⟨p.2, q.2⟩), ⟨rfl, rfl, rfl, rfl, rfl, rfl, rfl, rfl⟩, AllSl.cons hp.head (AllSl.cons hp.tail.head hq), s1, s2, t1, t2⟩
theorem open_PS {H : Type} {enc : TypeId × Value → H} {W : World} {r : Reach} {b0 : Nat} {v : Value} {d : DataW H} {p : List MemPlace}
    (hv : Value.okWide Tryz.prog W r b0 66 v) (h : DataW.Trod enc Tryz.prog W 0 (fun _ => true) true 66 v d p) :
    ∃ (a : Option Addr) (n c : Nat) (l : List (SV × SD)), v = .slice a n c ∧ PSlS W a l ∧ l.length = n ∧ n ≤ maxLen ∧ ∀ p ∈ l, p.1.lo.num.n ≤ maxLen ∧ p.1.lo.den.n ≤ maxLen ∧ p.1.hi.num.n ≤ maxLen ∧ p.1.hi.den.n ≤ maxLen := by
  obtain ⟨a, n, c, rfl⟩ := okWide_slice Tryz.underlying66 hv
  obtain ⟨fuel, hf⟩ := h
  rcases Go.Deep.open_slice Tryz.underlying66 hf with ⟨hcs, _⟩ | ⟨a', len, cap, m, n', D, Pl, hcs, _, hl, hm, hmm, _, hx⟩
  · simp only [Value.cells, List.cons.injEq, Value.slice.injEq, and_true] at hcs
    obtain ⟨rfl, rfl, rfl⟩ := hcs
    exact ⟨none, 0, 0, [], rfl, ⟨.inl rfl, fun p hp => by cases hp⟩, rfl, Nat.zero_le _, fun p hp => by cases hp⟩
  · simp only [Value.cells, List.cons.injEq, Value.slice.injEq, and_true] at hcs
    obtain ⟨rfl, rfl, rfl⟩ := hcs
    simp only [if_true] at hmm
    subst hmm
    have each : ∀ i, i < n → ∃ p : SV × SD, (W.cell? ((a'.add (i * 8)).add 0) = some (.bool p.1.lo.num.g) ∧ W.cell? ((a'.add (i * 8)).add 1) = some (.slice p.1.lo.num.a p.1.lo.num.n p.1.lo.num.c) ∧ W.cell? ((a'.add (i * 8)).add 2) = some (.bool p.1.lo.den.g) ∧ W.cell? ((a'.add (i * 8)).add 3) = some (.slice p.1.lo.den.a p.1.lo.den.n p.1.lo.den.c) ∧ W.cell? ((a'.add (i * 8)).add 4) = some (.bool p.1.hi.num.g) ∧ W.cell? ((a'.add (i * 8)).add 5) = some (.slice p.1.hi.num.a p.1.hi.num.n p.1.hi.num.c) ∧ W.cell? ((a'.add (i * 8)).add 6) = some (.bool p.1.hi.den.g) ∧ W.cell? ((a'.add (i * 8)).add 7) = some (.slice p.1.hi.den.a p.1.hi.den.n p.1.hi.den.c)) ∧ AllSl W [(p.1.lo.num, p.2.lo.num), (p.1.lo.den, p.2.lo.den), (p.1.hi.num, p.2.hi.num), (p.1.hi.den, p.2.hi.den)] ∧ p.1.lo.num.n ≤ maxLen ∧ p.1.lo.den.n ≤ maxLen ∧ p.1.hi.num.n ≤ maxLen ∧ p.1.hi.den.n ≤ maxLen := by
      intro i hi
      obtain ⟨cs, h1, h2⟩ := hx i (by omega)
      rw [Tryz.cells80] at h1
      obtain ⟨_, h3, h4⟩ := World.cells?_some h1
      match cs, h3 with
      | [c0, c1, c2, c3, c4, c5, c6, c7], _ =>
        obtain ⟨p, ⟨rfl, rfl, rfl, rfl, rfl, rfl, rfl, rfl⟩, hp⟩ := open_spanc h2
        exact ⟨p, ⟨h4 0 (by omega), h4 1 (by omega), h4 2 (by omega), h4 3 (by omega), h4 4 (by omega), h4 5 (by omega), h4 6 (by omega), h4 7 (by omega)⟩, hp⟩
    have inh : Inhabited (SV × SD) := ⟨(⟨⟨⟨false, none, 0, 0⟩, ⟨false, none, 0, 0⟩⟩, ⟨⟨false, none, 0, 0⟩, ⟨false, none, 0, 0⟩⟩⟩, ⟨⟨⟨false, []⟩, ⟨false, []⟩⟩, ⟨⟨false, []⟩, ⟨false, []⟩⟩⟩)⟩
    obtain ⟨f, hf⟩ := Go.Deep.choose_lt each
    refine ⟨some a', n, m, (List.range n).map f, rfl, ⟨?_, ?_⟩, by simp, Nat.le_trans hl hm, ?_⟩
    · by_cases h0 : n = 0
      · subst h0; exact .inl rfl
      · obtain ⟨b, off, spot⟩ := a'
        have hc := (hf 0 (by omega)).1.1
        have hspot : spot = none := by simpa [Addr.add] using World.cell?_spot hc
        subst hspot
        refine .inr ⟨b, off, rfl, ?_, fun i hi => ?_⟩
        · have := World.block_lt_of_cell? _ _ hc
          rw [addr_add, addr_add] at this
          exact this
        · have hi' : i < n := by simpa using hi
          have h1 := (hf i hi').1
          rw [addr_add, addr_add, addr_add, addr_add, addr_add, addr_add, addr_add, addr_add, addr_add] at h1
          simpa using h1
    · intro p hp
      obtain ⟨i, hi, rfl⟩ := List.mem_map.1 hp
      exact (hf i (List.mem_range.1 hi)).2.1
    · intro p hp
      obtain ⟨i, hi, rfl⟩ := List.mem_map.1 hp
      exact (hf i (List.mem_range.1 hi)).2.2
end Go.Proofs.YtikllcoekcglcaaGreat
namespace Go.Proofs.YtikllcoekcglcaaGreat
open Go.RowKit
set_option linter.unusedVariables false
set_option maxRecDepth 100000
set_option linter.unusedSimpArgs false

/-- A row of n points at block B, whose limbs lie below block E. -/
structure GrE (B n E : Nat) (w : World) (us : List (SV × SD)) : Prop where
  row : ∃ M, w.ownsRow B 34 8 (.slice (some ⟨B, 0, none⟩) n n) n M ∧ ∀ i (h : i < us.length), M[i * 8]? = some (.bool us[i].1.lo.num.g) ∧ M[i * 8 + 1]? = some (.slice us[i].1.lo.num.a us[i].1.lo.num.n us[i].1.lo.num.c) ∧ M[i * 8 + 2]? = some (.bool us[i].1.lo.den.g) ∧ M[i * 8 + 3]? = some (.slice us[i].1.lo.den.a us[i].1.lo.den.n us[i].1.lo.den.c) ∧ M[i * 8 + 4]? = some (.bool us[i].1.hi.num.g) ∧ M[i * 8 + 5]? = some (.slice us[i].1.hi.num.a us[i].1.hi.num.n us[i].1.hi.num.c) ∧ M[i * 8 + 6]? = some (.bool us[i].1.hi.den.g) ∧ M[i * 8 + 7]? = some (.slice us[i].1.hi.den.a us[i].1.hi.den.n us[i].1.hi.den.c)
  own : AllOwn (B + 1) E w (zipPS us)
  ar : ∀ p ∈ us, AllAr w [(p.1.lo.num, p.2.lo.num), (p.1.lo.den, p.2.lo.den), (p.1.hi.num, p.2.hi.num), (p.1.hi.den, p.2.hi.den)]
  lt : B < E
  le : E ≤ w.heap.size
  len : us.length = n
theorem GrZ.e {B n : Nat} {w w' : World} {us : List (SV × SD)} (h : GrZ B n w us) (hb : Below w.heap.size w w') : GrE B n w.heap.size w' us := by
  have h2 := h.later hb
  exact ⟨h2.row, h.own.later hb, h2.ar, h.lt, hb.size, h.len⟩
theorem GrE.z {B n E : Nat} {w : World} {us : List (SV × SD)} (h : GrE B n E w us) : GrZ B n w us := ⟨h.row, h.own.wide (Nat.le_refl _) h.le, h.ar, Nat.lt_of_lt_of_le h.lt h.le, h.len⟩
theorem GrE.put {B n E E' k : Nat} {w : World} {us : List (SV × SD)} {u : SV} {d : SD} (h : GrE B n E w us) (hk : k < n) (hE : E ≤ E') (hE' : E' ≤ w.heap.size) (ho : AllOwn E E' w [(u.lo.num, d.lo.num), (u.lo.den, d.lo.den), (u.hi.num, d.hi.num), (u.hi.den, d.hi.den)]) (ha : AllAr w [(u.lo.num, d.lo.num), (u.lo.den, d.lo.den), (u.hi.num, d.hi.num), (u.hi.den, d.hi.den)]) : GrE B n E' ((((((((w.setCell ⟨B, k * 8, none⟩ (.bool u.lo.num.g)).setCell ⟨B, k * 8 + 1, none⟩ (.slice u.lo.num.a u.lo.num.n u.lo.num.c)).setCell ⟨B, k * 8 + 2, none⟩ (.bool u.lo.den.g)).setCell ⟨B, k * 8 + 3, none⟩ (.slice u.lo.den.a u.lo.den.n u.lo.den.c)).setCell ⟨B, k * 8 + 4, none⟩ (.bool u.hi.num.g)).setCell ⟨B, k * 8 + 5, none⟩ (.slice u.hi.num.a u.hi.num.n u.hi.num.c)).setCell ⟨B, k * 8 + 6, none⟩ (.bool u.hi.den.g)).setCell ⟨B, k * 8 + 7, none⟩ (.slice u.hi.den.a u.hi.den.n u.hi.den.c)) (us.set k (u, d)) := by
  obtain ⟨M, hM, hL⟩ := h.row
  have bt : But B (B + 1) w ((((((((w.setCell ⟨B, k * 8, none⟩ (.bool u.lo.num.g)).setCell ⟨B, k * 8 + 1, none⟩ (.slice u.lo.num.a u.lo.num.n u.lo.num.c)).setCell ⟨B, k * 8 + 2, none⟩ (.bool u.lo.den.g)).setCell ⟨B, k * 8 + 3, none⟩ (.slice u.lo.den.a u.lo.den.n u.lo.den.c)).setCell ⟨B, k * 8 + 4, none⟩ (.bool u.hi.num.g)).setCell ⟨B, k * 8 + 5, none⟩ (.slice u.hi.num.a u.hi.num.n u.hi.num.c)).setCell ⟨B, k * 8 + 6, none⟩ (.bool u.hi.den.g)).setCell ⟨B, k * 8 + 7, none⟩ (.slice u.hi.den.a u.hi.den.n u.hi.den.c)) := but_rowS
  have hkl : k < us.length := by rw [h.len]; exact hk
  have own := AllOwn.replZ (U := zipPS [(u, d)]) (by have := h.own; rw [(zipS_set (u := (u, d)) hkl).1] at this; exact this) (by rw [zipPS_one]; exact ho) (Nat.succ_le_of_lt h.lt) hE
  rw [← (zipS_set (u := (u, d)) hkl).2] at own
  have ar : AllAr w (zipPS (us.set k (u, d))) := allSl_ar_mem (fun p hp => by
    rcases List.mem_or_eq_of_mem_set hp with hp | rfl
    · exact h.ar p hp
    · exact ha)
  exact ⟨⟨_, (World.ownsRow.stored (World.ownsRow.stored (World.ownsRow.stored (World.ownsRow.stored (World.ownsRow.stored (World.ownsRow.stored (World.ownsRow.stored (World.ownsRow.stored hM (k * 8) (.bool u.lo.num.g)).1 (k * 8 + 1) (.slice u.lo.num.a u.lo.num.n u.lo.num.c)).1 (k * 8 + 2) (.bool u.lo.den.g)).1 (k * 8 + 3) (.slice u.lo.den.a u.lo.den.n u.lo.den.c)).1 (k * 8 + 4) (.bool u.hi.num.g)).1 (k * 8 + 5) (.slice u.hi.num.a u.hi.num.n u.hi.num.c)).1 (k * 8 + 6) (.bool u.hi.den.g)).1 (k * 8 + 7) (.slice u.hi.den.a u.hi.den.n u.hi.den.c)).1, rep_rowS hM.1 h.len hk hL⟩, own.but bt (.inr (Nat.le_refl _)), fun p hp x hx => ar_fin bt own ar (Nat.le_refl _) x (zipPS_mem hp hx), Nat.lt_of_lt_of_le h.lt hE, Nat.le_trans hE' bt.size, by rw [List.length_set]; exact h.len⟩
theorem bigRI (n : Int) (w : World) (h0 : -9223372036854775808 ≤ n) (h1 : n ≤ 9223372036854775807) : Calls Tryz.prog 102 #[.int .i64 n] w fun e w' => ∃ b : BV, e = .returned (.agg #[.bool b.g, .slice b.a b.n b.c]) ∧ Below w.heap.size w w' ∧ IsB w' b n := (bigOfI_any n w h0 h1).mono fun e w' ⟨a, m, c, zs, h1, h2, h3, h4, h5⟩ => ⟨⟨decide (n < 0), a, m, c⟩, h1, h2, ⟨zs, ⟨rfl, h4⟩, h5⟩⟩
theorem bigRS (n : Int) (w : World) (h0 : -9223372036854775808 ≤ n) (h1 : n ≤ 9223372036854775807) : Calls Tryz.prog 185 #[.int .i64 n] w fun e w' => ∃ b : BV, e = .returned (.agg #[.bool b.g, .slice b.a b.n b.c]) ∧ Below w.heap.size w w' ∧ IsB w' b n := (bigOfS_any n w h0 h1).mono fun e w' ⟨a, m, c, zs, h1, h2, h3, h4, h5⟩ => ⟨⟨decide (n < 0), a, m, c⟩, h1, h2, ⟨zs, ⟨rfl, h4⟩, h5⟩⟩
theorem lowRI (b b' : BV) (N D : Int) (w : World) (h : IsB w b N) (h' : IsB w b' D) (hD : D ≠ 0) (n0 : -1000 ≤ N) (n1 : N ≤ 1000) (d0 : -1000 ≤ D) (d1 : D ≤ 1000) : Calls Tryz.prog 101 #[.agg #[.bool b.g, .slice b.a b.n b.c], .agg #[.bool b'.g, .slice b'.a b'.n b'.c]] w (OuR w (Rat.divInt N D)) := by
  have := lowI b b' N D w h h' hD ((show Bd N 1 from ⟨by omega⟩).mono (by omega)) ((show Bd D 1 from ⟨by omega⟩).mono (by omega))
  rw [(lowR hD).1, (lowR hD).2] at this
  exact this
theorem lowRS (b b' : BV) (N D : Int) (w : World) (h : IsB w b N) (h' : IsB w b' D) (hD : D ≠ 0) (n0 : -1000 ≤ N) (n1 : N ≤ 1000) (d0 : -1000 ≤ D) (d1 : D ≤ 1000) : Calls Tryz.prog 184 #[.agg #[.bool b.g, .slice b.a b.n b.c], .agg #[.bool b'.g, .slice b'.a b'.n b'.c]] w (OuR w (Rat.divInt N D)) := by
  have := lowS2 b b' N D w h h' hD ((show Bd N 1 from ⟨by omega⟩).mono (by omega)) ((show Bd D 1 from ⟨by omega⟩).mono (by omega))
  rw [(lowR hD).1, (lowR hD).2] at this
  exact this
/-- The raised curve's points. -/
def raP (ps : List (Rat × Rat)) (i : Nat) : Rat × Rat := if i = 0 then (ps[0]?).getD (0, 0) else if i = ps.length then (ps[ps.length - 1]?).getD (0, 0) else mxP (Rat.divInt ((ps.length : Int) - (i : Int)) (ps.length : Int)) ((ps[i - 1]?).getD (0, 0)) ((ps[i]?).getD (0, 0))
def raL (ps : List (Rat × Rat)) : List (Rat × Rat) := (List.range (ps.length + 1)).map (raP ps)
theorem raL_get {ps : List (Rat × Rat)} {i : Nat} {p : Rat × Rat} (h : (raL ps)[i]? = some p) : i < ps.length + 1 ∧ p = raP ps i := by
  unfold raL at h
  rw [List.getElem?_map] at h
  by_cases hi : i < ps.length + 1
  · rw [List.getElem?_range hi] at h
    exact ⟨hi, (Option.some.inj h).symm⟩
  · rw [List.getElem?_eq_none (by simp; omega)] at h
    cases h
theorem raL_len (ps : List (Rat × Rat)) : (raL ps).length = ps.length + 1 := by unfold raL; simp
theorem raL_bd {ps : List (Rat × Rat)} (h : BdC ps 40) (h1 : 1 ≤ ps.length) (h5 : ps.length ≤ 5) : BdC (raL ps) 200 := fun x hx => by
  obtain ⟨i, hi, rfl⟩ := List.mem_map.1 hx
  have hi := List.mem_range.1 hi
  have at_ : ∀ j, j < ps.length → BdP ((ps[j]?).getD (0, 0)) 40 := fun j hj => by rw [List.getElem?_eq_getElem hj]; exact h _ (List.getElem_mem _)
  unfold raP
  split
  · exact (at_ 0 (by omega)).mono (by omega)
  · split
    · exact (at_ _ (by omega)).mono (by omega)
    · have k1 := at_ (i - 1) (by omega)
      have k2 := at_ i (by omega)
      have hz := bdR_div (a := (ps.length : Int) - (i : Int)) (b := (ps.length : Int)) (by omega) (by omega) (by omega) (by omega) (by omega)
      have o1 := (bdR_int (n := 1) (by omega) (by omega)).sub hz
      exact ⟨((o1.mul k1.x).add (hz.mul k2.x)).mono (by omega), ((o1.mul k1.y).add (hz.mul k2.y)).mono (by omega)⟩

set_option maxHeartbeats 8000000 in
theorem raiI (a : Option Addr) (n c : Nat) (l : List (SV × SD)) (ps : List (Rat × Rat)) (w : World) (h : RdC w a n c l ps) (hb : BdC ps 40) (h1 : 1 ≤ n) (h5 : n ≤ 5) :
    Calls Tryz.prog 107 #[.slice a n c] w (OutCz w (raL ps)) := by
  have RD := hide h
  have BD := hide hb
  have HS := hide h.ar
  have HN := hide h.ar.len
  have LP : Hid (ps.length = n) := hide h.len
  clear h hb
  obtain ⟨i0, hi, hz0, hz1, hz2⟩ := info_parts Tryz.info34
  go_enter Tryz.func107, Tryz.ntmps107
  go_wp2_with (at_make; refine wpList_make_full _ rfl _ _ 23 rfl w.heap.size 34 i0 (.agg #[.bool false, .slice none 0 0, .bool false, .slice none 0 0, .bool false, .slice none 0 0, .bool false, .slice none 0 0]) 8 Tryz.underlying23 hi hz0 hz1 .i64 .i64 _ _ (n + 1) rfl rfl (by omega) (by omega) ?c1 ?c2 ?c3 ?_)
  case c1 => rw [hz2]; omega
  case c2 => unfold maxLen; omega
  case c3 => exact Nat.le_refl _
  intro wm hown hgrow
  have hbm : Below w.heap.size w wm := (Below.refl _ _).grown hgrow (Nat.le_refl _) (fun k e => by cases e)
  have G0 := hide (GrZ.start hown hbm)
  have HBm := hide hbm
  clear hown hgrow hi hz0 hz1 hz2 hbm
  rcases (unhide HS).at_ with e | ⟨b, off, rfl, hbb, hcb⟩
  · exact absurd (unhide HN) (by rw [e]; simp <;> omega)
  have e0 := hcb 0 (by rw [unhide HN]; omega)
  obtain ⟨y, hy⟩ : ∃ y, y = l[0]'(by rw [unhide HN]; omega) := ⟨_, rfl⟩
  rw [← hy] at e0
  have My : Hid (l[0]? = some y) := hide (by rw [hy]; exact List.getElem?_eq_getElem _)
  clear hy
  have k0_0 : wm.cell? ⟨b, off, none⟩ = some (.bool y.1.lo.num.g) := ((unhide HBm).cell (p := ⟨b, off, none⟩) hbb).trans (by have h := e0.1; simpa using h)
  have k0_1 : wm.cell? ⟨b, off + 1, none⟩ = some (.slice y.1.lo.num.a y.1.lo.num.n y.1.lo.num.c) := ((unhide HBm).cell (p := ⟨b, off + 1, none⟩) hbb).trans (by have h := e0.2.1; simpa using h)
  have k0_2 : wm.cell? ⟨b, off + 2, none⟩ = some (.bool y.1.lo.den.g) := ((unhide HBm).cell (p := ⟨b, off + 2, none⟩) hbb).trans (by have h := e0.2.2.1; simpa using h)
  have k0_3 : wm.cell? ⟨b, off + 3, none⟩ = some (.slice y.1.lo.den.a y.1.lo.den.n y.1.lo.den.c) := ((unhide HBm).cell (p := ⟨b, off + 3, none⟩) hbb).trans (by have h := e0.2.2.2.1; simpa using h)
  have k0_4 : wm.cell? ⟨b, off + 4, none⟩ = some (.bool y.1.hi.num.g) := ((unhide HBm).cell (p := ⟨b, off + 4, none⟩) hbb).trans (by have h := e0.2.2.2.2.1; simpa using h)
  have k0_5 : wm.cell? ⟨b, off + 5, none⟩ = some (.slice y.1.hi.num.a y.1.hi.num.n y.1.hi.num.c) := ((unhide HBm).cell (p := ⟨b, off + 5, none⟩) hbb).trans (by have h := e0.2.2.2.2.2.1; simpa using h)
  have k0_6 : wm.cell? ⟨b, off + 6, none⟩ = some (.bool y.1.hi.den.g) := ((unhide HBm).cell (p := ⟨b, off + 6, none⟩) hbb).trans (by have h := e0.2.2.2.2.2.2.1; simpa using h)
  have k0_7 : wm.cell? ⟨b, off + 7, none⟩ = some (.slice y.1.hi.den.a y.1.hi.den.n y.1.hi.den.c) := ((unhide HBm).cell (p := ⟨b, off + 7, none⟩) hbb).trans (by have h := e0.2.2.2.2.2.2.2; simpa using h)
  clear e0
  have hlm : n - 1 < n := by omega
  have e0 := hcb (n - 1) (by rw [unhide HN]; exact hlm)
  obtain ⟨v, hv⟩ : ∃ y, y = l[(n - 1)]'(by rw [unhide HN]; exact hlm) := ⟨_, rfl⟩
  rw [← hv] at e0
  have Mv : Hid (l[(n - 1)]? = some v) := hide (by rw [hv]; exact List.getElem?_eq_getElem _)
  clear hv
  have k1_0 : wm.cell? ⟨b, off + (n - 1) * 8, none⟩ = some (.bool v.1.lo.num.g) := ((unhide HBm).cell (p := ⟨b, off + (n - 1) * 8, none⟩) hbb).trans (e0.1)
  have k1_1 : wm.cell? ⟨b, off + (n - 1) * 8 + 1, none⟩ = some (.slice v.1.lo.num.a v.1.lo.num.n v.1.lo.num.c) := ((unhide HBm).cell (p := ⟨b, off + (n - 1) * 8 + 1, none⟩) hbb).trans (e0.2.1)
  have k1_2 : wm.cell? ⟨b, off + (n - 1) * 8 + 2, none⟩ = some (.bool v.1.lo.den.g) := ((unhide HBm).cell (p := ⟨b, off + (n - 1) * 8 + 2, none⟩) hbb).trans (e0.2.2.1)
  have k1_3 : wm.cell? ⟨b, off + (n - 1) * 8 + 3, none⟩ = some (.slice v.1.lo.den.a v.1.lo.den.n v.1.lo.den.c) := ((unhide HBm).cell (p := ⟨b, off + (n - 1) * 8 + 3, none⟩) hbb).trans (e0.2.2.2.1)
  have k1_4 : wm.cell? ⟨b, off + (n - 1) * 8 + 4, none⟩ = some (.bool v.1.hi.num.g) := ((unhide HBm).cell (p := ⟨b, off + (n - 1) * 8 + 4, none⟩) hbb).trans (e0.2.2.2.2.1)
  have k1_5 : wm.cell? ⟨b, off + (n - 1) * 8 + 5, none⟩ = some (.slice v.1.hi.num.a v.1.hi.num.n v.1.hi.num.c) := ((unhide HBm).cell (p := ⟨b, off + (n - 1) * 8 + 5, none⟩) hbb).trans (e0.2.2.2.2.2.1)
  have k1_6 : wm.cell? ⟨b, off + (n - 1) * 8 + 6, none⟩ = some (.bool v.1.hi.den.g) := ((unhide HBm).cell (p := ⟨b, off + (n - 1) * 8 + 6, none⟩) hbb).trans (e0.2.2.2.2.2.2.1)
  have k1_7 : wm.cell? ⟨b, off + (n - 1) * 8 + 7, none⟩ = some (.slice v.1.hi.den.a v.1.hi.den.n v.1.hi.den.c) := ((unhide HBm).cell (p := ⟨b, off + (n - 1) * 8 + 7, none⟩) hbb).trans (e0.2.2.2.2.2.2.2)
  clear e0
  have HC := hide hcb
  clear hcb
  obtain ⟨p, hp1, hp2, hp3, hp4⟩ := (unhide RD).pt (unhide My)
  obtain ⟨q, hq1, hq2, hq3, hq4⟩ := (unhide RD).pt (unhide Mv)
  have IP := hide (hp4.later (unhide HBm))
  have IQ := hide (hq4.later (unhide HBm))
  have BP := hide ((unhide BD) p hp2)
  have BQ := hide ((unhide BD) q hq2)
  have PV := hide (And.intro hp1 hq1)
  clear hp1 hp2 hp3 hp4 hq1 hq2 hq3 hq4
  have zb := (unhide G0).lt
  have neb : b ≠ w.heap.size := by omega
  have GR0 := G0
  have HBq := HBm
  have j1 : (0 : Int) ≤ (n : Int) - 1 := by omega
  have j2 : (n : Int) - 1 < (n : Int) := by omega
  have j3 : ((n : Int) - 1).toNat = n - 1 := by omega
  have iw : IntKind.i64.wrap ((n : Int) - 1) = (n : Int) - 1 := by rw [IntKind.wrap_i64] <;> omega
  have j4 : (0 : Int) < (n : Int) := by omega
  have j5 : (n : Int) < ((n + 1 : Nat) : Int) := by omega
  have j6 : (n : Int) < (n : Int) + 1 := by omega
  have j7 : (0 : Int) < (n : Int) + 1 := by omega
  have j8 : 0 < n := by omega
  have j9 : 1 ≤ n := by omega
  have j10 : (1 : Int) ≤ (n : Int) := by omega
  go_upto_region 3 with fail
  have ne0_2 : b ≠ w.heap.size := by omega
  have ne1_2 : b ≠ w.heap.size := by omega
  have ne0_3 : b ≠ w.heap.size := by omega
  have ne1_3 : b ≠ w.heap.size := by omega
  go_region_held3 (fun w' => w'.cell? ⟨b, off, none⟩ = some (.bool y.1.lo.num.g) ∧ w'.cell? ⟨b, off + 1, none⟩ = some (.slice y.1.lo.num.a y.1.lo.num.n y.1.lo.num.c) ∧ w'.cell? ⟨b, off + 2, none⟩ = some (.bool y.1.lo.den.g) ∧ w'.cell? ⟨b, off + 3, none⟩ = some (.slice y.1.lo.den.a y.1.lo.den.n y.1.lo.den.c) ∧ w'.cell? ⟨b, off + 4, none⟩ = some (.bool y.1.hi.num.g) ∧ w'.cell? ⟨b, off + 5, none⟩ = some (.slice y.1.hi.num.a y.1.hi.num.n y.1.hi.num.c) ∧ w'.cell? ⟨b, off + 6, none⟩ = some (.bool y.1.hi.den.g) ∧ w'.cell? ⟨b, off + 7, none⟩ = some (.slice y.1.hi.den.a y.1.hi.den.n y.1.hi.den.c) ∧ w'.cell? ⟨b, off + (n - 1) * 8, none⟩ = some (.bool v.1.lo.num.g) ∧ w'.cell? ⟨b, off + (n - 1) * 8 + 1, none⟩ = some (.slice v.1.lo.num.a v.1.lo.num.n v.1.lo.num.c) ∧ w'.cell? ⟨b, off + (n - 1) * 8 + 2, none⟩ = some (.bool v.1.lo.den.g) ∧ w'.cell? ⟨b, off + (n - 1) * 8 + 3, none⟩ = some (.slice v.1.lo.den.a v.1.lo.den.n v.1.lo.den.c) ∧ w'.cell? ⟨b, off + (n - 1) * 8 + 4, none⟩ = some (.bool v.1.hi.num.g) ∧ w'.cell? ⟨b, off + (n - 1) * 8 + 5, none⟩ = some (.slice v.1.hi.num.a v.1.hi.num.n v.1.hi.num.c) ∧ w'.cell? ⟨b, off + (n - 1) * 8 + 6, none⟩ = some (.bool v.1.hi.den.g) ∧ w'.cell? ⟨b, off + (n - 1) * 8 + 7, none⟩ = some (.slice v.1.hi.den.a v.1.hi.den.n v.1.hi.den.c)) (with_reducible (first | exact ⟨k0_0, k0_1, k0_2, k0_3, k0_4, k0_5, k0_6, k0_7, k1_0, k1_1, k1_2, k1_3, k1_4, k1_5, k1_6, k1_7⟩ | exact ⟨cd_other k0_0, cd_other k0_1, cd_other k0_2, cd_other k0_3, cd_other k0_4, cd_other k0_5, cd_other k0_6, cd_other k0_7, cd_other k1_0, cd_other k1_1, cd_other k1_2, cd_other k1_3, cd_other k1_4, cd_other k1_5, cd_other k1_6, cd_other k1_7⟩ | exact ⟨cs_other (cs_other (cs_other (cs_other (cs_other (cs_other (cs_other (cs_other (k0_0) ne0_2) ne0_2) ne0_2) ne0_2) ne0_2) ne0_2) ne0_2) ne0_2, cs_other (cs_other (cs_other (cs_other (cs_other (cs_other (cs_other (cs_other (k0_1) ne0_2) ne0_2) ne0_2) ne0_2) ne0_2) ne0_2) ne0_2) ne0_2, cs_other (cs_other (cs_other (cs_other (cs_other (cs_other (cs_other (cs_other (k0_2) ne0_2) ne0_2) ne0_2) ne0_2) ne0_2) ne0_2) ne0_2) ne0_2, cs_other (cs_other (cs_other (cs_other (cs_other (cs_other (cs_other (cs_other (k0_3) ne0_2) ne0_2) ne0_2) ne0_2) ne0_2) ne0_2) ne0_2) ne0_2, cs_other (cs_other (cs_other (cs_other (cs_other (cs_other (cs_other (cs_other (k0_4) ne0_2) ne0_2) ne0_2) ne0_2) ne0_2) ne0_2) ne0_2) ne0_2, cs_other (cs_other (cs_other (cs_other (cs_other (cs_other (cs_other (cs_other (k0_5) ne0_2) ne0_2) ne0_2) ne0_2) ne0_2) ne0_2) ne0_2) ne0_2, cs_other (cs_other (cs_other (cs_other (cs_other (cs_other (cs_other (cs_other (k0_6) ne0_2) ne0_2) ne0_2) ne0_2) ne0_2) ne0_2) ne0_2) ne0_2, cs_other (cs_other (cs_other (cs_other (cs_other (cs_other (cs_other (cs_other (k0_7) ne0_2) ne0_2) ne0_2) ne0_2) ne0_2) ne0_2) ne0_2) ne0_2, cs_other (cs_other (cs_other (cs_other (cs_other (cs_other (cs_other (cs_other (k1_0) ne1_2) ne1_2) ne1_2) ne1_2) ne1_2) ne1_2) ne1_2) ne1_2, cs_other (cs_other (cs_other (cs_other (cs_other (cs_other (cs_other (cs_other (k1_1) ne1_2) ne1_2) ne1_2) ne1_2) ne1_2) ne1_2) ne1_2) ne1_2, cs_other (cs_other (cs_other (cs_other (cs_other (cs_other (cs_other (cs_other (k1_2) ne1_2) ne1_2) ne1_2) ne1_2) ne1_2) ne1_2) ne1_2) ne1_2, cs_other (cs_other (cs_other (cs_other (cs_other (cs_other (cs_other (cs_other (k1_3) ne1_2) ne1_2) ne1_2) ne1_2) ne1_2) ne1_2) ne1_2) ne1_2, cs_other (cs_other (cs_other (cs_other (cs_other (cs_other (cs_other (cs_other (k1_4) ne1_2) ne1_2) ne1_2) ne1_2) ne1_2) ne1_2) ne1_2) ne1_2, cs_other (cs_other (cs_other (cs_other (cs_other (cs_other (cs_other (cs_other (k1_5) ne1_2) ne1_2) ne1_2) ne1_2) ne1_2) ne1_2) ne1_2) ne1_2, cs_other (cs_other (cs_other (cs_other (cs_other (cs_other (cs_other (cs_other (k1_6) ne1_2) ne1_2) ne1_2) ne1_2) ne1_2) ne1_2) ne1_2) ne1_2, cs_other (cs_other (cs_other (cs_other (cs_other (cs_other (cs_other (cs_other (k1_7) ne1_2) ne1_2) ne1_2) ne1_2) ne1_2) ne1_2) ne1_2) ne1_2⟩ | exact ⟨cs_other (cs_other (cs_other (cs_other (cs_other (cs_other (cs_other (cs_other (cs_other (cs_other (cs_other (cs_other (cs_other (cs_other (cs_other (cs_other (k0_0) ne0_2) ne0_2) ne0_2) ne0_2) ne0_2) ne0_2) ne0_2) ne0_2) ne0_3) ne0_3) ne0_3) ne0_3) ne0_3) ne0_3) ne0_3) ne0_3, cs_other (cs_other (cs_other (cs_other (cs_other (cs_other (cs_other (cs_other (cs_other (cs_other (cs_other (cs_other (cs_other (cs_other (cs_other (cs_other (k0_1) ne0_2) ne0_2) ne0_2) ne0_2) ne0_2) ne0_2) ne0_2) ne0_2) ne0_3) ne0_3) ne0_3) ne0_3) ne0_3) ne0_3) ne0_3) ne0_3, cs_other (cs_other (cs_other (cs_other (cs_other (cs_other (cs_other (cs_other (cs_other (cs_other (cs_other (cs_other (cs_other (cs_other (cs_other (cs_other (k0_2) ne0_2) ne0_2) ne0_2) ne0_2) ne0_2) ne0_2) ne0_2) ne0_2) ne0_3) ne0_3) ne0_3) ne0_3) ne0_3) ne0_3) ne0_3) ne0_3, cs_other (cs_other (cs_other (cs_other (cs_other (cs_other (cs_other (cs_other (cs_other (cs_other (cs_other (cs_other (cs_other (cs_other (cs_other (cs_other (k0_3) ne0_2) ne0_2) ne0_2) ne0_2) ne0_2) ne0_2) ne0_2) ne0_2) ne0_3) ne0_3) ne0_3) ne0_3) ne0_3) ne0_3) ne0_3) ne0_3, cs_other (cs_other (cs_other (cs_other (cs_other (cs_other (cs_other (cs_other (cs_other (cs_other (cs_other (cs_other (cs_other (cs_other (cs_other (cs_other (k0_4) ne0_2) ne0_2) ne0_2) ne0_2) ne0_2) ne0_2) ne0_2) ne0_2) ne0_3) ne0_3) ne0_3) ne0_3) ne0_3) ne0_3) ne0_3) ne0_3, cs_other (cs_other (cs_other (cs_other (cs_other (cs_other (cs_other (cs_other (cs_other (cs_other (cs_other (cs_other (cs_other (cs_other (cs_other (cs_other (k0_5) ne0_2) ne0_2) ne0_2) ne0_2) ne0_2) ne0_2) ne0_2) ne0_2) ne0_3) ne0_3) ne0_3) ne0_3) ne0_3) ne0_3) ne0_3) ne0_3, cs_other (cs_other (cs_other (cs_other (cs_other (cs_other (cs_other (cs_other (cs_other (cs_other (cs_other (cs_other (cs_other (cs_other (cs_other (cs_other (k0_6) ne0_2) ne0_2) ne0_2) ne0_2) ne0_2) ne0_2) ne0_2) ne0_2) ne0_3) ne0_3) ne0_3) ne0_3) ne0_3) ne0_3) ne0_3) ne0_3, cs_other (cs_other (cs_other (cs_other (cs_other (cs_other (cs_other (cs_other (cs_other (cs_other (cs_other (cs_other (cs_other (cs_other (cs_other (cs_other (k0_7) ne0_2) ne0_2) ne0_2) ne0_2) ne0_2) ne0_2) ne0_2) ne0_2) ne0_3) ne0_3) ne0_3) ne0_3) ne0_3) ne0_3) ne0_3) ne0_3, cs_other (cs_other (cs_other (cs_other (cs_other (cs_other (cs_other (cs_other (cs_other (cs_other (cs_other (cs_other (cs_other (cs_other (cs_other (cs_other (k1_0) ne1_2) ne1_2) ne1_2) ne1_2) ne1_2) ne1_2) ne1_2) ne1_2) ne1_3) ne1_3) ne1_3) ne1_3) ne1_3) ne1_3) ne1_3) ne1_3, cs_other (cs_other (cs_other (cs_other (cs_other (cs_other (cs_other (cs_other (cs_other (cs_other (cs_other (cs_other (cs_other (cs_other (cs_other (cs_other (k1_1) ne1_2) ne1_2) ne1_2) ne1_2) ne1_2) ne1_2) ne1_2) ne1_2) ne1_3) ne1_3) ne1_3) ne1_3) ne1_3) ne1_3) ne1_3) ne1_3, cs_other (cs_other (cs_other (cs_other (cs_other (cs_other (cs_other (cs_other (cs_other (cs_other (cs_other (cs_other (cs_other (cs_other (cs_other (cs_other (k1_2) ne1_2) ne1_2) ne1_2) ne1_2) ne1_2) ne1_2) ne1_2) ne1_2) ne1_3) ne1_3) ne1_3) ne1_3) ne1_3) ne1_3) ne1_3) ne1_3, cs_other (cs_other (cs_other (cs_other (cs_other (cs_other (cs_other (cs_other (cs_other (cs_other (cs_other (cs_other (cs_other (cs_other (cs_other (cs_other (k1_3) ne1_2) ne1_2) ne1_2) ne1_2) ne1_2) ne1_2) ne1_2) ne1_2) ne1_3) ne1_3) ne1_3) ne1_3) ne1_3) ne1_3) ne1_3) ne1_3, cs_other (cs_other (cs_other (cs_other (cs_other (cs_other (cs_other (cs_other (cs_other (cs_other (cs_other (cs_other (cs_other (cs_other (cs_other (cs_other (k1_4) ne1_2) ne1_2) ne1_2) ne1_2) ne1_2) ne1_2) ne1_2) ne1_2) ne1_3) ne1_3) ne1_3) ne1_3) ne1_3) ne1_3) ne1_3) ne1_3, cs_other (cs_other (cs_other (cs_other (cs_other (cs_other (cs_other (cs_other (cs_other (cs_other (cs_other (cs_other (cs_other (cs_other (cs_other (cs_other (k1_5) ne1_2) ne1_2) ne1_2) ne1_2) ne1_2) ne1_2) ne1_2) ne1_2) ne1_3) ne1_3) ne1_3) ne1_3) ne1_3) ne1_3) ne1_3) ne1_3, cs_other (cs_other (cs_other (cs_other (cs_other (cs_other (cs_other (cs_other (cs_other (cs_other (cs_other (cs_other (cs_other (cs_other (cs_other (cs_other (k1_6) ne1_2) ne1_2) ne1_2) ne1_2) ne1_2) ne1_2) ne1_2) ne1_2) ne1_3) ne1_3) ne1_3) ne1_3) ne1_3) ne1_3) ne1_3) ne1_3, cs_other (cs_other (cs_other (cs_other (cs_other (cs_other (cs_other (cs_other (cs_other (cs_other (cs_other (cs_other (cs_other (cs_other (cs_other (cs_other (k1_7) ne1_2) ne1_2) ne1_2) ne1_2) ne1_2) ne1_2) ne1_2) ne1_2) ne1_3) ne1_3) ne1_3) ne1_3) ne1_3) ne1_3) ne1_3) ne1_3⟩ | fail))
    (first
    | (go_at_call_of 175 (Value.agg #[Value.bool y.1.lo.num.g, Value.slice y.1.lo.num.a y.1.lo.num.n y.1.lo.num.c, Value.bool y.1.lo.den.g, Value.slice y.1.lo.den.a y.1.lo.den.n y.1.lo.den.c, Value.bool y.1.hi.num.g, Value.slice y.1.hi.num.a y.1.hi.num.n y.1.hi.num.c, Value.bool y.1.hi.den.g, Value.slice y.1.hi.den.a y.1.hi.den.n y.1.hi.den.c]); refine (calls_dp (cpyP y.1 p _ ?_ ((unhide BP).mono (by omega)))).mono ?_; exact (unhide IP).later (Below.refl _ _).drew; rintro e w1 ⟨u, d, rfl, hb, ho, ha, hd⟩; have hbx : Below wm.heap.size wm w1 := below_of_drew hb; have szw1 := hbx.size; replace k0_0 := cell_later hbx k0_0; replace k0_1 := cell_later hbx k0_1; replace k0_2 := cell_later hbx k0_2; replace k0_3 := cell_later hbx k0_3; replace k0_4 := cell_later hbx k0_4; replace k0_5 := cell_later hbx k0_5; replace k0_6 := cell_later hbx k0_6; replace k0_7 := cell_later hbx k0_7; replace k1_0 := cell_later hbx k1_0; replace k1_1 := cell_later hbx k1_1; replace k1_2 := cell_later hbx k1_2; replace k1_3 := cell_later hbx k1_3; replace k1_4 := cell_later hbx k1_4; replace k1_5 := cell_later hbx k1_5; replace k1_6 := cell_later hbx k1_6; replace k1_7 := cell_later hbx k1_7; replace IP := hide ((unhide IP).later hbx); replace IQ := hide ((unhide IQ).later hbx); have A1 := hide (And.intro ho ha); have HD1 := hide hd; have HBx1 := hide hbx; have HBr := hide hbx; clear hbx hb ho ha hd)
    | (go_at_call_of 175 (Value.agg #[Value.bool v.1.lo.num.g, Value.slice v.1.lo.num.a v.1.lo.num.n v.1.lo.num.c, Value.bool v.1.lo.den.g, Value.slice v.1.lo.den.a v.1.lo.den.n v.1.lo.den.c, Value.bool v.1.hi.num.g, Value.slice v.1.hi.num.a v.1.hi.num.n v.1.hi.num.c, Value.bool v.1.hi.den.g, Value.slice v.1.hi.den.a v.1.hi.den.n v.1.hi.den.c]); refine (calls_dp (cpyP v.1 q _ ?_ ((unhide BQ).mono (by omega)))).mono ?_; exact (unhide IQ).later (Below.refl _ _); rintro e w2 ⟨u2, d2, rfl, hb, ho, ha, hd⟩; have hbx : Below w1.heap.size w1 w2 := hb; have szw2 := hbx.size; replace k0_0 := cell_later hbx k0_0; replace k0_1 := cell_later hbx k0_1; replace k0_2 := cell_later hbx k0_2; replace k0_3 := cell_later hbx k0_3; replace k0_4 := cell_later hbx k0_4; replace k0_5 := cell_later hbx k0_5; replace k0_6 := cell_later hbx k0_6; replace k0_7 := cell_later hbx k0_7; replace k1_0 := cell_later hbx k1_0; replace k1_1 := cell_later hbx k1_1; replace k1_2 := cell_later hbx k1_2; replace k1_3 := cell_later hbx k1_3; replace k1_4 := cell_later hbx k1_4; replace k1_5 := cell_later hbx k1_5; replace k1_6 := cell_later hbx k1_6; replace k1_7 := cell_later hbx k1_7; replace IP := hide ((unhide IP).later hbx); replace IQ := hide ((unhide IQ).later hbx); have A2 := hide (And.intro ho ha); have HD2 := hide hd; have HBx := hide (below_on (unhide HBx1) hbx); have hs1 := (unhide HBx1).size; have hs2 := hbx.size; have G1 := hide ((unhide GR0).e (unhide HBx)); have A1x : Hid (AllOwn wm.heap.size w1.heap.size w2 [(u.lo.num, d.lo.num), (u.lo.den, d.lo.den), (u.hi.num, d.hi.num), (u.hi.den, d.hi.den)] ∧ AllAr w2 [(u.lo.num, d.lo.num), (u.lo.den, d.lo.den), (u.hi.num, d.hi.num), (u.hi.den, d.hi.den)]) := hide ⟨(unhide A1).1.later hbx, (unhide A1).2.later hbx⟩; obtain ⟨x0, o0⟩ := (unhide G1).z.old (o := 0) (by omega); obtain ⟨x1, o1⟩ := (unhide G1).z.old (o := 1) (by omega); obtain ⟨x2, o2⟩ := (unhide G1).z.old (o := 2) (by omega); obtain ⟨x3, o3⟩ := (unhide G1).z.old (o := 3) (by omega); obtain ⟨x4, o4⟩ := (unhide G1).z.old (o := 4) (by omega); obtain ⟨x5, o5⟩ := (unhide G1).z.old (o := 5) (by omega); obtain ⟨x6, o6⟩ := (unhide G1).z.old (o := 6) (by omega); obtain ⟨x7, o7⟩ := (unhide G1).z.old (o := 7) (by omega); obtain ⟨z0, q0⟩ := (unhide G1).z.old (o := n * 8) (by omega); obtain ⟨z1, q1⟩ := (unhide G1).z.old (o := n * 8 + 1) (by omega); obtain ⟨z2, q2⟩ := (unhide G1).z.old (o := n * 8 + 2) (by omega); obtain ⟨z3, q3⟩ := (unhide G1).z.old (o := n * 8 + 3) (by omega); obtain ⟨z4, q4⟩ := (unhide G1).z.old (o := n * 8 + 4) (by omega); obtain ⟨z5, q5⟩ := (unhide G1).z.old (o := n * 8 + 5) (by omega); obtain ⟨z6, q6⟩ := (unhide G1).z.old (o := n * 8 + 6) (by omega); obtain ⟨z7, q7⟩ := (unhide G1).z.old (o := n * 8 + 7) (by omega); have fr := (unhide G1).z.fz; have HBr := hide (below_on (unhide HBr) hbx); clear hbx hb ho ha hd))
  have bt1 : But w.heap.size (w.heap.size + 1) w2 ((((((((w2.setCell ⟨w.heap.size, 0, none⟩ (.bool u.lo.num.g)).setCell ⟨w.heap.size, 1, none⟩ (.slice u.lo.num.a u.lo.num.n u.lo.num.c)).setCell ⟨w.heap.size, 2, none⟩ (.bool u.lo.den.g)).setCell ⟨w.heap.size, 3, none⟩ (.slice u.lo.den.a u.lo.den.n u.lo.den.c)).setCell ⟨w.heap.size, 4, none⟩ (.bool u.hi.num.g)).setCell ⟨w.heap.size, 5, none⟩ (.slice u.hi.num.a u.hi.num.n u.hi.num.c)).setCell ⟨w.heap.size, 6, none⟩ (.bool u.hi.den.g)).setCell ⟨w.heap.size, 7, none⟩ (.slice u.hi.den.a u.hi.den.n u.hi.den.c)) := but_rowS (k := 0)
  have P1 : Hid (GrE w.heap.size (n + 1) w1.heap.size ((((((((w2.setCell ⟨w.heap.size, 0, none⟩ (.bool u.lo.num.g)).setCell ⟨w.heap.size, 1, none⟩ (.slice u.lo.num.a u.lo.num.n u.lo.num.c)).setCell ⟨w.heap.size, 2, none⟩ (.bool u.lo.den.g)).setCell ⟨w.heap.size, 3, none⟩ (.slice u.lo.den.a u.lo.den.n u.lo.den.c)).setCell ⟨w.heap.size, 4, none⟩ (.bool u.hi.num.g)).setCell ⟨w.heap.size, 5, none⟩ (.slice u.hi.num.a u.hi.num.n u.hi.num.c)).setCell ⟨w.heap.size, 6, none⟩ (.bool u.hi.den.g)).setCell ⟨w.heap.size, 7, none⟩ (.slice u.hi.den.a u.hi.den.n u.hi.den.c)) ((List.replicate (n + 1) (zSV, zSD)).set 0 (u, d))) := hide ((unhide G1).put (k := 0) (by omega) hs1 hs2 (unhide A1x).1 (unhide A1x).2)
  have O2 : Hid (AllOwn w1.heap.size w2.heap.size ((((((((w2.setCell ⟨w.heap.size, 0, none⟩ (.bool u.lo.num.g)).setCell ⟨w.heap.size, 1, none⟩ (.slice u.lo.num.a u.lo.num.n u.lo.num.c)).setCell ⟨w.heap.size, 2, none⟩ (.bool u.lo.den.g)).setCell ⟨w.heap.size, 3, none⟩ (.slice u.lo.den.a u.lo.den.n u.lo.den.c)).setCell ⟨w.heap.size, 4, none⟩ (.bool u.hi.num.g)).setCell ⟨w.heap.size, 5, none⟩ (.slice u.hi.num.a u.hi.num.n u.hi.num.c)).setCell ⟨w.heap.size, 6, none⟩ (.bool u.hi.den.g)).setCell ⟨w.heap.size, 7, none⟩ (.slice u.hi.den.a u.hi.den.n u.hi.den.c)) [(u2.lo.num, d2.lo.num), (u2.lo.den, d2.lo.den), (u2.hi.num, d2.hi.num), (u2.hi.den, d2.hi.den)] ∧ AllAr ((((((((w2.setCell ⟨w.heap.size, 0, none⟩ (.bool u.lo.num.g)).setCell ⟨w.heap.size, 1, none⟩ (.slice u.lo.num.a u.lo.num.n u.lo.num.c)).setCell ⟨w.heap.size, 2, none⟩ (.bool u.lo.den.g)).setCell ⟨w.heap.size, 3, none⟩ (.slice u.lo.den.a u.lo.den.n u.lo.den.c)).setCell ⟨w.heap.size, 4, none⟩ (.bool u.hi.num.g)).setCell ⟨w.heap.size, 5, none⟩ (.slice u.hi.num.a u.hi.num.n u.hi.num.c)).setCell ⟨w.heap.size, 6, none⟩ (.bool u.hi.den.g)).setCell ⟨w.heap.size, 7, none⟩ (.slice u.hi.den.a u.hi.den.n u.hi.den.c)) [(u2.lo.num, d2.lo.num), (u2.lo.den, d2.lo.den), (u2.hi.num, d2.hi.num), (u2.hi.den, d2.hi.den)]) := hide ⟨(unhide A2).1.but bt1 (.inr (by omega)), ar_fin bt1 (unhide A2).1 (unhide A2).2 (by omega)⟩
  have P2 : Hid (GrE w.heap.size (n + 1) w2.heap.size ((((((((((((((((w2.setCell ⟨w.heap.size, 0, none⟩ (.bool u.lo.num.g)).setCell ⟨w.heap.size, 1, none⟩ (.slice u.lo.num.a u.lo.num.n u.lo.num.c)).setCell ⟨w.heap.size, 2, none⟩ (.bool u.lo.den.g)).setCell ⟨w.heap.size, 3, none⟩ (.slice u.lo.den.a u.lo.den.n u.lo.den.c)).setCell ⟨w.heap.size, 4, none⟩ (.bool u.hi.num.g)).setCell ⟨w.heap.size, 5, none⟩ (.slice u.hi.num.a u.hi.num.n u.hi.num.c)).setCell ⟨w.heap.size, 6, none⟩ (.bool u.hi.den.g)).setCell ⟨w.heap.size, 7, none⟩ (.slice u.hi.den.a u.hi.den.n u.hi.den.c)).setCell ⟨w.heap.size, n * 8, none⟩ (.bool u2.lo.num.g)).setCell ⟨w.heap.size, n * 8 + 1, none⟩ (.slice u2.lo.num.a u2.lo.num.n u2.lo.num.c)).setCell ⟨w.heap.size, n * 8 + 2, none⟩ (.bool u2.lo.den.g)).setCell ⟨w.heap.size, n * 8 + 3, none⟩ (.slice u2.lo.den.a u2.lo.den.n u2.lo.den.c)).setCell ⟨w.heap.size, n * 8 + 4, none⟩ (.bool u2.hi.num.g)).setCell ⟨w.heap.size, n * 8 + 5, none⟩ (.slice u2.hi.num.a u2.hi.num.n u2.hi.num.c)).setCell ⟨w.heap.size, n * 8 + 6, none⟩ (.bool u2.hi.den.g)).setCell ⟨w.heap.size, n * 8 + 7, none⟩ (.slice u2.hi.den.a u2.hi.den.n u2.hi.den.c)) (((List.replicate (n + 1) (zSV, zSD)).set 0 (u, d)).set n (u2, d2))) := hide ((unhide P1).put (k := n) (by omega) hs2 bt1.size (unhide O2).1 (unhide O2).2)
  have GS := hide (unhide P2).z
  have HBs : Hid (Below w.heap.size w ((((((((((((((((w2.setCell ⟨w.heap.size, 0, none⟩ (.bool u.lo.num.g)).setCell ⟨w.heap.size, 1, none⟩ (.slice u.lo.num.a u.lo.num.n u.lo.num.c)).setCell ⟨w.heap.size, 2, none⟩ (.bool u.lo.den.g)).setCell ⟨w.heap.size, 3, none⟩ (.slice u.lo.den.a u.lo.den.n u.lo.den.c)).setCell ⟨w.heap.size, 4, none⟩ (.bool u.hi.num.g)).setCell ⟨w.heap.size, 5, none⟩ (.slice u.hi.num.a u.hi.num.n u.hi.num.c)).setCell ⟨w.heap.size, 6, none⟩ (.bool u.hi.den.g)).setCell ⟨w.heap.size, 7, none⟩ (.slice u.hi.den.a u.hi.den.n u.hi.den.c)).setCell ⟨w.heap.size, n * 8, none⟩ (.bool u2.lo.num.g)).setCell ⟨w.heap.size, n * 8 + 1, none⟩ (.slice u2.lo.num.a u2.lo.num.n u2.lo.num.c)).setCell ⟨w.heap.size, n * 8 + 2, none⟩ (.bool u2.lo.den.g)).setCell ⟨w.heap.size, n * 8 + 3, none⟩ (.slice u2.lo.den.a u2.lo.den.n u2.lo.den.c)).setCell ⟨w.heap.size, n * 8 + 4, none⟩ (.bool u2.hi.num.g)).setCell ⟨w.heap.size, n * 8 + 5, none⟩ (.slice u2.hi.num.a u2.hi.num.n u2.hi.num.c)).setCell ⟨w.heap.size, n * 8 + 6, none⟩ (.bool u2.hi.den.g)).setCell ⟨w.heap.size, n * 8 + 7, none⟩ (.slice u2.hi.den.a u2.hi.den.n u2.hi.den.c))) := hide (GrZ.bel (n := 0) (k := n) (GrZ.bel (n := 0) (k := 0) (below_on (unhide HBq) (unhide HBx)) (Nat.le_refl _)) (Nat.le_refl _))
  have ATs : Hid (∀ j, (j < 1 ∨ j = n) → AtZ (((List.replicate (n + 1) (zSV, zSD)).set 0 (u, d)).set n (u2, d2)) j (raP ps j)) := hide (fun j hj => by
    have h0 : raP ps 0 = p := by unfold raP; rw [if_pos rfl, (unhide PV).1]; rfl
    have hn : raP ps n = q := by unfold raP; rw [if_neg (by omega), if_pos (unhide LP).symm, unhide LP, (unhide PV).2]; rfl
    rcases hj with hj | rfl
    · obtain rfl : j = 0 := by omega
      rw [h0]
      exact (AtZ.here (by simp) (unhide HD1)).keep (by omega)
    · rw [hn]
      exact AtZ.here (by simp) (unhide HD2))
  clear P1 P2 O2 bt1 G1 A1 A1x A2 HD1 HD2 PV BP BQ IP IQ HBr HBx HBx1 HBq GR0 k0_0 k0_1 k0_2 k0_3 k0_4 k0_5 k0_6 k0_7 k1_0 k1_1 k1_2 k1_3 k1_4 k1_5 k1_6 k1_7 fr x0 o0 z0 q0 x1 o1 z1 q1 x2 o2 z2 q2 x3 o3 z3 q3 x4 o4 z4 q4 x5 o5 z5 q5 x6 o6 z6 q6 x7 o7 z7 q7 My Mv
  generalize ((((((((((((((((w2.setCell ⟨w.heap.size, 0, none⟩ (.bool u.lo.num.g)).setCell ⟨w.heap.size, 1, none⟩ (.slice u.lo.num.a u.lo.num.n u.lo.num.c)).setCell ⟨w.heap.size, 2, none⟩ (.bool u.lo.den.g)).setCell ⟨w.heap.size, 3, none⟩ (.slice u.lo.den.a u.lo.den.n u.lo.den.c)).setCell ⟨w.heap.size, 4, none⟩ (.bool u.hi.num.g)).setCell ⟨w.heap.size, 5, none⟩ (.slice u.hi.num.a u.hi.num.n u.hi.num.c)).setCell ⟨w.heap.size, 6, none⟩ (.bool u.hi.den.g)).setCell ⟨w.heap.size, 7, none⟩ (.slice u.hi.den.a u.hi.den.n u.hi.den.c)).setCell ⟨w.heap.size, n * 8, none⟩ (.bool u2.lo.num.g)).setCell ⟨w.heap.size, n * 8 + 1, none⟩ (.slice u2.lo.num.a u2.lo.num.n u2.lo.num.c)).setCell ⟨w.heap.size, n * 8 + 2, none⟩ (.bool u2.lo.den.g)).setCell ⟨w.heap.size, n * 8 + 3, none⟩ (.slice u2.lo.den.a u2.lo.den.n u2.lo.den.c)).setCell ⟨w.heap.size, n * 8 + 4, none⟩ (.bool u2.hi.num.g)).setCell ⟨w.heap.size, n * 8 + 5, none⟩ (.slice u2.hi.num.a u2.hi.num.n u2.hi.num.c)).setCell ⟨w.heap.size, n * 8 + 6, none⟩ (.bool u2.hi.den.g)).setCell ⟨w.heap.size, n * 8 + 7, none⟩ (.slice u2.hi.den.a u2.hi.den.n u2.hi.den.c)) = ws at *
  generalize ((List.replicate (n + 1) (zSV, zSD)).set 0 (u, d)).set n (u2, d2) = us0 at *
  go_wp2
  go_loopw [5] (fun iv wr => ∃ (i : Nat) (us : List (SV × SD)), 1 ≤ i ∧ i ≤ n ∧ iv = .int .i64 i ∧ Hid (GrZ w.heap.size (n + 1) wr us) ∧ Hid (∀ j, (j < i ∨ j = n) → AtZ us j (raP ps j)) ∧ Hid (Below w.heap.size w wr)) (fun iv _ => n - (intOf iv).toNat)
  case atStart => exact ⟨1, us0, Nat.le_refl _, h1, rfl, GS, ATs, HBs⟩
  case round =>
    clear GS ATs HBs G0 HBm
    obtain ⟨i, us, hi1, hi', rfl, GR, AT, HB⟩ := hrel
    by_cases hlt : i < n
    · have hlt' : (i : Int) < (n : Int) := by omega
      have hcb := unhide HC
      have hb := hbb
      have hlx : i - 1 < n := by omega
      have e0 := hcb (i - 1) (by rw [unhide HN]; exact hlx)
      obtain ⟨y, hy⟩ : ∃ y, y = l[(i - 1)]'(by rw [unhide HN]; exact hlx) := ⟨_, rfl⟩
      rw [← hy] at e0
      have My : Hid (l[(i - 1)]? = some y) := hide (by rw [hy]; exact List.getElem?_eq_getElem _)
      clear hy
      have k0_0 : wr.cell? ⟨b, off + (i - 1) * 8, none⟩ = some (.bool y.1.lo.num.g) := ((unhide HB).cell (p := ⟨b, off + (i - 1) * 8, none⟩) hb).trans (e0.1)
      have k0_1 : wr.cell? ⟨b, off + (i - 1) * 8 + 1, none⟩ = some (.slice y.1.lo.num.a y.1.lo.num.n y.1.lo.num.c) := ((unhide HB).cell (p := ⟨b, off + (i - 1) * 8 + 1, none⟩) hb).trans (e0.2.1)
      have k0_2 : wr.cell? ⟨b, off + (i - 1) * 8 + 2, none⟩ = some (.bool y.1.lo.den.g) := ((unhide HB).cell (p := ⟨b, off + (i - 1) * 8 + 2, none⟩) hb).trans (e0.2.2.1)
      have k0_3 : wr.cell? ⟨b, off + (i - 1) * 8 + 3, none⟩ = some (.slice y.1.lo.den.a y.1.lo.den.n y.1.lo.den.c) := ((unhide HB).cell (p := ⟨b, off + (i - 1) * 8 + 3, none⟩) hb).trans (e0.2.2.2.1)
      have k0_4 : wr.cell? ⟨b, off + (i - 1) * 8 + 4, none⟩ = some (.bool y.1.hi.num.g) := ((unhide HB).cell (p := ⟨b, off + (i - 1) * 8 + 4, none⟩) hb).trans (e0.2.2.2.2.1)
      have k0_5 : wr.cell? ⟨b, off + (i - 1) * 8 + 5, none⟩ = some (.slice y.1.hi.num.a y.1.hi.num.n y.1.hi.num.c) := ((unhide HB).cell (p := ⟨b, off + (i - 1) * 8 + 5, none⟩) hb).trans (e0.2.2.2.2.2.1)
      have k0_6 : wr.cell? ⟨b, off + (i - 1) * 8 + 6, none⟩ = some (.bool y.1.hi.den.g) := ((unhide HB).cell (p := ⟨b, off + (i - 1) * 8 + 6, none⟩) hb).trans (e0.2.2.2.2.2.2.1)
      have k0_7 : wr.cell? ⟨b, off + (i - 1) * 8 + 7, none⟩ = some (.slice y.1.hi.den.a y.1.hi.den.n y.1.hi.den.c) := ((unhide HB).cell (p := ⟨b, off + (i - 1) * 8 + 7, none⟩) hb).trans (e0.2.2.2.2.2.2.2)
      clear e0
      have e0 := hcb i (by rw [unhide HN]; exact hlt)
      obtain ⟨v, hv⟩ : ∃ y, y = l[i]'(by rw [unhide HN]; exact hlt) := ⟨_, rfl⟩
      rw [← hv] at e0
      have Mv : Hid (l[i]? = some v) := hide (by rw [hv]; exact List.getElem?_eq_getElem _)
      clear hv
      have k1_0 : wr.cell? ⟨b, off + i * 8, none⟩ = some (.bool v.1.lo.num.g) := ((unhide HB).cell (p := ⟨b, off + i * 8, none⟩) hb).trans (e0.1)
      have k1_1 : wr.cell? ⟨b, off + i * 8 + 1, none⟩ = some (.slice v.1.lo.num.a v.1.lo.num.n v.1.lo.num.c) := ((unhide HB).cell (p := ⟨b, off + i * 8 + 1, none⟩) hb).trans (e0.2.1)
      have k1_2 : wr.cell? ⟨b, off + i * 8 + 2, none⟩ = some (.bool v.1.lo.den.g) := ((unhide HB).cell (p := ⟨b, off + i * 8 + 2, none⟩) hb).trans (e0.2.2.1)
      have k1_3 : wr.cell? ⟨b, off + i * 8 + 3, none⟩ = some (.slice v.1.lo.den.a v.1.lo.den.n v.1.lo.den.c) := ((unhide HB).cell (p := ⟨b, off + i * 8 + 3, none⟩) hb).trans (e0.2.2.2.1)
      have k1_4 : wr.cell? ⟨b, off + i * 8 + 4, none⟩ = some (.bool v.1.hi.num.g) := ((unhide HB).cell (p := ⟨b, off + i * 8 + 4, none⟩) hb).trans (e0.2.2.2.2.1)
      have k1_5 : wr.cell? ⟨b, off + i * 8 + 5, none⟩ = some (.slice v.1.hi.num.a v.1.hi.num.n v.1.hi.num.c) := ((unhide HB).cell (p := ⟨b, off + i * 8 + 5, none⟩) hb).trans (e0.2.2.2.2.2.1)
      have k1_6 : wr.cell? ⟨b, off + i * 8 + 6, none⟩ = some (.bool v.1.hi.den.g) := ((unhide HB).cell (p := ⟨b, off + i * 8 + 6, none⟩) hb).trans (e0.2.2.2.2.2.2.1)
      have k1_7 : wr.cell? ⟨b, off + i * 8 + 7, none⟩ = some (.slice v.1.hi.den.a v.1.hi.den.n v.1.hi.den.c) := ((unhide HB).cell (p := ⟨b, off + i * 8 + 7, none⟩) hb).trans (e0.2.2.2.2.2.2.2)
      clear e0
      clear hcb
      obtain ⟨p, hp1, hp2, hp3, hp4⟩ := (unhide RD).pt (unhide My)
      obtain ⟨q, hq1, hq2, hq3, hq4⟩ := (unhide RD).pt (unhide Mv)
      have IP := hide (hp4.later (unhide HB))
      have IQ := hide (hq4.later (unhide HB))
      have BP := hide ((unhide BD) p hp2)
      have BQ := hide ((unhide BD) q hq2)
      have PV := hide (And.intro hp1 hq1)
      clear hp1 hp2 hp3 hp4 hq1 hq2 hq3 hq4
      have zb := (unhide GR).lt
      have GR0 := GR
      have HBq := HB
      have BZ := hide (bdR_div (a := (n : Int) - (i : Int)) (b := (n : Int)) (by omega) (by omega) (by omega) (by omega) (by omega))
      have j1 : (0 : Int) ≤ (i : Int) - 1 := by omega
      have j2 : (i : Int) - 1 < (n : Int) := by omega
      have j3 : ((i : Int) - 1).toNat = i - 1 := by omega
      have iw : IntKind.i64.wrap ((i : Int) - 1) = (i : Int) - 1 := by rw [IntKind.wrap_i64] <;> omega
      have iw2 : IntKind.i64.wrap ((n : Int) - (i : Int)) = (n : Int) - (i : Int) := by rw [IntKind.wrap_i64] <;> omega
      have j4 : (0 : Int) ≤ (i : Int) := by omega
      have j5 : (i : Int) < ((n + 1 : Nat) : Int) := by omega
      have j6 : (i : Int) < (n : Int) + 1 := by omega
      have j7 : (1 : Int) ≤ (i : Int) := by omega
      have j8 : (i : Int) ≤ (n : Int) := by omega
      have j9 : (i : Int) < 1 + (n : Int) := by omega
      go_upto_region 7 with fail
      have ne0_2 : b ≠ w.heap.size := by omega
      have ne1_2 : b ≠ w.heap.size := by omega
      go_region_held3 (fun w' => w'.cell? ⟨b, off + (i - 1) * 8, none⟩ = some (.bool y.1.lo.num.g) ∧ w'.cell? ⟨b, off + (i - 1) * 8 + 1, none⟩ = some (.slice y.1.lo.num.a y.1.lo.num.n y.1.lo.num.c) ∧ w'.cell? ⟨b, off + (i - 1) * 8 + 2, none⟩ = some (.bool y.1.lo.den.g) ∧ w'.cell? ⟨b, off + (i - 1) * 8 + 3, none⟩ = some (.slice y.1.lo.den.a y.1.lo.den.n y.1.lo.den.c) ∧ w'.cell? ⟨b, off + (i - 1) * 8 + 4, none⟩ = some (.bool y.1.hi.num.g) ∧ w'.cell? ⟨b, off + (i - 1) * 8 + 5, none⟩ = some (.slice y.1.hi.num.a y.1.hi.num.n y.1.hi.num.c) ∧ w'.cell? ⟨b, off + (i - 1) * 8 + 6, none⟩ = some (.bool y.1.hi.den.g) ∧ w'.cell? ⟨b, off + (i - 1) * 8 + 7, none⟩ = some (.slice y.1.hi.den.a y.1.hi.den.n y.1.hi.den.c) ∧ w'.cell? ⟨b, off + i * 8, none⟩ = some (.bool v.1.lo.num.g) ∧ w'.cell? ⟨b, off + i * 8 + 1, none⟩ = some (.slice v.1.lo.num.a v.1.lo.num.n v.1.lo.num.c) ∧ w'.cell? ⟨b, off + i * 8 + 2, none⟩ = some (.bool v.1.lo.den.g) ∧ w'.cell? ⟨b, off + i * 8 + 3, none⟩ = some (.slice v.1.lo.den.a v.1.lo.den.n v.1.lo.den.c) ∧ w'.cell? ⟨b, off + i * 8 + 4, none⟩ = some (.bool v.1.hi.num.g) ∧ w'.cell? ⟨b, off + i * 8 + 5, none⟩ = some (.slice v.1.hi.num.a v.1.hi.num.n v.1.hi.num.c) ∧ w'.cell? ⟨b, off + i * 8 + 6, none⟩ = some (.bool v.1.hi.den.g) ∧ w'.cell? ⟨b, off + i * 8 + 7, none⟩ = some (.slice v.1.hi.den.a v.1.hi.den.n v.1.hi.den.c)) (with_reducible (first | exact ⟨k0_0, k0_1, k0_2, k0_3, k0_4, k0_5, k0_6, k0_7, k1_0, k1_1, k1_2, k1_3, k1_4, k1_5, k1_6, k1_7⟩ | exact ⟨cd_other k0_0, cd_other k0_1, cd_other k0_2, cd_other k0_3, cd_other k0_4, cd_other k0_5, cd_other k0_6, cd_other k0_7, cd_other k1_0, cd_other k1_1, cd_other k1_2, cd_other k1_3, cd_other k1_4, cd_other k1_5, cd_other k1_6, cd_other k1_7⟩ | exact ⟨cs_other (cs_other (cs_other (cs_other (cs_other (cs_other (cs_other (cs_other (k0_0) ne0_2) ne0_2) ne0_2) ne0_2) ne0_2) ne0_2) ne0_2) ne0_2, cs_other (cs_other (cs_other (cs_other (cs_other (cs_other (cs_other (cs_other (k0_1) ne0_2) ne0_2) ne0_2) ne0_2) ne0_2) ne0_2) ne0_2) ne0_2, cs_other (cs_other (cs_other (cs_other (cs_other (cs_other (cs_other (cs_other (k0_2) ne0_2) ne0_2) ne0_2) ne0_2) ne0_2) ne0_2) ne0_2) ne0_2, cs_other (cs_other (cs_other (cs_other (cs_other (cs_other (cs_other (cs_other (k0_3) ne0_2) ne0_2) ne0_2) ne0_2) ne0_2) ne0_2) ne0_2) ne0_2, cs_other (cs_other (cs_other (cs_other (cs_other (cs_other (cs_other (cs_other (k0_4) ne0_2) ne0_2) ne0_2) ne0_2) ne0_2) ne0_2) ne0_2) ne0_2, cs_other (cs_other (cs_other (cs_other (cs_other (cs_other (cs_other (cs_other (k0_5) ne0_2) ne0_2) ne0_2) ne0_2) ne0_2) ne0_2) ne0_2) ne0_2, cs_other (cs_other (cs_other (cs_other (cs_other (cs_other (cs_other (cs_other (k0_6) ne0_2) ne0_2) ne0_2) ne0_2) ne0_2) ne0_2) ne0_2) ne0_2, cs_other (cs_other (cs_other (cs_other (cs_other (cs_other (cs_other (cs_other (k0_7) ne0_2) ne0_2) ne0_2) ne0_2) ne0_2) ne0_2) ne0_2) ne0_2, cs_other (cs_other (cs_other (cs_other (cs_other (cs_other (cs_other (cs_other (k1_0) ne1_2) ne1_2) ne1_2) ne1_2) ne1_2) ne1_2) ne1_2) ne1_2, cs_other (cs_other (cs_other (cs_other (cs_other (cs_other (cs_other (cs_other (k1_1) ne1_2) ne1_2) ne1_2) ne1_2) ne1_2) ne1_2) ne1_2) ne1_2, cs_other (cs_other (cs_other (cs_other (cs_other (cs_other (cs_other (cs_other (k1_2) ne1_2) ne1_2) ne1_2) ne1_2) ne1_2) ne1_2) ne1_2) ne1_2, cs_other (cs_other (cs_other (cs_other (cs_other (cs_other (cs_other (cs_other (k1_3) ne1_2) ne1_2) ne1_2) ne1_2) ne1_2) ne1_2) ne1_2) ne1_2, cs_other (cs_other (cs_other (cs_other (cs_other (cs_other (cs_other (cs_other (k1_4) ne1_2) ne1_2) ne1_2) ne1_2) ne1_2) ne1_2) ne1_2) ne1_2, cs_other (cs_other (cs_other (cs_other (cs_other (cs_other (cs_other (cs_other (k1_5) ne1_2) ne1_2) ne1_2) ne1_2) ne1_2) ne1_2) ne1_2) ne1_2, cs_other (cs_other (cs_other (cs_other (cs_other (cs_other (cs_other (cs_other (k1_6) ne1_2) ne1_2) ne1_2) ne1_2) ne1_2) ne1_2) ne1_2) ne1_2, cs_other (cs_other (cs_other (cs_other (cs_other (cs_other (cs_other (cs_other (k1_7) ne1_2) ne1_2) ne1_2) ne1_2) ne1_2) ne1_2) ne1_2) ne1_2⟩ | fail))
        (first
        | (go_at_call_of 102 (Value.int IntKind.i64 ((n : Int) - (i : Int))); refine (bigRI ((n : Int) - (i : Int)) _ (by omega) (by omega)).mono ?_; rintro e w1 ⟨b1, rfl, hb, ib⟩; have hbx : Below wr.heap.size wr w1 := below_of_drew hb; have szw1 := hbx.size; replace k0_0 := cell_later hbx k0_0; replace k0_1 := cell_later hbx k0_1; replace k0_2 := cell_later hbx k0_2; replace k0_3 := cell_later hbx k0_3; replace k0_4 := cell_later hbx k0_4; replace k0_5 := cell_later hbx k0_5; replace k0_6 := cell_later hbx k0_6; replace k0_7 := cell_later hbx k0_7; replace k1_0 := cell_later hbx k1_0; replace k1_1 := cell_later hbx k1_1; replace k1_2 := cell_later hbx k1_2; replace k1_3 := cell_later hbx k1_3; replace k1_4 := cell_later hbx k1_4; replace k1_5 := cell_later hbx k1_5; replace k1_6 := cell_later hbx k1_6; replace k1_7 := cell_later hbx k1_7; replace IP := hide ((unhide IP).later hbx); replace IQ := hide ((unhide IQ).later hbx); have F1 := hide hbx; have fs1 := hbx.size; have IB1 := hide (ib); have HBr := hide hbx; clear hbx hb ib)
        | (go_at_call_of 102 (Value.int IntKind.i64 (n : Int)); refine (bigRI (n : Int) _ (by omega) (by omega)).mono ?_; rintro e w2 ⟨b2, rfl, hb, ib⟩; have hbx : Below w1.heap.size w1 w2 := hb; have szw2 := hbx.size; replace k0_0 := cell_later hbx k0_0; replace k0_1 := cell_later hbx k0_1; replace k0_2 := cell_later hbx k0_2; replace k0_3 := cell_later hbx k0_3; replace k0_4 := cell_later hbx k0_4; replace k0_5 := cell_later hbx k0_5; replace k0_6 := cell_later hbx k0_6; replace k0_7 := cell_later hbx k0_7; replace k1_0 := cell_later hbx k1_0; replace k1_1 := cell_later hbx k1_1; replace k1_2 := cell_later hbx k1_2; replace k1_3 := cell_later hbx k1_3; replace k1_4 := cell_later hbx k1_4; replace k1_5 := cell_later hbx k1_5; replace k1_6 := cell_later hbx k1_6; replace k1_7 := cell_later hbx k1_7; replace IP := hide ((unhide IP).later hbx); replace IQ := hide ((unhide IQ).later hbx); replace IB1 := hide ((unhide IB1).later hbx); have F2 := hide hbx; have fs2 := hbx.size; have IB2 := hide (ib); have HBr := hide (below_on (unhide HBr) hbx); clear hbx hb ib)
        | (go_at_call 101; refine (lowRI b1 b2 ((n : Int) - (i : Int)) (n : Int) _ ?_ ?_ (by omega) (by omega) (by omega) (by omega) (by omega)).mono ?_; exact (unhide IB1).later (Below.refl _ _); exact (unhide IB2).later (Below.refl _ _); rintro e w3 ⟨x, la, lb, rfl, hb, o3, a3, m3, n3⟩; have hbx : Below w2.heap.size w2 w3 := hb; have szw3 := hbx.size; replace k0_0 := cell_later hbx k0_0; replace k0_1 := cell_later hbx k0_1; replace k0_2 := cell_later hbx k0_2; replace k0_3 := cell_later hbx k0_3; replace k0_4 := cell_later hbx k0_4; replace k0_5 := cell_later hbx k0_5; replace k0_6 := cell_later hbx k0_6; replace k0_7 := cell_later hbx k0_7; replace k1_0 := cell_later hbx k1_0; replace k1_1 := cell_later hbx k1_1; replace k1_2 := cell_later hbx k1_2; replace k1_3 := cell_later hbx k1_3; replace k1_4 := cell_later hbx k1_4; replace k1_5 := cell_later hbx k1_5; replace k1_6 := cell_later hbx k1_6; replace k1_7 := cell_later hbx k1_7; replace IP := hide ((unhide IP).later hbx); replace IQ := hide ((unhide IQ).later hbx); replace IB1 := hide ((unhide IB1).later hbx); replace IB2 := hide ((unhide IB2).later hbx); have F3 := hide hbx; have fs3 := hbx.size; have IX := hide (isR_of a3 m3 n3); have HBr := hide (below_on (unhide HBr) hbx); clear hbx hb o3 a3 m3 n3)
        | (go_at_call 123; refine (calls_dp (mixP y.1 v.1 x p q (Rat.divInt ((n : Int) - (i : Int)) (n : Int)) _ ?_ ((unhide BP).mono (by omega)) ?_ ((unhide BQ).mono (by omega)) ?_ ((unhide BZ).mono (by omega)))).mono ?_; exact (unhide IP).later (Below.refl _ _); exact (unhide IQ).later (Below.refl _ _); exact (unhide IX).later (Below.refl _ _); rintro e w4 ⟨u, d, rfl, hb, ho, ha, hd⟩; have hbx : Below w3.heap.size w3 w4 := hb; have szw4 := hbx.size; replace k0_0 := cell_later hbx k0_0; replace k0_1 := cell_later hbx k0_1; replace k0_2 := cell_later hbx k0_2; replace k0_3 := cell_later hbx k0_3; replace k0_4 := cell_later hbx k0_4; replace k0_5 := cell_later hbx k0_5; replace k0_6 := cell_later hbx k0_6; replace k0_7 := cell_later hbx k0_7; replace k1_0 := cell_later hbx k1_0; replace k1_1 := cell_later hbx k1_1; replace k1_2 := cell_later hbx k1_2; replace k1_3 := cell_later hbx k1_3; replace k1_4 := cell_later hbx k1_4; replace k1_5 := cell_later hbx k1_5; replace k1_6 := cell_later hbx k1_6; replace k1_7 := cell_later hbx k1_7; replace IP := hide ((unhide IP).later hbx); replace IQ := hide ((unhide IQ).later hbx); replace IB1 := hide ((unhide IB1).later hbx); replace IB2 := hide ((unhide IB2).later hbx); replace IX := hide ((unhide IX).later hbx); have G2 := hide ((unhide GR0).later (below_on (below_on (below_on (unhide F1) (unhide F2)) (unhide F3)) hbx)); have GP := hide ((unhide GR0).put (k := i) (below_on (below_on (below_on (unhide F1) (unhide F2)) (unhide F3)) hbx) (by omega) (ho.wide (by omega) (Nat.le_refl _)) ha); have HBx := hide (below_on (unhide HBq) (below_on (below_on (below_on (unhide F1) (unhide F2)) (unhide F3)) hbx)); have HD := hide hd; obtain ⟨x0, o0⟩ := (unhide G2).old (o := i * 8) (by omega); obtain ⟨x1, o1⟩ := (unhide G2).old (o := i * 8 + 1) (by omega); obtain ⟨x2, o2⟩ := (unhide G2).old (o := i * 8 + 2) (by omega); obtain ⟨x3, o3⟩ := (unhide G2).old (o := i * 8 + 3) (by omega); obtain ⟨x4, o4⟩ := (unhide G2).old (o := i * 8 + 4) (by omega); obtain ⟨x5, o5⟩ := (unhide G2).old (o := i * 8 + 5) (by omega); obtain ⟨x6, o6⟩ := (unhide G2).old (o := i * 8 + 6) (by omega); obtain ⟨x7, o7⟩ := (unhide G2).old (o := i * 8 + 7) (by omega); have fr := (unhide G2).fz; have HBr := hide (below_on (unhide HBr) hbx); clear hbx hb ho ha hd))
      have AT2 : Hid (∀ j, (j < i + 1 ∨ j = n) → AtZ (us.set i (u, d)) j (raP ps j)) := hide (fun j hj => by
        by_cases e : j = i
        · subst e
          have hv : raP ps j = mxP (Rat.divInt ((n : Int) - (j : Int)) (n : Int)) p q := by
            unfold raP
            rw [if_neg (by omega), if_neg (by rw [unhide LP]; omega), (unhide PV).1, (unhide PV).2, unhide LP]
            rfl
          rw [hv]
          exact AtZ.here (by rw [(unhide GR0).len]; omega) (unhide HD)
        · exact ((unhide AT) j (by omega)).keep (fun e2 => e e2.symm))
      have HB3 := hide (GrZ.bel (n := 0) (B := w.heap.size) (k := i) (u := u) (unhide HBx) (Nat.le_refl _))
      clear k0_0 k0_1 k0_2 k0_3 k0_4 k0_5 k0_6 k0_7 k1_0 k1_1 k1_2 k1_3 k1_4 k1_5 k1_6 k1_7 HBr IP IQ
      go_wp2
      go_roundw
      case rel => exact ⟨i + 1, _, by omega, by omega, by go_num, GP, AT2, HB3⟩
      case measure => simp [intOf]; omega
    · obtain rfl : i = n := by omega
      have IC : Hid (IsC (raL ps) (us.map Prod.snd)) := hide (atZ_isC (by rw [(unhide GR).len, raL_len, unhide LP]) (fun k p hp => by
        obtain ⟨h1, rfl⟩ := raL_get hp
        rw [unhide LP] at h1
        exact (unhide AT) k (by omega)))
      obtain ⟨r1, r2⟩ := GrZ.fin (w0 := w) (unhide GR) (unhide IC) (raL_bd (unhide BD) (by rw [unhide LP]; omega) (by rw [unhide LP]; omega)) (by omega) (by omega) (Nat.le_refl _)
      have R1 := hide r1
      have R2 := hide r2
      clear r1 r2
      go_wp2
      go_ret
      exact ⟨_, _, _, us, rfl, unhide HB, unhide R1, unhide R2⟩
theorem goodB_z {g : Bool} {xs : List Int} {V : Int} (h : Nm xs V.natAbs) (hl : xs.length ≤ 40) (hg : g = decide (V < 0)) : goodB g xs = true := by
  unfold goodB
  have ha : xs.all limbOk = true := List.all_eq_true.2 (fun x hx => by have := h.ok x hx; simp [limbOk]; omega)
  rw [ha, Bool.true_and]
  by_cases h0 : xs.length = 0
  · rw [if_pos h0, hg]
    have := h.nil_iff.1 (List.length_eq_zero_iff.1 h0)
    simp
    omega
  · rw [if_neg h0, decide_eq_true hl, Bool.true_and]
    have hne : xs ≠ [] := fun e => h0 (by rw [e]; rfl)
    have hx := List.dropLast_concat_getLast hne
    have hz : xs.getLast hne ≠ 0 := fun e => by
      have h1 := h.tr
      rw [← hx, e, trim_snoc_zero] at h1
      have h2 := congrArg List.length h1
      have h3 := trim_len xs.dropLast
      simp at h2
      rw [h2] at h3
      simp at h3
      omega
    have e : xs.getD (xs.length - 1) 0 = xs.getLast hne := by
      rw [List.getLast_eq_getElem, List.getD_eq_getElem?_getD, List.getElem?_eq_getElem (by omega)]
      rfl
    rw [e]
    simpa using hz
theorem gQ_z {x : Rat} {d : QD} (g1 : d.num.g = decide (nR x < 0)) (n1 : Nm d.num.xs (nR x).natAbs) (g2 : d.den.g = decide (dR x < 0)) (n2 : Nm d.den.xs (dR x).natAbs) (hs : sm2 d = true) : gQ d = true := by
  unfold sm2 at hs
  simp only [Bool.and_eq_true, decide_eq_true_eq] at hs
  have hp := dR_pos x
  have g2' : d.den.g = false := by rw [g2]; exact decide_eq_false (by omega)
  have nz : d.den.xs.length ≠ 0 := fun e => by
    have := n2.nil_iff.1 (List.length_eq_zero_iff.1 e)
    omega
  unfold gQ goodR
  rw [goodB_z n1 (by omega) g1, goodB_z n2 (by omega) g2, g2', decide_eq_true nz]
  have e1 : (val d.num.xs).toNat = (nR x).natAbs := by rw [n1.v]; omega
  have e2 : (val d.den.xs).toNat = (dR x).natAbs := by rw [n2.v]; omega
  have e3 : decide (Nat.gcd (val d.num.xs).toNat (val d.den.xs).toNat = 1) = true := decide_eq_true (by rw [e1, e2]; exact (nR_low x).co)
  rw [e3]
  rfl
theorem dp_gPt2 {p : Rat × Rat} {d : SD} (h : IsDP p d) : gPt2 d = !lgP d := by
  unfold gPt2 gF lgP
  cases h1 : sm2 d.lo
  · rfl
  · rw [gQ_z h.g1 h.n1 h.g2 h.n2 h1]
    cases h2 : sm2 d.hi
    · rfl
    · rw [gQ_z h.g3 h.n3 h.g4 h.n4 h2]; rfl
theorem gCv_fit {ps : List (Rat × Rat)} {es : List SD} (h : IsC ps es) : gCv es = (many es.length && !es.any lgP) := by
  unfold gCv
  congr 1
  have : ∀ d ∈ es, gPt2 d = !lgP d := fun d hd => by
    obtain ⟨i, hi, rfl⟩ := List.mem_iff_getElem.1 hd
    have hp : i < ps.length := by rw [← h.len]; exact hi
    exact dp_gPt2 (h.at_ i ps[i] es[i] (List.getElem?_eq_getElem hp) (List.getElem?_eq_getElem hi))
  clear h
  induction es with
  | nil => rfl
  | cons d es ih => rw [List.all_cons, List.any_cons, this d List.mem_cons_self, ih (fun e he => this e (List.mem_cons_of_mem _ he)), Bool.not_or]
theorem gCv_f40 {es : List SD} (h : gCv es = true) : es.all f40 = true := List.all_eq_true.2 (fun d hd => by
  have h1 := (gCv_mem h).2 d hd
  unfold gPt2 gF sm2 at h1
  simp only [Bool.and_eq_true, decide_eq_true_eq] at h1
  unfold f40
  simp only [Bool.and_eq_true, decide_eq_true_eq]
  omega)

set_option maxHeartbeats 2000000 in
theorem whereC (a : Option Addr) (n c : Nat) (l : List (SV × SD)) (ps : List (Rat × Rat)) (B : Nat) (w : World) (h : RdC w a n c l ps) (ho : PRoZ B w.heap.size w a n c l) :
    Calls Tryz.prog 106 #[.slice a n c, .func (Fn.func 95) #[] #[]] w fun e w' => ∃ (a' : Option Addr) (n' c' : Nat) (l' : List (SV × SD)) (ok : Bool), e = .returned (.tuple #[.slice a' n' c', .bool ok]) ∧ Below w.heap.size w w' ∧ PRoZ B w'.heap.size w' a' n' c' l' ∧ AnsC true gCv ps (l'.map Prod.snd) ok := by
  have CF := hide (fun w1 (k : PArS w1 a n c l) => by have := curveF a n c l w1 k; rw [show (many n && !(l.map Prod.snd).any lgP) = gCv (l.map Prod.snd) from by rw [gCv_fit h.is, List.length_map, h.ar.len]] at this; exact this)
  have HR := hide h
  have HO := hide ho
  clear h ho
  cases hf : gCv (l.map Prod.snd)
  · have HF := hide hf
    rw [hf] at CF
    clear hf
    go_enter Tryz.func106, Tryz.ntmps106
    go_wp2_with fail
    refine (unhide CF _ (unhide HR).ar).mono ?_
    rintro e w1 ⟨rfl, hb⟩
    have HB := hide hb
    clear hb CF
    go_wp2
    go_ret2
    exact ⟨none, 0, 0, [], false, rfl, unhide HB, PRoZ.none _ _ _, .inl ⟨rfl, _, (unhide HR).is, .inr ⟨unhide HF, rfl, rfl⟩⟩⟩
  · have HF := hide hf
    rw [hf] at CF
    clear hf
    go_enter Tryz.func106, Tryz.ntmps106
    go_wp2_with fail
    refine (unhide CF _ (unhide HR).ar).mono ?_
    rintro e w1 ⟨rfl, hb⟩
    have HB := hide hb
    have OO := hide (((unhide HO).later hb).wide (Nat.le_refl _) hb.size)
    clear hb CF
    go_wp2
    go_ret2
    exact ⟨a, n, c, l, true, rfl, unhide HB, unhide OO, .inl ⟨rfl, _, (unhide HR).is, .inl ⟨unhide HF, rfl, rfl⟩⟩⟩

set_option maxHeartbeats 8000000 in
theorem RaiI (a : Option Addr) (n c : Nat) (l : List (SV × SD)) (w : World) (h : PArS w a n c l) :
    Calls Tryz.prog 29 #[.slice a n c] w (RetPoZ w (AnsC (gCv (l.map Prod.snd)) gCv (raL (vC l)))) := by
  have GC := hide (fun w1 (k : PArS w1 a n c l) => GoodCI a n c l w1 k)
  have HS := hide h
  have HN := hide h.len
  clear h
  cases hg : gCv (l.map Prod.snd)
  · rw [hg] at GC
    go_enter Tryz.func29, Tryz.ntmps29
    go_wp2_with fail
    refine (unhide GC _ (unhide HS)).mono ?_
    rintro e w1 ⟨rfl, hb⟩
    have HB := hide hb
    clear hb GC
    go_wp2
    go_ret2
    exact ⟨none, 0, 0, [], false, rfl, unhide HB, PRoZ.none _ _ _, .inr ⟨rfl, rfl, rfl⟩⟩
  · rw [hg] at GC
    have HG := hide hg
    have n5 : 1 ≤ n ∧ n ≤ 5 := by have := (gCv_mem hg).1; rw [List.length_map, unhide HN] at this; exact this
    clear hg
    have RD := hide (rdC_good (unhide HS) (unhide HG))
    have BD := hide (bdC_good (unhide HG))
    go_enter Tryz.func29, Tryz.ntmps29
    go_wp2_with fail
    refine (unhide GC _ (unhide HS)).mono ?_
    rintro e w1 ⟨rfl, hb⟩
    have HB1 := hide hb
    have s1 := hb.size
    clear hb GC
    go_wp2_with fail
    refine (raiI a n c l (vC l) _ ((unhide RD).later (unhide HB1)) (unhide BD) n5.1 n5.2).mono ?_
    rintro e w2 ⟨a2, n2, c2, l2, rfl, hb2, ro2, rd2⟩
    have HB2 := hide (below_on (unhide HB1) hb2)
    have s2 := hb2.size
    have RO2 := hide ro2
    have RD2 := hide rd2
    clear hb2 ro2 rd2
    go_wp2_with fail
    refine (whereC a2 n2 c2 l2 _ w1.heap.size _ (unhide RD2) (unhide RO2)).mono ?_
    rintro e w3 ⟨a3, n3, c3, l3, ok3, rfl, hb3, ro3, an3⟩
    have HB3 := hide (below_on (unhide HB2) hb3)
    have RO3 := hide (ro3.wide (B' := w.heap.size) s1 (Nat.le_refl _))
    have AN3 := hide an3
    clear hb3 ro3 an3
    go_wp2
    go_ret2
    exact ⟨_, _, _, l3, ok3, rfl, unhide HB3, unhide RO3, unhide AN3⟩
theorem GwZ.one {w : World} {u : SV} {d : SD} (ht : TypZ w [(u.lo.num, d.lo.num), (u.lo.den, d.lo.den), (u.hi.num, d.hi.num), (u.hi.den, d.hi.den)]) (ha : AllAr w [(u.lo.num, d.lo.num), (u.lo.den, d.lo.den), (u.hi.num, d.hi.num), (u.hi.den, d.hi.den)]) : GwZ w.heap.size (w.alloc (.cells #[.bool u.lo.num.g, .slice u.lo.num.a u.lo.num.n u.lo.num.c, .bool u.lo.den.g, .slice u.lo.den.a u.lo.den.n u.lo.den.c, .bool u.hi.num.g, .slice u.hi.num.a u.hi.num.n u.hi.num.c, .bool u.hi.den.g, .slice u.hi.den.a u.hi.den.n u.hi.den.c] 34)) (.slice (some ⟨w.heap.size, 0, none⟩) 1 1) [(u, d)] := by
  have al : Below w.heap.size w (w.alloc (.cells #[.bool u.lo.num.g, .slice u.lo.num.a u.lo.num.n u.lo.num.c, .bool u.lo.den.g, .slice u.lo.den.a u.lo.den.n u.lo.den.c, .bool u.hi.num.g, .slice u.hi.num.a u.hi.num.n u.hi.num.c, .bool u.hi.den.g, .slice u.hi.den.a u.hi.den.n u.hi.den.c] 34)) := (Below.refl _ _).alloc (Nat.le_refl _) _
  refine ⟨⟨rfl, .inr ⟨w.heap.size, 1, #[.bool u.lo.num.g, .slice u.lo.num.a u.lo.num.n u.lo.num.c, .bool u.lo.den.g, .slice u.lo.den.a u.lo.den.n u.lo.den.c, .bool u.hi.num.g, .slice u.hi.num.a u.hi.num.n u.hi.num.c, .bool u.hi.den.g, .slice u.hi.den.a u.hi.den.n u.hi.den.c], rfl, Nat.le_refl _, heap_alloc_new _ _, Nat.le_refl _, by unfold maxLen; omega, rfl, rfl⟩⟩, ?_, ?_⟩
  · rw [zipPS_one]; exact ht.later al
  · rw [zipPS_one]; exact ha.later al

set_option maxHeartbeats 8000000 in
theorem raiS (a : Option Addr) (n c : Nat) (l : List (SV × SD)) (ps : List (Rat × Rat)) (w : World) (h : RdC w a n c l ps) (hb : BdC ps 40) (h1 : 1 ≤ n) (h5 : n ≤ 5) (ht : TypZ w (zipPS l)) :
    Calls Tryz.prog 108 #[.slice a n c] w (OutGz w (raL ps)) := by
  have RD := hide h
  have BD := hide hb
  have HS := hide h.ar
  have HN := hide h.ar.len
  have HT := hide ht
  have LP : Hid (ps.length = n) := hide h.len
  clear h hb ht
  rcases (unhide HS).at_ with e | ⟨b, off, rfl, hbb, hcb⟩
  · exact absurd (unhide HN) (by rw [e]; simp <;> omega)
  have HC := hide hcb
  have e0 := hcb 0 (by rw [unhide HN]; omega)
  obtain ⟨y, hy⟩ : ∃ y, y = l[0]'(by rw [unhide HN]; omega) := ⟨_, rfl⟩
  rw [← hy] at e0
  have My : Hid (l[0]? = some y) := hide (by rw [hy]; exact List.getElem?_eq_getElem _)
  clear hy hcb
  have E0 : w.cell? ⟨b, off, none⟩ = some (.bool y.1.lo.num.g) := by have h := e0.1; simpa using h
  have E1 : w.cell? ⟨b, off + 1, none⟩ = some (.slice y.1.lo.num.a y.1.lo.num.n y.1.lo.num.c) := by have h := e0.2.1; simpa using h
  have E2 : w.cell? ⟨b, off + 2, none⟩ = some (.bool y.1.lo.den.g) := by have h := e0.2.2.1; simpa using h
  have E3 : w.cell? ⟨b, off + 3, none⟩ = some (.slice y.1.lo.den.a y.1.lo.den.n y.1.lo.den.c) := by have h := e0.2.2.2.1; simpa using h
  have E4 : w.cell? ⟨b, off + 4, none⟩ = some (.bool y.1.hi.num.g) := by have h := e0.2.2.2.2.1; simpa using h
  have E5 : w.cell? ⟨b, off + 5, none⟩ = some (.slice y.1.hi.num.a y.1.hi.num.n y.1.hi.num.c) := by have h := e0.2.2.2.2.2.1; simpa using h
  have E6 : w.cell? ⟨b, off + 6, none⟩ = some (.bool y.1.hi.den.g) := by have h := e0.2.2.2.2.2.2.1; simpa using h
  have E7 : w.cell? ⟨b, off + 7, none⟩ = some (.slice y.1.hi.den.a y.1.hi.den.n y.1.hi.den.c) := by have h := e0.2.2.2.2.2.2.2; simpa using h
  clear e0
  obtain ⟨p0, hp1, hp2, hp3, hp4⟩ := (unhide RD).pt (unhide My)
  have MZ : Hid (y ∈ l) := hide (List.mem_of_getElem? (unhide My))
  have GS : Hid (GwZ w.heap.size (w.alloc (.cells #[.bool y.1.lo.num.g, .slice y.1.lo.num.a y.1.lo.num.n y.1.lo.num.c, .bool y.1.lo.den.g, .slice y.1.lo.den.a y.1.lo.den.n y.1.lo.den.c, .bool y.1.hi.num.g, .slice y.1.hi.num.a y.1.hi.num.n y.1.hi.num.c, .bool y.1.hi.den.g, .slice y.1.hi.den.a y.1.hi.den.n y.1.hi.den.c] 34)) (.slice (some ⟨w.heap.size, 0, none⟩) 1 1) [(y.1, y.2)]) := hide (GwZ.one (fun x hx => (unhide HT) x (zipPS_mem (unhide MZ) hx)) ((unhide HS).rd y (unhide MZ)))
  have HBs : Hid (Below w.heap.size w (w.alloc (.cells #[.bool y.1.lo.num.g, .slice y.1.lo.num.a y.1.lo.num.n y.1.lo.num.c, .bool y.1.lo.den.g, .slice y.1.lo.den.a y.1.lo.den.n y.1.lo.den.c, .bool y.1.hi.num.g, .slice y.1.hi.num.a y.1.hi.num.n y.1.hi.num.c, .bool y.1.hi.den.g, .slice y.1.hi.den.a y.1.hi.den.n y.1.hi.den.c] 34))) := hide ((Below.refl _ _).alloc (Nat.le_refl _) _)
  have ATs : Hid (∀ j, j < 1 → AtZ [(y.1, y.2)] j (raP ps j)) := hide (fun j hj => by
    obtain rfl : j = 0 := by omega
    have h0 : raP ps 0 = p0 := by unfold raP; rw [if_pos rfl, hp1]; rfl
    rw [h0]
    exact ⟨_, rfl, hp3⟩)
  clear hp1 hp2 hp3 hp4
  have j8 : 0 < n := by omega
  go_enter Tryz.func108, Tryz.ntmps108
  go_upto_region 3 with fail
  clear E0 E1 E2 E3 E4 E5 E6 E7
  generalize (w.alloc (.cells #[.bool y.1.lo.num.g, .slice y.1.lo.num.a y.1.lo.num.n y.1.lo.num.c, .bool y.1.lo.den.g, .slice y.1.lo.den.a y.1.lo.den.n y.1.lo.den.c, .bool y.1.hi.num.g, .slice y.1.hi.num.a y.1.hi.num.n y.1.hi.num.c, .bool y.1.hi.den.g, .slice y.1.hi.den.a y.1.hi.den.n y.1.hi.den.c] 34)) = ws at *
  go_wp2
  go_loopw [4, 5] (fun x iv wr => ∃ (i : Nat) (us : List (SV × SD)), 1 ≤ i ∧ i ≤ n ∧ iv = .int .i64 i ∧ us.length = i ∧ Hid (∀ j, j < i → AtZ us j (raP ps j)) ∧ Hid (GwZ w.heap.size wr x us) ∧ Hid (Below w.heap.size w wr)) (fun _ iv _ => n - (intOf iv).toNat)
  case atStart => exact ⟨1, _, Nat.le_refl _, h1, rfl, rfl, ATs, GS, HBs⟩
  case round =>
    clear GS ATs HBs My MZ
    obtain ⟨i, us, hi1, hi', rfl, hu, AT, GW, HB⟩ := hrel
    by_cases hlt : i < n
    · have hlt' : (i : Int) < (n : Int) := by omega
      have hcb := unhide HC
      have hb := hbb
      have hlx : i - 1 < n := by omega
      have e0 := hcb (i - 1) (by rw [unhide HN]; exact hlx)
      obtain ⟨y, hy⟩ : ∃ y, y = l[(i - 1)]'(by rw [unhide HN]; exact hlx) := ⟨_, rfl⟩
      rw [← hy] at e0
      have My : Hid (l[(i - 1)]? = some y) := hide (by rw [hy]; exact List.getElem?_eq_getElem _)
      clear hy
      have k0_0 : wr.cell? ⟨b, off + (i - 1) * 8, none⟩ = some (.bool y.1.lo.num.g) := ((unhide HB).cell (p := ⟨b, off + (i - 1) * 8, none⟩) hb).trans (e0.1)
      have k0_1 : wr.cell? ⟨b, off + (i - 1) * 8 + 1, none⟩ = some (.slice y.1.lo.num.a y.1.lo.num.n y.1.lo.num.c) := ((unhide HB).cell (p := ⟨b, off + (i - 1) * 8 + 1, none⟩) hb).trans (e0.2.1)
      have k0_2 : wr.cell? ⟨b, off + (i - 1) * 8 + 2, none⟩ = some (.bool y.1.lo.den.g) := ((unhide HB).cell (p := ⟨b, off + (i - 1) * 8 + 2, none⟩) hb).trans (e0.2.2.1)
      have k0_3 : wr.cell? ⟨b, off + (i - 1) * 8 + 3, none⟩ = some (.slice y.1.lo.den.a y.1.lo.den.n y.1.lo.den.c) := ((unhide HB).cell (p := ⟨b, off + (i - 1) * 8 + 3, none⟩) hb).trans (e0.2.2.2.1)
      have k0_4 : wr.cell? ⟨b, off + (i - 1) * 8 + 4, none⟩ = some (.bool y.1.hi.num.g) := ((unhide HB).cell (p := ⟨b, off + (i - 1) * 8 + 4, none⟩) hb).trans (e0.2.2.2.2.1)
      have k0_5 : wr.cell? ⟨b, off + (i - 1) * 8 + 5, none⟩ = some (.slice y.1.hi.num.a y.1.hi.num.n y.1.hi.num.c) := ((unhide HB).cell (p := ⟨b, off + (i - 1) * 8 + 5, none⟩) hb).trans (e0.2.2.2.2.2.1)
      have k0_6 : wr.cell? ⟨b, off + (i - 1) * 8 + 6, none⟩ = some (.bool y.1.hi.den.g) := ((unhide HB).cell (p := ⟨b, off + (i - 1) * 8 + 6, none⟩) hb).trans (e0.2.2.2.2.2.2.1)
      have k0_7 : wr.cell? ⟨b, off + (i - 1) * 8 + 7, none⟩ = some (.slice y.1.hi.den.a y.1.hi.den.n y.1.hi.den.c) := ((unhide HB).cell (p := ⟨b, off + (i - 1) * 8 + 7, none⟩) hb).trans (e0.2.2.2.2.2.2.2)
      have Y0 := hide e0
      clear e0
      have e0 := hcb i (by rw [unhide HN]; exact hlt)
      obtain ⟨v, hv⟩ : ∃ y, y = l[i]'(by rw [unhide HN]; exact hlt) := ⟨_, rfl⟩
      rw [← hv] at e0
      have Mv : Hid (l[i]? = some v) := hide (by rw [hv]; exact List.getElem?_eq_getElem _)
      clear hv
      have k1_0 : wr.cell? ⟨b, off + i * 8, none⟩ = some (.bool v.1.lo.num.g) := ((unhide HB).cell (p := ⟨b, off + i * 8, none⟩) hb).trans (e0.1)
      have k1_1 : wr.cell? ⟨b, off + i * 8 + 1, none⟩ = some (.slice v.1.lo.num.a v.1.lo.num.n v.1.lo.num.c) := ((unhide HB).cell (p := ⟨b, off + i * 8 + 1, none⟩) hb).trans (e0.2.1)
      have k1_2 : wr.cell? ⟨b, off + i * 8 + 2, none⟩ = some (.bool v.1.lo.den.g) := ((unhide HB).cell (p := ⟨b, off + i * 8 + 2, none⟩) hb).trans (e0.2.2.1)
      have k1_3 : wr.cell? ⟨b, off + i * 8 + 3, none⟩ = some (.slice v.1.lo.den.a v.1.lo.den.n v.1.lo.den.c) := ((unhide HB).cell (p := ⟨b, off + i * 8 + 3, none⟩) hb).trans (e0.2.2.2.1)
      have k1_4 : wr.cell? ⟨b, off + i * 8 + 4, none⟩ = some (.bool v.1.hi.num.g) := ((unhide HB).cell (p := ⟨b, off + i * 8 + 4, none⟩) hb).trans (e0.2.2.2.2.1)
      have k1_5 : wr.cell? ⟨b, off + i * 8 + 5, none⟩ = some (.slice v.1.hi.num.a v.1.hi.num.n v.1.hi.num.c) := ((unhide HB).cell (p := ⟨b, off + i * 8 + 5, none⟩) hb).trans (e0.2.2.2.2.2.1)
      have k1_6 : wr.cell? ⟨b, off + i * 8 + 6, none⟩ = some (.bool v.1.hi.den.g) := ((unhide HB).cell (p := ⟨b, off + i * 8 + 6, none⟩) hb).trans (e0.2.2.2.2.2.2.1)
      have k1_7 : wr.cell? ⟨b, off + i * 8 + 7, none⟩ = some (.slice v.1.hi.den.a v.1.hi.den.n v.1.hi.den.c) := ((unhide HB).cell (p := ⟨b, off + i * 8 + 7, none⟩) hb).trans (e0.2.2.2.2.2.2.2)
      have V0 := hide e0
      clear e0
      clear hcb
      obtain ⟨p, hp1, hp2, hp3, hp4⟩ := (unhide RD).pt (unhide My)
      obtain ⟨q, hq1, hq2, hq3, hq4⟩ := (unhide RD).pt (unhide Mv)
      have IP := hide (hp4.later (unhide HB))
      have IQ := hide (hq4.later (unhide HB))
      have BP := hide ((unhide BD) p hp2)
      have BQ := hide ((unhide BD) q hq2)
      have PV := hide (And.intro hp1 hq1)
      clear hp1 hp2 hp3 hp4 hq1 hq2 hq3 hq4
      have GW0 := GW
      have HBq := HB
      have szr := (unhide HB).size
      have BZ := hide (bdR_div (a := (n : Int) - (i : Int)) (b := (n : Int)) (by omega) (by omega) (by omega) (by omega) (by omega))
      have j1 : (0 : Int) ≤ (i : Int) - 1 := by omega
      have j2 : (i : Int) - 1 < (n : Int) := by omega
      have j3 : ((i : Int) - 1).toNat = i - 1 := by omega
      have iw : IntKind.i64.wrap ((i : Int) - 1) = (i : Int) - 1 := by rw [IntKind.wrap_i64] <;> omega
      have iw2 : IntKind.i64.wrap ((n : Int) - (i : Int)) = (n : Int) - (i : Int) := by rw [IntKind.wrap_i64] <;> omega
      have j4 : (0 : Int) ≤ (i : Int) := by omega
      have j7 : (1 : Int) ≤ (i : Int) := by omega
      have j8 : (i : Int) ≤ (n : Int) := by omega
      go_upto_region 6 with fail
      go_region_held3 (fun w' => w'.cell? ⟨b, off + (i - 1) * 8, none⟩ = some (.bool y.1.lo.num.g) ∧ w'.cell? ⟨b, off + (i - 1) * 8 + 1, none⟩ = some (.slice y.1.lo.num.a y.1.lo.num.n y.1.lo.num.c) ∧ w'.cell? ⟨b, off + (i - 1) * 8 + 2, none⟩ = some (.bool y.1.lo.den.g) ∧ w'.cell? ⟨b, off + (i - 1) * 8 + 3, none⟩ = some (.slice y.1.lo.den.a y.1.lo.den.n y.1.lo.den.c) ∧ w'.cell? ⟨b, off + (i - 1) * 8 + 4, none⟩ = some (.bool y.1.hi.num.g) ∧ w'.cell? ⟨b, off + (i - 1) * 8 + 5, none⟩ = some (.slice y.1.hi.num.a y.1.hi.num.n y.1.hi.num.c) ∧ w'.cell? ⟨b, off + (i - 1) * 8 + 6, none⟩ = some (.bool y.1.hi.den.g) ∧ w'.cell? ⟨b, off + (i - 1) * 8 + 7, none⟩ = some (.slice y.1.hi.den.a y.1.hi.den.n y.1.hi.den.c) ∧ w'.cell? ⟨b, off + i * 8, none⟩ = some (.bool v.1.lo.num.g) ∧ w'.cell? ⟨b, off + i * 8 + 1, none⟩ = some (.slice v.1.lo.num.a v.1.lo.num.n v.1.lo.num.c) ∧ w'.cell? ⟨b, off + i * 8 + 2, none⟩ = some (.bool v.1.lo.den.g) ∧ w'.cell? ⟨b, off + i * 8 + 3, none⟩ = some (.slice v.1.lo.den.a v.1.lo.den.n v.1.lo.den.c) ∧ w'.cell? ⟨b, off + i * 8 + 4, none⟩ = some (.bool v.1.hi.num.g) ∧ w'.cell? ⟨b, off + i * 8 + 5, none⟩ = some (.slice v.1.hi.num.a v.1.hi.num.n v.1.hi.num.c) ∧ w'.cell? ⟨b, off + i * 8 + 6, none⟩ = some (.bool v.1.hi.den.g) ∧ w'.cell? ⟨b, off + i * 8 + 7, none⟩ = some (.slice v.1.hi.den.a v.1.hi.den.n v.1.hi.den.c)) (with_reducible (first | exact ⟨k0_0, k0_1, k0_2, k0_3, k0_4, k0_5, k0_6, k0_7, k1_0, k1_1, k1_2, k1_3, k1_4, k1_5, k1_6, k1_7⟩ | exact ⟨cd_other k0_0, cd_other k0_1, cd_other k0_2, cd_other k0_3, cd_other k0_4, cd_other k0_5, cd_other k0_6, cd_other k0_7, cd_other k1_0, cd_other k1_1, cd_other k1_2, cd_other k1_3, cd_other k1_4, cd_other k1_5, cd_other k1_6, cd_other k1_7⟩ | exact ⟨ca_other k0_0, ca_other k0_1, ca_other k0_2, ca_other k0_3, ca_other k0_4, ca_other k0_5, ca_other k0_6, ca_other k0_7, ca_other k1_0, ca_other k1_1, ca_other k1_2, ca_other k1_3, ca_other k1_4, ca_other k1_5, ca_other k1_6, ca_other k1_7⟩ | fail))
        (first
        | (go_at_call_of 185 (Value.int IntKind.i64 ((n : Int) - (i : Int))); refine (bigRS ((n : Int) - (i : Int)) _ (by omega) (by omega)).mono ?_; rintro e w1 ⟨b1, rfl, hb, ib⟩; have hbx : Below wr.heap.size wr w1 := below_of_drew hb; have szw1 := hbx.size; replace k0_0 := cell_later hbx k0_0; replace k0_1 := cell_later hbx k0_1; replace k0_2 := cell_later hbx k0_2; replace k0_3 := cell_later hbx k0_3; replace k0_4 := cell_later hbx k0_4; replace k0_5 := cell_later hbx k0_5; replace k0_6 := cell_later hbx k0_6; replace k0_7 := cell_later hbx k0_7; replace k1_0 := cell_later hbx k1_0; replace k1_1 := cell_later hbx k1_1; replace k1_2 := cell_later hbx k1_2; replace k1_3 := cell_later hbx k1_3; replace k1_4 := cell_later hbx k1_4; replace k1_5 := cell_later hbx k1_5; replace k1_6 := cell_later hbx k1_6; replace k1_7 := cell_later hbx k1_7; replace IP := hide ((unhide IP).later hbx); replace IQ := hide ((unhide IQ).later hbx); have F1 := hide hbx; have fs1 := hbx.size; have IB1 := hide (ib); have HBr := hide hbx; clear hbx hb ib)
        | (go_at_call_of 185 (Value.int IntKind.i64 (n : Int)); refine (bigRS (n : Int) _ (by omega) (by omega)).mono ?_; rintro e w2 ⟨b2, rfl, hb, ib⟩; have hbx : Below w1.heap.size w1 w2 := hb; have szw2 := hbx.size; replace k0_0 := cell_later hbx k0_0; replace k0_1 := cell_later hbx k0_1; replace k0_2 := cell_later hbx k0_2; replace k0_3 := cell_later hbx k0_3; replace k0_4 := cell_later hbx k0_4; replace k0_5 := cell_later hbx k0_5; replace k0_6 := cell_later hbx k0_6; replace k0_7 := cell_later hbx k0_7; replace k1_0 := cell_later hbx k1_0; replace k1_1 := cell_later hbx k1_1; replace k1_2 := cell_later hbx k1_2; replace k1_3 := cell_later hbx k1_3; replace k1_4 := cell_later hbx k1_4; replace k1_5 := cell_later hbx k1_5; replace k1_6 := cell_later hbx k1_6; replace k1_7 := cell_later hbx k1_7; replace IP := hide ((unhide IP).later hbx); replace IQ := hide ((unhide IQ).later hbx); replace IB1 := hide ((unhide IB1).later hbx); have F2 := hide hbx; have fs2 := hbx.size; have IB2 := hide (ib); have HBr := hide (below_on (unhide HBr) hbx); clear hbx hb ib)
        | (go_at_call 184; refine (lowRS b1 b2 ((n : Int) - (i : Int)) (n : Int) _ ?_ ?_ (by omega) (by omega) (by omega) (by omega) (by omega)).mono ?_; exact (unhide IB1).later (Below.refl _ _); exact (unhide IB2).later (Below.refl _ _); rintro e w3 ⟨x, la, lb, rfl, hb, o3, a3, m3, n3⟩; have hbx : Below w2.heap.size w2 w3 := hb; have szw3 := hbx.size; replace k0_0 := cell_later hbx k0_0; replace k0_1 := cell_later hbx k0_1; replace k0_2 := cell_later hbx k0_2; replace k0_3 := cell_later hbx k0_3; replace k0_4 := cell_later hbx k0_4; replace k0_5 := cell_later hbx k0_5; replace k0_6 := cell_later hbx k0_6; replace k0_7 := cell_later hbx k0_7; replace k1_0 := cell_later hbx k1_0; replace k1_1 := cell_later hbx k1_1; replace k1_2 := cell_later hbx k1_2; replace k1_3 := cell_later hbx k1_3; replace k1_4 := cell_later hbx k1_4; replace k1_5 := cell_later hbx k1_5; replace k1_6 := cell_later hbx k1_6; replace k1_7 := cell_later hbx k1_7; replace IP := hide ((unhide IP).later hbx); replace IQ := hide ((unhide IQ).later hbx); replace IB1 := hide ((unhide IB1).later hbx); replace IB2 := hide ((unhide IB2).later hbx); have F3 := hide hbx; have fs3 := hbx.size; have IX := hide (isR_of a3 m3 n3); have HBr := hide (below_on (unhide HBr) hbx); clear hbx hb o3 a3 m3 n3)
        | (go_at_call 124; refine (mixPS y.1 v.1 x p q (Rat.divInt ((n : Int) - (i : Int)) (n : Int)) _ ?_ ((unhide BP).mono (by omega)) ?_ ((unhide BQ).mono (by omega)) ?_ ((unhide BZ).mono (by omega))).mono ?_; exact (unhide IP).later (Below.refl _ _); exact (unhide IQ).later (Below.refl _ _); exact (unhide IX).later (Below.refl _ _); rintro e w4 ⟨u, rfl, hb, o1, o2⟩; have hbx : Below w3.heap.size w3 w4 := hb; have szw4 := hbx.size; replace k0_0 := cell_later hbx k0_0; replace k0_1 := cell_later hbx k0_1; replace k0_2 := cell_later hbx k0_2; replace k0_3 := cell_later hbx k0_3; replace k0_4 := cell_later hbx k0_4; replace k0_5 := cell_later hbx k0_5; replace k0_6 := cell_later hbx k0_6; replace k0_7 := cell_later hbx k0_7; replace k1_0 := cell_later hbx k1_0; replace k1_1 := cell_later hbx k1_1; replace k1_2 := cell_later hbx k1_2; replace k1_3 := cell_later hbx k1_3; replace k1_4 := cell_later hbx k1_4; replace k1_5 := cell_later hbx k1_5; replace k1_6 := cell_later hbx k1_6; replace k1_7 := cell_later hbx k1_7; replace IP := hide ((unhide IP).later hbx); replace IQ := hide ((unhide IQ).later hbx); replace IB1 := hide ((unhide IB1).later hbx); replace IB2 := hide ((unhide IB2).later hbx); replace IX := hide ((unhide IX).later hbx); simp only [mx_eq] at o1 o2; obtain ⟨d, ty, ar, hd⟩ := owV_data (p := mxP (Rat.divInt ((n : Int) - (i : Int)) (n : Int)) p q) o1 o2; have al : Below w4.heap.size w4 (w4.alloc (.cells #[.bool u.lo.num.g, .slice u.lo.num.a u.lo.num.n u.lo.num.c, .bool u.lo.den.g, .slice u.lo.den.a u.lo.den.n u.lo.den.c, .bool u.hi.num.g, .slice u.hi.num.a u.hi.num.n u.hi.num.c, .bool u.hi.den.g, .slice u.hi.den.a u.hi.den.n u.hi.den.c] 34)) := (Below.refl _ _).alloc (Nat.le_refl _) _; have GW3 := hide (((unhide GW0).later (below_on (below_on (below_on (unhide F1) (unhide F2)) (unhide F3)) hbx)).later al); have TY3 := hide (ty.later al); have AR3 := hide (ar.later al); have HB3 := hide (below_on (below_on (unhide HBq) (below_on (below_on (below_on (unhide F1) (unhide F2)) (unhide F3)) hbx)) al); have HD := hide hd; have fs4 := hbx.size; clear al ty ar hd; have HBr := hide (below_on (unhide HBr) hbx); clear hbx hb o1 o2)
        | (refine stepZ rfl (.tmp 17) (.tmp 35) rfl w.heap.size _ us rfl (unhide GW3) w4.heap.size u d rfl (heap_alloc_new _ _) (unhide TY3) (unhide AR3) (by omega) (by simp; omega) ?_; intro g cap w3 hG hgrow; have HB4 := hide (GwZ.bel (unhide GW3) (unhide HB3) (Nat.le_refl _) hgrow); have GW4 := hide hG; replace k0_0 := ((unhide HB4).cell (p := ⟨b, off + (i - 1) * 8, none⟩) hb).trans ((unhide Y0).1); replace k0_1 := ((unhide HB4).cell (p := ⟨b, off + (i - 1) * 8 + 1, none⟩) hb).trans ((unhide Y0).2.1); replace k0_2 := ((unhide HB4).cell (p := ⟨b, off + (i - 1) * 8 + 2, none⟩) hb).trans ((unhide Y0).2.2.1); replace k0_3 := ((unhide HB4).cell (p := ⟨b, off + (i - 1) * 8 + 3, none⟩) hb).trans ((unhide Y0).2.2.2.1); replace k0_4 := ((unhide HB4).cell (p := ⟨b, off + (i - 1) * 8 + 4, none⟩) hb).trans ((unhide Y0).2.2.2.2.1); replace k0_5 := ((unhide HB4).cell (p := ⟨b, off + (i - 1) * 8 + 5, none⟩) hb).trans ((unhide Y0).2.2.2.2.2.1); replace k0_6 := ((unhide HB4).cell (p := ⟨b, off + (i - 1) * 8 + 6, none⟩) hb).trans ((unhide Y0).2.2.2.2.2.2.1); replace k0_7 := ((unhide HB4).cell (p := ⟨b, off + (i - 1) * 8 + 7, none⟩) hb).trans ((unhide Y0).2.2.2.2.2.2.2); replace k1_0 := ((unhide HB4).cell (p := ⟨b, off + i * 8, none⟩) hb).trans ((unhide V0).1); replace k1_1 := ((unhide HB4).cell (p := ⟨b, off + i * 8 + 1, none⟩) hb).trans ((unhide V0).2.1); replace k1_2 := ((unhide HB4).cell (p := ⟨b, off + i * 8 + 2, none⟩) hb).trans ((unhide V0).2.2.1); replace k1_3 := ((unhide HB4).cell (p := ⟨b, off + i * 8 + 3, none⟩) hb).trans ((unhide V0).2.2.2.1); replace k1_4 := ((unhide HB4).cell (p := ⟨b, off + i * 8 + 4, none⟩) hb).trans ((unhide V0).2.2.2.2.1); replace k1_5 := ((unhide HB4).cell (p := ⟨b, off + i * 8 + 5, none⟩) hb).trans ((unhide V0).2.2.2.2.2.1); replace k1_6 := ((unhide HB4).cell (p := ⟨b, off + i * 8 + 6, none⟩) hb).trans ((unhide V0).2.2.2.2.2.2.1); replace k1_7 := ((unhide HB4).cell (p := ⟨b, off + i * 8 + 7, none⟩) hb).trans ((unhide V0).2.2.2.2.2.2.2); clear hG hgrow))
      have AT2 : Hid (∀ j, j < i + 1 → AtZ (us ++ [(u, d)]) j (raP ps j)) := hide (fun j hj => by
        by_cases e : j = i
        · subst e
          have hv : raP ps j = mxP (Rat.divInt ((n : Int) - (j : Int)) (n : Int)) p q := by
            unfold raP
            rw [if_neg (by omega), if_neg (by rw [unhide LP]; omega), (unhide PV).1, (unhide PV).2, unhide LP]
            rfl
          rw [hv]
          exact atZ_new hu (unhide HD)
        · exact ((unhide AT) j (by omega)).left)
      clear k0_0 k0_1 k0_2 k0_3 k0_4 k0_5 k0_6 k0_7 k1_0 k1_1 k1_2 k1_3 k1_4 k1_5 k1_6 k1_7 HBr IP IQ GW0 GW3 HB3 HBq
      have hul : us.length + 1 = i + 1 := by omega
      rw [hul] at GW4 ⊢
      go_wp2
      go_roundw
      case rel => exact ⟨i + 1, us ++ [(u, d)], by omega, by omega, by go_num, by simp [hu], AT2, GW4, HB4⟩
      case measure => simp [intOf]; omega
    · obtain rfl : i = n := by omega
      have hcb := unhide HC
      have hb := hbb
      have hlx : i - 1 < i := by omega
      have e0 := hcb (i - 1) (by rw [unhide HN]; exact hlx)
      obtain ⟨v, hv⟩ : ∃ y, y = l[(i - 1)]'(by rw [unhide HN]; exact hlx) := ⟨_, rfl⟩
      rw [← hv] at e0
      have Mv : Hid (l[(i - 1)]? = some v) := hide (by rw [hv]; exact List.getElem?_eq_getElem _)
      clear hv
      have E0 : wr.cell? ⟨b, off + (i - 1) * 8, none⟩ = some (.bool v.1.lo.num.g) := ((unhide HB).cell (p := ⟨b, off + (i - 1) * 8, none⟩) hb).trans (e0.1)
      have E1 : wr.cell? ⟨b, off + (i - 1) * 8 + 1, none⟩ = some (.slice v.1.lo.num.a v.1.lo.num.n v.1.lo.num.c) := ((unhide HB).cell (p := ⟨b, off + (i - 1) * 8 + 1, none⟩) hb).trans (e0.2.1)
      have E2 : wr.cell? ⟨b, off + (i - 1) * 8 + 2, none⟩ = some (.bool v.1.lo.den.g) := ((unhide HB).cell (p := ⟨b, off + (i - 1) * 8 + 2, none⟩) hb).trans (e0.2.2.1)
      have E3 : wr.cell? ⟨b, off + (i - 1) * 8 + 3, none⟩ = some (.slice v.1.lo.den.a v.1.lo.den.n v.1.lo.den.c) := ((unhide HB).cell (p := ⟨b, off + (i - 1) * 8 + 3, none⟩) hb).trans (e0.2.2.2.1)
      have E4 : wr.cell? ⟨b, off + (i - 1) * 8 + 4, none⟩ = some (.bool v.1.hi.num.g) := ((unhide HB).cell (p := ⟨b, off + (i - 1) * 8 + 4, none⟩) hb).trans (e0.2.2.2.2.1)
      have E5 : wr.cell? ⟨b, off + (i - 1) * 8 + 5, none⟩ = some (.slice v.1.hi.num.a v.1.hi.num.n v.1.hi.num.c) := ((unhide HB).cell (p := ⟨b, off + (i - 1) * 8 + 5, none⟩) hb).trans (e0.2.2.2.2.2.1)
      have E6 : wr.cell? ⟨b, off + (i - 1) * 8 + 6, none⟩ = some (.bool v.1.hi.den.g) := ((unhide HB).cell (p := ⟨b, off + (i - 1) * 8 + 6, none⟩) hb).trans (e0.2.2.2.2.2.2.1)
      have E7 : wr.cell? ⟨b, off + (i - 1) * 8 + 7, none⟩ = some (.slice v.1.hi.den.a v.1.hi.den.n v.1.hi.den.c) := ((unhide HB).cell (p := ⟨b, off + (i - 1) * 8 + 7, none⟩) hb).trans (e0.2.2.2.2.2.2.2)
      clear e0
      clear hcb
      obtain ⟨q, hq1, hq2, hq3, hq4⟩ := (unhide RD).pt (unhide Mv)
      have MV : Hid (v ∈ l) := hide (List.mem_of_getElem? (unhide Mv))
      have szr := (unhide HB).size
      have al : Below wr.heap.size wr (wr.alloc (.cells #[.bool v.1.lo.num.g, .slice v.1.lo.num.a v.1.lo.num.n v.1.lo.num.c, .bool v.1.lo.den.g, .slice v.1.lo.den.a v.1.lo.den.n v.1.lo.den.c, .bool v.1.hi.num.g, .slice v.1.hi.num.a v.1.hi.num.n v.1.hi.num.c, .bool v.1.hi.den.g, .slice v.1.hi.den.a v.1.hi.den.n v.1.hi.den.c] 34)) := (Below.refl _ _).alloc (Nat.le_refl _) _
      have GW3 := hide ((unhide GW).later al)
      have TY3 : Hid (TypZ (wr.alloc (.cells #[.bool v.1.lo.num.g, .slice v.1.lo.num.a v.1.lo.num.n v.1.lo.num.c, .bool v.1.lo.den.g, .slice v.1.lo.den.a v.1.lo.den.n v.1.lo.den.c, .bool v.1.hi.num.g, .slice v.1.hi.num.a v.1.hi.num.n v.1.hi.num.c, .bool v.1.hi.den.g, .slice v.1.hi.den.a v.1.hi.den.n v.1.hi.den.c] 34)) [(v.1.lo.num, v.2.lo.num), (v.1.lo.den, v.2.lo.den), (v.1.hi.num, v.2.hi.num), (v.1.hi.den, v.2.hi.den)]) := hide ((show TypZ w [(v.1.lo.num, v.2.lo.num), (v.1.lo.den, v.2.lo.den), (v.1.hi.num, v.2.hi.num), (v.1.hi.den, v.2.hi.den)] from fun x hx => (unhide HT) x (zipPS_mem (unhide MV) hx)).later (below_on (unhide HB) al))
      have AR3 := hide (((unhide HS).rd v (unhide MV)).later (below_on (unhide HB) al))
      have HB3 := hide (below_on (unhide HB) al)
      have IC : Hid (IsC (raL ps) ((us ++ [(v.1, v.2)]).map Prod.snd)) := hide (atZ_isC (by rw [List.length_append, hu, raL_len, unhide LP]; rfl) (fun k x hx => by
        obtain ⟨k1, rfl⟩ := raL_get hx
        rw [unhide LP] at k1
        by_cases e : k = i
        · subst e
          have hv : raP ps k = q := by unfold raP; rw [if_neg (by omega), if_pos (unhide LP).symm, unhide LP, hq1]; rfl
          rw [hv]
          exact atZ_new hu hq3
        · exact ((unhide AT) k (by omega)).left))
      clear al hq1 hq2 hq3 hq4
      have j1 : (0 : Int) ≤ (i : Int) - 1 := by omega
      have j2 : (i : Int) - 1 < (i : Int) := by omega
      have j3 : ((i : Int) - 1).toNat = i - 1 := by omega
      go_wp2_with (at_builtin; refine appZ rfl (.tmp 37) (.tmp 43) rfl w.heap.size _ us rfl (unhide GW3) wr.heap.size v.1 v.2 rfl (heap_alloc_new _ _) (unhide TY3) (unhide AR3) (by omega) (by simp; omega) ?_)
      intro g cap w3 hG hgrow
      have HB4 := hide (GwZ.bel (unhide GW3) (unhide HB3) (Nat.le_refl _) hgrow)
      have TY := hide hG.typ
      obtain ⟨a4, c4, e4, _, p4⟩ := hG.arg
      rw [List.length_append, hu] at p4
      have P4 := hide p4
      have ea : (some ⟨g, 0, none⟩ : Option Addr) = a4 ∧ cap = c4 := by
        simp only [Value.slice.injEq] at e4
        exact ⟨e4.1, e4.2.2⟩
      clear hG hgrow GW3 HB3 p4 e4 E0 E1 E2 E3 E4 E5 E6 E7
      have hul : us.length + 1 = i + 1 := by omega
      try rw [hul]
      obtain ⟨rfl, rfl⟩ := ea
      go_wp2
      go_ret
      exact ⟨_, _, _, us ++ [(v.1, v.2)], rfl, unhide HB4, ⟨unhide P4, unhide IC⟩, unhide TY⟩

set_option maxHeartbeats 8000000 in
theorem RaiS (a : Option Addr) (n c : Nat) (l : List (SV × SD)) (w : World) (h : PArS w a n c l) (ht : TypZ w (zipPS l)) :
    Calls Tryz.prog 30 #[.slice a n c] w (RetPrZ w (AnsC (gCv (l.map Prod.snd)) gCv (raL (vC l)))) := by
  have HT := hide ht
  clear ht
  have GC := hide (fun w1 (k : PArS w1 a n c l) => GoodCS a n c l w1 k)
  have HS := hide h
  have HN := hide h.len
  clear h
  cases hg : gCv (l.map Prod.snd)
  · rw [hg] at GC
    go_enter Tryz.func30, Tryz.ntmps30
    go_wp2_with fail
    refine (unhide GC _ (unhide HS)).mono ?_
    rintro e w1 ⟨rfl, hb⟩
    have HB := hide hb
    clear hb GC
    go_wp2
    go_ret2
    exact ⟨none, 0, 0, [], false, rfl, unhide HB, ⟨.inl rfl, fun p hp => (by cases hp)⟩, rfl, .inr ⟨rfl, rfl, rfl⟩⟩
  · rw [hg] at GC
    have HG := hide hg
    have n5 : 1 ≤ n ∧ n ≤ 5 := by have := (gCv_mem hg).1; rw [List.length_map, unhide HN] at this; exact this
    clear hg
    have RD := hide (rdC_good (unhide HS) (unhide HG))
    have BD := hide (bdC_good (unhide HG))
    have HT1 := HT
    go_enter Tryz.func30, Tryz.ntmps30
    go_wp2_with fail
    refine (unhide GC _ (unhide HS)).mono ?_
    rintro e w1 ⟨rfl, hb⟩
    have HB1 := hide hb
    have s1 := hb.size
    clear hb GC
    go_wp2_with fail
    refine (raiS a n c l (vC l) _ ((unhide RD).later (unhide HB1)) (unhide BD) n5.1 n5.2 ((unhide HT).later (unhide HB1))).mono ?_
    rintro e w2 ⟨a2, n2, c2, l2, rfl, hb2, rd2, ty2⟩
    have HB2 := hide (below_on (unhide HB1) hb2)
    have RD2 := hide rd2
    have LN : Hid (n2 = n + 1) := hide (by have := rd2.len; rw [raL_len, (unhide RD).len] at this; omega)
    obtain ⟨zq, hzq⟩ : ∃ z, z = gCv (l2.map Prod.snd) := ⟨_, rfl⟩
    have CG := hide (fun w1 (k : PArS w1 a2 n2 c2 l2) => GoodCS a2 n2 c2 l2 w1 k)
    rw [← hzq] at CG
    have HQ := hide hzq.symm
    clear hb2 rd2 ty2 hzq
    go_wp2_with fail
    refine (unhide CG _ (unhide RD2).ar).mono ?_
    rintro e w3 ⟨rfl, hb3⟩
    have HB3 := hide (below_on (unhide HB2) hb3)
    have RD3 := hide ((unhide RD2).later hb3)
    clear hb3 CG
    cases zq
    · go_wp2
      go_ret2
      exact ⟨none, 0, 0, [], false, rfl, unhide HB3, ⟨.inl rfl, fun p hp => (by cases hp)⟩, rfl, .inl ⟨rfl, _, (unhide RD2).is, .inr ⟨unhide HQ, rfl, rfl⟩⟩⟩
    · skip
      go_wp2_with fail
      refine (allZ _ _ _ l2 _ _ (unhide RD3).ar (unhide RD3).is (by have := unhide LN; omega)).mono ?_
      rintro e w5 ⟨a5, n5', c5, l5, ok5, rfl, hb5, sl5, ln5, an5⟩
      have HB5 := hide (below_on (unhide HB3) hb5)
      have S5 := hide sl5
      have L5 := hide ln5
      have A5 : Hid (AnsC true gCv (raL (vC l)) (l5.map Prod.snd) ok5) := hide (by
        rcases an5 with ⟨_, es, h1, h2⟩ | ⟨h, _⟩
        · obtain rfl := h1.same (unhide RD2).is
          rcases h2 with ⟨_, h3, h4⟩ | ⟨h3, _⟩
          · exact .inl ⟨rfl, _, h1, .inl ⟨unhide HQ, h3, h4⟩⟩
          · exact absurd (h3.symm.trans (gCv_f40 (unhide HQ))) (by decide)
        · cases h)
      clear hb5 sl5 ln5 an5
      go_wp2
      go_ret2
      exact ⟨_, _, _, l5, ok5, rfl, unhide HB5, unhide S5, unhide L5, unhide A5⟩
end Go.Proofs.YtikllcoekcglcaaGreat
namespace Go.Proofs.YtikllcoekcglcaaGreat
open Go.RowKit
set_option linter.unusedVariables false
set_option maxRecDepth 100000
set_option linter.unusedSimpArgs false

/-- A row that is read, apart from block B: an argument, or a call's own. -/
def RdF (w0 : World) (B : Nat) (w : World) (a : Option Addr) (n c : Nat) (l : List (SV × SD)) (ps : List (Rat × Rat)) : Prop := RdC w a n c l ps ∧ ((RdC w0 a n c l ps ∧ Below w0.heap.size w0 w) ∨ ∃ E, PRoZ (B + 1) E w a n c l)
theorem RdF.later {w0 w w' : World} {B : Nat} {a : Option Addr} {n c : Nat} {l : List (SV × SD)} {ps : List (Rat × Rat)} (h : RdF w0 B w a n c l ps) (hb : Below w.heap.size w w') : RdF w0 B w' a n c l ps := by
  refine ⟨h.1.later hb, ?_⟩
  rcases h.2 with ⟨h1, h2⟩ | ⟨E, h1⟩
  · exact .inl ⟨h1, below_on h2 hb⟩
  · exact .inr ⟨E, h1.later hb⟩
theorem RdF.but {w0 w w' : World} {B : Nat} {a : Option Addr} {n c : Nat} {l : List (SV × SD)} {ps : List (Rat × Rat)} (h : RdF w0 B w a n c l ps) (hB : w0.heap.size ≤ B) (bt : But B (B + 1) w w') : RdF w0 B w' a n c l ps := by
  rcases h.2 with ⟨h1, h2⟩ | ⟨E, h1⟩
  · have hb := bt.below h2 hB h2.size
    exact ⟨h1.later hb, .inl ⟨h1, hb⟩⟩
  · have k1 := h1.but bt (.inr (Nat.le_refl _))
    have sl := k1.sl
    refine ⟨⟨⟨sl.at_, fun p hp x hx => ?_, h.1.ar.len, h.1.ar.cap, h.1.ar.top⟩, h.1.is⟩, .inr ⟨E, k1⟩⟩
    have a0 := h.1.ar.rd p hp x hx
    have s0 := sl.rd p hp x hx
    exact ⟨a0.sg, ⟨s0.sl, a0.ar.len, a0.ar.cap, a0.ar.top, a0.ar.addr⟩⟩

end Go.Proofs.YtikllcoekcglcaaGreat
namespace Go.Proofs.YtikllcoekcglcaaGreat
open Go.RowKit
set_option linter.unusedVariables false
set_option maxRecDepth 100000
set_option linter.unusedSimpArgs false

theorem PArS.grown {w w' : World} {a : Option Addr} {n c B : Nat} {l us : List (SV × SD)} {v : Value} (h : PArS w a n c l) (ht : TypZ w (zipPS l)) (hG : GwZ B w v us) (hg : w.grownBy w' v.ownBlock) (hne : ∀ b off, a = some ⟨b, off, none⟩ → v.ownBlock ≠ some b) : PArS w' a n c l ∧ TypZ w' (zipPS l) := by
  have t1 := ht.grown hg hG.row
  refine ⟨⟨?_, fun p hp => ?_, h.len, h.cap, h.top⟩, t1⟩
  · rcases h.at_ with e | ⟨b, off, rfl, hb, hc⟩
    · exact .inl e
    · have nb : some b ≠ v.ownBlock := fun e => hne b off rfl e.symm
      have ce : ∀ o, w'.cell? ⟨b, o, none⟩ = w.cell? ⟨b, o, none⟩ := fun o => hg.cell_far ⟨b, o, none⟩ hb nb
      refine .inr ⟨b, off, rfl, Nat.lt_of_lt_of_le hb hg.size, fun i hi => ?_⟩
      have h1 := hc i hi
      simp only [ce]
      exact h1
  · have a1 := t1.ar (allSl_ar_mem h.rd)
    exact fun x hx => a1 x (zipPS_mem hp hx)
end Go.Proofs.YtikllcoekcglcaaGreat
namespace Go.Proofs.YtikllcoekcglcaaGreat
open Go.RowKit
set_option linter.unusedVariables false
set_option maxRecDepth 100000
set_option linter.unusedSimpArgs false

/-- A sum's box at block S; its limbs lie behind block R. -/
structure SmB (R S : Nat) (w : World) (q : QV) (x : Rat) : Prop where
  c0 : w.cell? ⟨S, 0, none⟩ = some (.bool q.num.g)
  c1 : w.cell? ⟨S, 1, none⟩ = some (.slice q.num.a q.num.n q.num.c)
  c2 : w.cell? ⟨S, 2, none⟩ = some (.bool q.den.g)
  c3 : w.cell? ⟨S, 3, none⟩ = some (.slice q.den.a q.den.n q.den.c)
  fz : ∀ o, w.frozen? ⟨S, o, none⟩ = false
  ow : OwR (R + 1) w.heap.size w q x
theorem SmB.lt {R S : Nat} {w : World} {q : QV} {x : Rat} (h : SmB R S w q x) : S < w.heap.size := World.block_lt_of_cell? _ _ h.c0
theorem SmB.later {R S : Nat} {w w' : World} {q : QV} {x : Rat} (h : SmB R S w q x) (hb : Below w.heap.size w w') : SmB R S w' q x := ⟨cell_later hb h.c0, cell_later hb h.c1, cell_later hb h.c2, cell_later hb h.c3, fun o => frozen_later hb h.lt (h.fz o), (h.ow.later hb).wide (Nat.le_refl _) hb.size⟩
theorem OwR.but {lo hi lo' hi' : Nat} {w w' : World} {q : QV} {x : Rat} (h : OwR lo hi w q x) (bt : But lo' hi' w w') (hd : hi ≤ lo' ∨ hi' ≤ lo) : OwR lo hi w' q x := by
  obtain ⟨xs, us, k1, k2, k3, k4⟩ := h
  have o := k1.but bt hd
  exact ⟨xs, us, o, fun p hp => ⟨(k2 p hp).sg, ⟨(o.sl p hp).sl, (k2 p hp).ar.len, (k2 p hp).ar.cap, (k2 p hp).ar.top, (k2 p hp).ar.addr⟩⟩, k3, k4⟩
theorem SmB.put {R S lo hi : Nat} {w : World} {q q' : QV} {x x' : Rat} (h : SmB R S w q x) (ho : OwR lo hi w q' x') (h1 : S + 1 ≤ lo) (h2 : hi ≤ w.heap.size) (hR : R + 1 ≤ lo) : SmB R S ((((w.setCell ⟨S, 0, none⟩ (.bool q'.num.g)).setCell ⟨S, 1, none⟩ (.slice q'.num.a q'.num.n q'.num.c)).setCell ⟨S, 2, none⟩ (.bool q'.den.g)).setCell ⟨S, 3, none⟩ (.slice q'.den.a q'.den.n q'.den.c)) q' x' := by
  have bt := metQ_but (w5 := w) (v := q') (G := S)
  have e0 := h.c0
  have e1 := h.c1
  have e2 := h.c2
  have e3 := h.c3
  refine ⟨?_, ?_, ?_, ?_, fun o => ?_, (ho.but bt (.inr h1)).wide hR (Nat.le_trans h2 bt.size)⟩
  · simp [go_sem, e0, e1, e2, e3]
  · simp [go_sem, e0, e1, e2, e3]
  · simp [go_sem, e0, e1, e2, e3]
  · simp [go_sem, e0, e1, e2, e3]
  · have := h.fz o
    simp [go_sem, e0, e1, e2, e3, this]
end Go.Proofs.YtikllcoekcglcaaGreat
namespace Go.Proofs.YtikllcoekcglcaaGreat
open Go.RowKit
set_option linter.unusedVariables false
set_option maxRecDepth 100000
set_option linter.unusedSimpArgs false

/-- A sum's box at block S; its limbs lie behind block R. -/
structure SmV (R S : Nat) (w : World) (q : QV) (x : Rat) : Prop where
  c0 : w.cell? ⟨S, 0, none⟩ = some (.bool q.num.g)
  c1 : w.cell? ⟨S, 1, none⟩ = some (.slice q.num.a q.num.n q.num.c)
  c2 : w.cell? ⟨S, 2, none⟩ = some (.bool q.den.g)
  c3 : w.cell? ⟨S, 3, none⟩ = some (.slice q.den.a q.den.n q.den.c)
  fz : ∀ o, w.frozen? ⟨S, o, none⟩ = false
  ow : OwV (R + 1) w.heap.size w q x
theorem SmV.lt {R S : Nat} {w : World} {q : QV} {x : Rat} (h : SmV R S w q x) : S < w.heap.size := World.block_lt_of_cell? _ _ h.c0
theorem SmV.later {R S : Nat} {w w' : World} {q : QV} {x : Rat} (h : SmV R S w q x) (hb : Below w.heap.size w w') : SmV R S w' q x := ⟨cell_later hb h.c0, cell_later hb h.c1, cell_later hb h.c2, cell_later hb h.c3, fun o => frozen_later hb h.lt (h.fz o), (h.ow.later hb).wide (Nat.le_refl _) hb.size⟩
theorem SmV.put {R S lo hi : Nat} {w : World} {q q' : QV} {x x' : Rat} (h : SmV R S w q x) (ho : OwV lo hi w q' x') (h1 : S + 1 ≤ lo) (h2 : hi ≤ w.heap.size) (hR : R + 1 ≤ lo) : SmV R S ((((w.setCell ⟨S, 0, none⟩ (.bool q'.num.g)).setCell ⟨S, 1, none⟩ (.slice q'.num.a q'.num.n q'.num.c)).setCell ⟨S, 2, none⟩ (.bool q'.den.g)).setCell ⟨S, 3, none⟩ (.slice q'.den.a q'.den.n q'.den.c)) q' x' := by
  have bt := metQ_but (w5 := w) (v := q') (G := S)
  have e0 := h.c0
  have e1 := h.c1
  have e2 := h.c2
  have e3 := h.c3
  refine ⟨?_, ?_, ?_, ?_, fun o => ?_, (ho.but bt (.inr h1)).wide hR (Nat.le_trans h2 bt.size)⟩
  · simp [go_sem, e0, e1, e2, e3]
  · simp [go_sem, e0, e1, e2, e3]
  · simp [go_sem, e0, e1, e2, e3]
  · simp [go_sem, e0, e1, e2, e3]
  · have := h.fz o
    simp [go_sem, e0, e1, e2, e3, this]
end Go.Proofs.YtikllcoekcglcaaGreat
