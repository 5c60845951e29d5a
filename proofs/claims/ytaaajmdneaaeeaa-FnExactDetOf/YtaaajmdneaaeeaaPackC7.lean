/- Arguments that are slices of integers, in laws whose answer is a number. No condition beyond those typed. -/
import Derived.Test.YtaaajmdneaaeeaaPackA7
import Derived.Deep.AppendLies
import Derived.Test.YtaaajmdneaaeeaaSgs
import Derived.Test.YtaaajmdneaaeeaaRatF
import Derived.Test.YtaaajmdneaaeeaaVarB
import Derived.Test.YtaaajmdneaaeeaaSubI
namespace Go.Proofs.Ytaaajmdneaaeeaa
open Go.RowKit
set_option linter.unusedVariables false
set_option maxRecDepth 100000
set_option linter.unusedSimpArgs false

/-- A row of n numbers of its own. -/
structure RowW (lo : Nat) (w : World) (F n : Nat) (V : Nat → Int) : Prop where
  lt : F < w.heap.size
  fz : ∀ o, w.frozen? ⟨F, o, none⟩ = false
  el : ∀ j, j < n → ∃ b : BV, w.cell? ⟨F, j * 2, none⟩ = some (.bool b.g) ∧ w.cell? ⟨F, j * 2 + 1, none⟩ = some (.slice b.a b.n b.c) ∧ Ow lo w.heap.size w b (V j)
theorem RowW.later {lo : Nat} {w w' : World} {F n : Nat} {V : Nat → Int} (h : RowW lo w F n V) (hb : Below w.heap.size w w') : RowW lo w' F n V := by
  refine ⟨Nat.lt_of_lt_of_le h.lt hb.size, fun o => frozen_later hb h.lt (h.fz o), fun j hj => ?_⟩
  obtain ⟨b, h1, h2, h3⟩ := h.el j hj
  exact ⟨b, cell_later hb h1, cell_later hb h2, (h3.later hb).wide (Nat.le_refl _) hb.size⟩
theorem RowW.set {lo : Nat} {w : World} {F n j : Nat} {V V' : Nat → Int} {u : BV} (h : RowW lo w F n V) (hj : j < n) (ho : Ow lo w.heap.size w u (V' j)) (e : ∀ c, c < n → c ≠ j → V' c = V c) : RowW lo ((w.setCell ⟨F, j * 2, none⟩ (.bool u.g)).setCell ⟨F, j * 2 + 1, none⟩ (.slice u.a u.n u.c)) F n V' := by
  have hb : But F (F + 1) w ((w.setCell ⟨F, j * 2, none⟩ (.bool u.g)).setCell ⟨F, j * 2 + 1, none⟩ (.slice u.a u.n u.c)) := but_row7
  obtain ⟨b0, z1, _⟩ := h.el 0 (by omega)
  refine ⟨Nat.lt_of_lt_of_le h.lt hb.size, fun o => by simp only [World.frozen?_setCell]; exact h.fz o, fun c hc => ?_⟩
  obtain ⟨b, h1, h2, h3⟩ := h.el c hc
  by_cases e2 : c = j
  · subst e2
    exact ⟨u, cs7_skip (cs7_hit h1) (.inr (by omega)), cs7_hit (cs7_skip h2 (.inr (by omega))), (ho.blk hb z1 (notI_b _)).wide (Nat.le_refl _) hb.size⟩
  · exact ⟨b, cs7_skip (cs7_skip h1 (.inr (by omega))) (.inr (by omega)), cs7_skip (cs7_skip h2 (.inr (by omega))) (.inr (by omega)), by rw [e c hc e2]; exact (h3.blk hb z1 (notI_b _)).wide (Nat.le_refl _) hb.size⟩
theorem RowW.made {lo : Nat} {w : World} {F n : Nat} {V : Nat → Int} (h : Made7 w F n) (e : ∀ j, j < n → V j = 0) : RowW lo w F n V := ⟨h.lt, h.fz, fun j hj => ⟨⟨false, none, 0, 0⟩, (h.el j hj).1, (h.el j hj).2, by rw [e j hj]; exact Ow.nought7 _ _ _⟩⟩
theorem RowW.congr {lo : Nat} {w : World} {F n : Nat} {V V' : Nat → Int} (h : RowW lo w F n V) (e : ∀ j, j < n → V j = V' j) : RowW lo w F n V' := ⟨h.lt, h.fz, fun j hj => by rw [← e j hj]; exact h.el j hj⟩
/-- A row that is whole is laid as the next one. -/
theorem MatW.put {lo lo' G n m F : Nat} {w w1 : World} {R : Nat → Nat} {M : Nat → Nat → Int} (h : MatW lo w G m n R M) (hO : MadeO w G n m) (hm : m < n) (hnm : n ≤ maxLen) (hb : Below w.heap.size w w1) (hF : F = w.heap.size) (hx : RowW lo' w1 F n (M m)) (hlo : lo ≤ w.heap.size) (hlo' : lo ≤ lo') :
    ∃ R', MatW lo (w1.setCell ⟨G, m, none⟩ (.slice (some ⟨F, 0, none⟩) n n)) G (m + 1) n R' M ∧ MadeO (w1.setCell ⟨G, m, none⟩ (.slice (some ⟨F, 0, none⟩) n n)) G n (m + 1) := by
  have h1 := h.later hb
  have hO1 := hO.later hb
  have lt := h.ghi
  have bt : But G (G + 1) w1 (w1.setCell ⟨G, m, none⟩ (.slice (some ⟨F, 0, none⟩) n n)) := (But.refl _ _ _).set (p := ⟨G, m, none⟩) (Nat.le_refl G) (Nat.lt_succ_self G) _
  have hs := bt.size
  have c0 := hO1.el m (Nat.le_refl _) hm
  have hR : ∀ i, i < m → R i < w.heap.size := fun i hi => (h.rlo i hi).2.1
  have z0 : ∃ v, w1.cell? ⟨G, 0, none⟩ = some v ∧ NotI v := by
    by_cases e : m = 0
    · subst e; exact ⟨_, c0, notI_s _ _ _⟩
    · obtain ⟨c, k1, _⟩ := h1.out 0 (by omega)
      exact ⟨_, k1, notI_s _ _ _⟩
  obtain ⟨v, z1, z2⟩ := z0
  have h2 : MatW lo (w1.setCell ⟨G, m, none⟩ (.slice (some ⟨F, 0, none⟩) n n)) G m n R M := by
    refine ⟨h1.glo, Nat.lt_of_lt_of_le h1.ghi hs, fun i hi => ?_, fun o => ?_, fun i hi => ?_, fun i hi o => ?_, h1.inj, fun i j hi hj => ?_⟩
    · obtain ⟨c, k1, k2⟩ := h1.out i hi
      exact ⟨c, cs7_skip k1 (.inr (by omega)), k2⟩
    · simp only [World.frozen?_setCell]; exact h1.gfz o
    · obtain ⟨k1, k2, k3⟩ := h1.rlo i hi
      exact ⟨k1, Nat.lt_of_lt_of_le k2 hs, k3⟩
    · simp only [World.frozen?_setCell]; exact h1.rfz i hi o
    · obtain ⟨b, k1, k2, k3⟩ := h1.el i j hi hj
      have := (h1.rlo i hi).2.2
      exact ⟨b, cs7_skip k1 (.inl this), cs7_skip k2 (.inl this), (k3.blk bt z1 z2).wide (Nat.le_refl _) hs⟩
  refine ⟨_, h2.more (M' := M) (Nat.le_refl n) hnm (F := F) (by omega) (Nat.lt_of_lt_of_le hx.lt hs) (by omega) (fun i hi => by have := hR i hi; omega) (fun o => by simp only [World.frozen?_setCell]; exact hx.fz o) (cs7_hit c0) (fun j hj => ?_) (fun _ _ _ _ => rfl), ?_⟩
  · obtain ⟨b, k1, k2, k3⟩ := hx.el j hj
    exact ⟨b, cs7_skip k1 (.inl (by omega)), cs7_skip k2 (.inl (by omega)), (k3.blk bt z1 z2).wide hlo' hs⟩
  · exact ⟨Nat.lt_of_lt_of_le hO1.lt hs, fun o => by simp only [World.frozen?_setCell]; exact hO1.fz o, fun i a b => cs7_skip (hO1.el i (by omega) b) (.inr (by omega))⟩
end Go.Proofs.Ytaaajmdneaaeeaa
namespace Go.Proofs.Ytaaajmdneaaeeaa
open Go.RowKit
set_option linter.unusedVariables false
set_option maxRecDepth 100000
set_option linter.unusedSimpArgs false

/-- Limbs stay where a row of another kind grows. -/
theorem Ow.gr7 {lo hi B size n : Nat} {T : TypeId} {w w' : World} {b : BV} {V : Int} {v : Value} {M : List Value} (h : Ow lo hi w b V) (hg : w.grownBy w' v.ownBlock) (hr : w.ownsRow B T size v n M) (hT : T ≠ 3) : Ow lo hi w' b V := by
  obtain ⟨xs, k1, k2, k3⟩ := h
  have o : AllOwn lo hi w' [(b, ⟨decide (V < 0), xs⟩)] := ⟨fun p hp => by
    have hp := List.mem_singleton.1 hp
    subst hp
    have q := k1.own _ (List.mem_singleton.2 rfl)
    refine ⟨q.sg, ?_, q.len⟩
    rcases q.own with e | ⟨bb, cur, ea, h1, h2, hb, hx⟩
    · exact .inl e
    · refine .inr ⟨bb, cur, ea, h1, h2, ?_, hx⟩
      rw [hg.block bb (Array.getElem?_eq_some_iff.1 hb).1 (fun eb => ?_)]
      · exact hb
      · rcases hr.2 with ⟨h', _⟩ | ⟨g', cap, cur', hv, _, hgt, _⟩
        · rw [h'] at eb; simp [Value.ownBlock] at eb
        · rw [hv] at eb
          simp only [Value.ownBlock, Option.some.injEq] at eb
          subst eb
          rw [hb] at hgt
          simp only [Option.some.injEq, Obj.cells.injEq] at hgt
          exact hT hgt.2.1.symm, List.pairwise_singleton _ _⟩
  exact ⟨xs, o, fun p hp => ⟨(k2 p hp).sg, ⟨(o.sl p hp).sl, (k2 p hp).ar.len, (k2 p hp).ar.cap, (k2 p hp).ar.top, (k2 p hp).ar.addr⟩⟩, k3⟩
theorem owns_later7 {w w' : World} {B size n : Nat} {e : TypeId} {v : Value} {M : List Value} (h : w.ownsRow B e size v n M) (hb : Below w.heap.size w w') : w'.ownsRow B e size v n M := by
  refine ⟨h.1, ?_⟩
  rcases h.2 with h' | ⟨g', cap, cur, hv, h1, hg, r⟩
  · exact .inl h'
  · refine .inr ⟨g', cap, cur, hv, h1, ?_, r⟩
    rw [hb.block g' (Array.getElem?_eq_some_iff.1 hg).1]
    exact hg
theorem owns_gr7 {w w' : World} {B size n : Nat} {e : TypeId} {v : Value} {M : List Value} {r : Option Nat} (h : w.ownsRow B e size v n M) (hg : w.grownBy w' r) (hne : ∀ g, v.ownBlock = some g → r ≠ some g) : w'.ownsRow B e size v n M := by
  refine ⟨h.1, ?_⟩
  rcases h.2 with h' | ⟨g', cap, cur, hv, h1, hb, r'⟩
  · exact .inl h'
  · refine .inr ⟨g', cap, cur, hv, h1, ?_, r'⟩
    rw [hg.block g' (Array.getElem?_eq_some_iff.1 hb).1 (fun e => hne g' (by rw [hv]; rfl) e.symm)]
    exact hb
theorem owns_lt7 {w : World} {B size n g : Nat} {e : TypeId} {v : Value} {M : List Value} (h : w.ownsRow B e size v n M) (hv : v.ownBlock = some g) : g < w.heap.size ∧ B ≤ g := by
  rcases h.2 with ⟨h', _⟩ | ⟨g', cap, cur, hv', h1, hb, r'⟩
  · rw [h'] at hv; simp [Value.ownBlock] at hv
  · rw [hv'] at hv
    simp only [Value.ownBlock, Option.some.injEq] at hv
    subst hv
    exact ⟨(Array.getElem?_eq_some_iff.1 hb).1, h1⟩
theorem owns_ty7 {w : World} {B B' size size' n n' g : Nat} {e e' : TypeId} {v v' : Value} {M M' : List Value} (h : w.ownsRow B e size v n M) (h' : w.ownsRow B' e' size' v' n' M') (hv : v.ownBlock = some g) (hv' : v'.ownBlock = some g) : e = e' := by
  rcases h.2 with ⟨q, _⟩ | ⟨g1, cap, cur, q, h1, hb, r⟩
  · rw [q] at hv; simp [Value.ownBlock] at hv
  rcases h'.2 with ⟨q', _⟩ | ⟨g2, cap', cur', q', h1', hb', r'⟩
  · rw [q'] at hv'; simp [Value.ownBlock] at hv'
  rw [q] at hv
  rw [q'] at hv'
  simp only [Value.ownBlock, Option.some.injEq] at hv hv'
  subst hv
  subst hv'
  rw [hb] at hb'
  simp only [Option.some.injEq, Obj.cells.injEq] at hb'
  exact hb'.2.1
/-- A row of numbers that grows. -/
structure RowG (lo : Nat) (w : World) (v : Value) (n : Nat) (V : Nat → Int) : Prop where
  ex : ∃ xs, w.ownsRow lo 27 2 v n xs ∧ ∀ j, j < n → ∃ b : BV, xs[j * 2]? = some (.bool b.g) ∧ xs[j * 2 + 1]? = some (.slice b.a b.n b.c) ∧ Ow lo w.heap.size w b (V j)
theorem RowG.nil (lo : Nat) (w : World) (V : Nat → Int) : RowG lo w (.slice none 0 0) 0 V := ⟨[], ⟨rfl, .inl ⟨rfl, rfl⟩⟩, fun j hj => by omega⟩
theorem RowG.later {lo : Nat} {w w' : World} {v : Value} {n : Nat} {V : Nat → Int} (h : RowG lo w v n V) (hb : Below w.heap.size w w') : RowG lo w' v n V := by
  obtain ⟨xs, h1, h2⟩ := h.ex
  refine ⟨xs, owns_later7 h1 hb, fun j hj => ?_⟩
  obtain ⟨b, k1, k2, k3⟩ := h2 j hj
  exact ⟨b, k1, k2, (k3.later hb).wide (Nat.le_refl _) hb.size⟩
/-- m rows of n numbers each, each at a block of its own. -/
structure MatR (lo : Nat) (w : World) (m n : Nat) (R : Nat → Nat) (M : Nat → Nat → Int) : Prop where
  rlo : ∀ i, i < m → lo ≤ R i ∧ R i < w.heap.size
  rfz : ∀ i, i < m → ∀ o, w.frozen? ⟨R i, o, none⟩ = false
  inj : ∀ i j, i < m → j < m → i ≠ j → R i ≠ R j
  ty : ∀ i, i < m → ∃ cur, w.heap[R i]? = some (.cells cur 27 (0, 0))
  el : ∀ i j, i < m → j < n → ∃ b : BV, w.cell? ⟨R i, j * 2, none⟩ = some (.bool b.g) ∧ w.cell? ⟨R i, j * 2 + 1, none⟩ = some (.slice b.a b.n b.c) ∧ Ow lo w.heap.size w b (M i j)
theorem MatR.none7 (lo : Nat) (w : World) (n : Nat) (R : Nat → Nat) (M : Nat → Nat → Int) : MatR lo w 0 n R M := ⟨fun i h => by omega, fun i h => by omega, fun i j h => by omega, fun i h => by omega, fun i j h => by omega⟩
theorem MatR.later {lo : Nat} {w w' : World} {m n : Nat} {R : Nat → Nat} {M : Nat → Nat → Int} (h : MatR lo w m n R M) (hb : Below w.heap.size w w') : MatR lo w' m n R M := by
  have hs := hb.size
  refine ⟨fun i hi => ⟨(h.rlo i hi).1, Nat.lt_of_lt_of_le (h.rlo i hi).2 hs⟩, fun i hi o => frozen_later hb (h.rlo i hi).2 (h.rfz i hi o), h.inj, fun i hi => ?_, fun i j hi hj => ?_⟩
  · obtain ⟨cur, k⟩ := h.ty i hi
    exact ⟨cur, (hb.block (R i) (h.rlo i hi).2).trans k⟩
  obtain ⟨b, h1, h2, h3⟩ := h.el i j hi hj
  exact ⟨b, cell_later hb h1, cell_later hb h2, (h3.later hb).wide (Nat.le_refl _) hs⟩
theorem cell_gr7 {w w' : World} {r : Option Nat} {b o : Nat} {x : Value} (hg : w.grownBy w' r) (h : w.cell? ⟨b, o, none⟩ = some x) (hne : r ≠ some b) : w'.cell? ⟨b, o, none⟩ = some x :=
  (World.cell?_of_block (hg.block b (World.block_lt_of_cell? _ _ h) (fun e => hne e.symm))).trans h
theorem frozen_gr7 {w w' : World} {r : Option Nat} {b o : Nat} {x : Bool} (hg : w.grownBy w' r) (h : w.frozen? ⟨b, o, none⟩ = x) (hb : b < w.heap.size) (hne : r ≠ some b) : w'.frozen? ⟨b, o, none⟩ = x :=
  (World.frozen?_of_block (a := ⟨b, o, none⟩) (hg.block b hb (fun e => hne e.symm))).trans h
theorem MatR.gr {lo B size k : Nat} {T : TypeId} {w w' : World} {m n : Nat} {R : Nat → Nat} {M : Nat → Nat → Int} {v : Value} {xs : List Value} (h : MatR lo w m n R M) (hg : w.grownBy w' v.ownBlock) (hr : w.ownsRow B T size v k xs) (hT : T ≠ 3) (hne : ∀ i, i < m → v.ownBlock ≠ some (R i)) : MatR lo w' m n R M := by
  have hs := hg.size
  refine ⟨fun i hi => ⟨(h.rlo i hi).1, Nat.lt_of_lt_of_le (h.rlo i hi).2 hs⟩, fun i hi o => frozen_gr7 hg (h.rfz i hi o) (h.rlo i hi).2 (hne i hi), h.inj, fun i hi => ?_, fun i j hi hj => ?_⟩
  · obtain ⟨cur, k⟩ := h.ty i hi
    exact ⟨cur, (hg.block (R i) (h.rlo i hi).2 (fun e => hne i hi e.symm)).trans k⟩
  obtain ⟨b, h1, h2, h3⟩ := h.el i j hi hj
  exact ⟨b, cell_gr7 hg h1 (hne i hi), cell_gr7 hg h2 (hne i hi), (h3.gr7 hg hr hT).wide (Nat.le_refl _) hs⟩
theorem MatR.congr {lo : Nat} {w : World} {m n : Nat} {R : Nat → Nat} {M M' : Nat → Nat → Int} (h : MatR lo w m n R M) (e : ∀ i j, i < m → j < n → M i j = M' i j) : MatR lo w m n R M' :=
  ⟨h.rlo, h.rfz, h.inj, h.ty, fun i j hi hj => by rw [← e i j hi hj]; exact h.el i j hi hj⟩
/-- A row that has grown is one row more. -/
theorem MatR.more {lo : Nat} {w : World} {m n g cap : Nat} {R : Nat → Nat} {M M' : Nat → Nat → Int} (h : MatR lo w m n R M) (hr : RowG lo w (.slice (some ⟨g, 0, none⟩) n cap) n (M' m)) (hne : ∀ i, i < m → g ≠ R i) (e : ∀ i j, i < m → j < n → M' i j = M i j) : MatR lo w (m + 1) n (fun i => if i = m then g else R i) M' := by
  obtain ⟨xs, h1, h2⟩ := hr.ex
  have hg := owns_lt7 h1 rfl
  refine ⟨fun i hi => ?_, fun i hi o => ?_, fun i j hi hj hne' => ?_, fun i hi => ?_, fun i j hi hj => ?_⟩
  · by_cases c : i = m
    · rw [if_pos c]; exact ⟨hg.2, hg.1⟩
    · rw [if_neg c]; exact h.rlo i (by omega)
  · by_cases c : i = m
    · rw [if_pos c]; exact h1.frozenAt o
    · rw [if_neg c]; exact h.rfz i (by omega) o
  · by_cases c : i = m
    · rw [if_pos c, if_neg (by omega)]; exact hne j (by omega)
    · by_cases c2 : j = m
      · rw [if_neg c, if_pos c2]; exact (hne i (by omega)).symm
      · rw [if_neg c, if_neg c2]; exact h.inj i j (by omega) (by omega) hne'
  · by_cases c : i = m
    · rw [if_pos c]
      rcases h1.2 with ⟨h', _⟩ | ⟨g', cap', cur, hv, _, hgt, _⟩
      · simp at h'
      · simp only [Value.slice.injEq, Option.some.injEq, Addr.mk.injEq, and_true, true_and] at hv
        obtain ⟨rfl, _⟩ := hv
        exact ⟨cur, hgt⟩
    · rw [if_neg c]; exact h.ty i (by omega)
  · by_cases c : i = m
    · subst c
      rw [if_pos rfl]
      obtain ⟨b, k1, k2, k3⟩ := h2 j hj
      exact ⟨b, by rw [h1.cellAt _ (by omega)]; exact k1, by rw [h1.cellAt _ (by omega)]; exact k2, k3⟩
    · rw [if_neg c, e i j (by omega) hj]; exact h.el i j (by omega) hj
/-- The list of rows that grows. -/
structure OutG (lo : Nat) (w : World) (v : Value) (m n : Nat) (R : Nat → Nat) : Prop where
  ex : ∃ xs, w.ownsRow lo 33 1 v m xs ∧ ∀ i, i < m → ∃ c, xs[i]? = some (.slice (some ⟨R i, 0, none⟩) n c) ∧ n ≤ c ∧ c ≤ maxLen
theorem OutG.nil (lo : Nat) (w : World) (n : Nat) (R : Nat → Nat) : OutG lo w (.slice none 0 0) 0 n R := ⟨[], ⟨rfl, .inl ⟨rfl, rfl⟩⟩, fun j hj => by omega⟩
theorem OutG.later {lo : Nat} {w w' : World} {v : Value} {m n : Nat} {R : Nat → Nat} (h : OutG lo w v m n R) (hb : Below w.heap.size w w') : OutG lo w' v m n R := by
  obtain ⟨xs, h1, h2⟩ := h.ex
  exact ⟨xs, owns_later7 h1 hb, h2⟩
theorem OutG.ne {lo lo' : Nat} {w : World} {v : Value} {m m' n n' : Nat} {R R' : Nat → Nat} {M : Nat → Nat → Int} (h : OutG lo w v m n R) (hr : MatR lo' w m' n' R' M) : ∀ t, t < m' → v.ownBlock ≠ some (R' t) := fun t ht e => by
  obtain ⟨xs, h1, _⟩ := h.ex
  obtain ⟨cur, hc⟩ := hr.ty t ht
  rcases h1.2 with ⟨h', _⟩ | ⟨g', cap', cur', hv, _, hgt, _⟩
  · rw [h'] at e; simp [Value.ownBlock] at e
  · rw [hv] at e
    simp only [Value.ownBlock, Option.some.injEq] at e
    rw [e, hc] at hgt
    simp only [Option.some.injEq, Obj.cells.injEq] at hgt
    exact absurd hgt.2.1 (by decide)
theorem RowG.out {lo lo' : Nat} {w : World} {v v' : Value} {m n k : Nat} {R : Nat → Nat} {V : Nat → Int} (h : RowG lo w v k V) (h' : OutG lo' w v' m n R) : ∀ g, v'.ownBlock = some g → v.ownBlock ≠ some g := fun g e e' => by
  obtain ⟨xs, h1, _⟩ := h.ex
  obtain ⟨ys, h2, _⟩ := h'.ex
  exact absurd (owns_ty7 h1 h2 e' e) (by decide)
/-- What was appended to is a matrix. -/
theorem OutG.mat {lo : Nat} {w : World} {g cap n : Nat} {R : Nat → Nat} {M : Nat → Nat → Int} (h : OutG lo w (.slice (some ⟨g, 0, none⟩) n cap) n n R) (hr : MatR lo w n n R M) (h0 : 0 < n) : MatW lo w g n n R M := by
  obtain ⟨xs, h1, h2⟩ := h.ex
  have hg := owns_lt7 h1 rfl
  have hc : ∀ i, i < n → ∃ c, w.cell? ⟨g, i, none⟩ = some (.slice (some ⟨R i, 0, none⟩) n c) ∧ n ≤ c ∧ c ≤ maxLen := fun i hi => by
    obtain ⟨c, k1, k2⟩ := h2 i hi
    exact ⟨c, by rw [h1.cellAt _ (by omega)]; exact k1, k2⟩
  refine ⟨hg.2, hg.1, hc, h1.frozenAt, fun i hi => ⟨(hr.rlo i hi).1, (hr.rlo i hi).2, fun e => ?_⟩, hr.rfz, hr.inj, hr.el⟩
  obtain ⟨b, k1, _⟩ := hr.el i 0 hi h0
  obtain ⟨c, k2, _⟩ := hc 0 h0
  rw [e, Nat.zero_mul, k2] at k1
  cases k1
end Go.Proofs.Ytaaajmdneaaeeaa
namespace Go.Proofs.Ytaaajmdneaaeeaa
open Go.RowKit
set_option linter.unusedVariables false
set_option maxRecDepth 100000
set_option linter.unusedSimpArgs false

theorem sU_abs7 (V : Int) : sU (decide (V < 0)) (V.natAbs : Int) = V := by unfold sU; by_cases h : V < 0 <;> simp [h] <;> omega
/-- A number is appended to a row. -/
theorem RowG.app {lo : Nat} {w w' : World} {v : Value} {n g cap : Nat} {V : Nat → Int} {x : BV} {xs : List Value} (h1 : w.ownsRow lo 27 2 v n xs) (h2 : ∀ j, j < n → ∃ b : BV, xs[j * 2]? = some (.bool b.g) ∧ xs[j * 2 + 1]? = some (.slice b.a b.n b.c) ∧ Ow lo w.heap.size w b (V j)) (ho : Ow lo w.heap.size w x (V n))
    (hw : w'.ownsRow lo 27 2 (.slice (some ⟨g, 0, none⟩) (n + 1) cap) (n + 1) (xs ++ [.bool x.g, .slice x.a x.n x.c])) (hg : w.grownBy w' v.ownBlock) : RowG lo w' (.slice (some ⟨g, 0, none⟩) (n + 1) cap) (n + 1) V := by
  have hl : xs.length = n * 2 := h1.1
  refine ⟨_, hw, fun j hj => ?_⟩
  by_cases e : j = n
  · subst e
    exact ⟨x, by rw [List.getElem?_append_right (by omega), hl]; simp, by rw [List.getElem?_append_right (by omega), hl]; simp, (ho.gr7 hg h1 (by decide)).wide (Nat.le_refl _) hg.size⟩
  · obtain ⟨b, k1, k2, k3⟩ := h2 j (by omega)
    exact ⟨b, by rw [List.getElem?_append_left (by omega)]; exact k1, by rw [List.getElem?_append_left (by omega)]; exact k2, (k3.gr7 hg h1 (by decide)).wide (Nat.le_refl _) hg.size⟩
theorem OutG.app {lo : Nat} {w w' : World} {v : Value} {m n g cap F c : Nat} {R : Nat → Nat} {xs : List Value} (h1 : w.ownsRow lo 33 1 v m xs) (h2 : ∀ i, i < m → ∃ c, xs[i]? = some (.slice (some ⟨R i, 0, none⟩) n c) ∧ n ≤ c ∧ c ≤ maxLen) (hc : n ≤ c ∧ c ≤ maxLen)
    (hw : w'.ownsRow lo 33 1 (.slice (some ⟨g, 0, none⟩) (m + 1) cap) (m + 1) (xs ++ [.slice (some ⟨F, 0, none⟩) n c])) : OutG lo w' (.slice (some ⟨g, 0, none⟩) (m + 1) cap) (m + 1) n (fun i => if i = m then F else R i) := by
  have hl : xs.length = m * 1 := h1.1
  refine ⟨_, hw, fun i hi => ?_⟩
  by_cases e : i = m
  · subst e
    exact ⟨c, by rw [if_pos rfl, List.getElem?_append_right (by omega), hl]; simp, hc⟩
  · obtain ⟨c', k1, k2⟩ := h2 i (by omega)
    exact ⟨c', by rw [if_neg e, List.getElem?_append_left (by omega)]; exact k1, k2⟩
theorem OutG.gr {lo B k size : Nat} {T : TypeId} {w w' : World} {v v' : Value} {m n : Nat} {R : Nat → Nat} (h : OutG lo w v m n R) (hg : w.grownBy w' v'.ownBlock) (hne : ∀ g, v.ownBlock = some g → v'.ownBlock ≠ some g) : OutG lo w' v m n R := by
  obtain ⟨xs, h1, h2⟩ := h.ex
  exact ⟨xs, owns_gr7 h1 hg hne, h2⟩
theorem RowG.cap {lo : Nat} {w : World} {n g cap : Nat} {V : Nat → Int} (h : RowG lo w (.slice (some ⟨g, 0, none⟩) n cap) n V) : n ≤ cap ∧ cap ≤ maxLen := by
  obtain ⟨xs, h1, _⟩ := h.ex
  rcases h1.2 with ⟨h', _⟩ | ⟨g', cap', cur, hv, _, _, h3, h4, _⟩
  · simp at h'
  · simp only [Value.slice.injEq, Option.some.injEq, Addr.mk.injEq, and_true, true_and] at hv
    obtain ⟨_, rfl⟩ := hv
    exact ⟨h3, h4⟩
theorem RowG.form {lo : Nat} {w : World} {v : Value} {n : Nat} {V : Nat → Int} (h : RowG lo w v n V) (h0 : 0 < n) : ∃ g cap, v = .slice (some ⟨g, 0, none⟩) n cap := by
  obtain ⟨xs, h1, _⟩ := h.ex
  rcases h1.2 with ⟨h', h2⟩ | ⟨g', cap', cur, hv, _⟩
  · omega
  · exact ⟨g', cap', hv⟩
theorem OutG.form {lo : Nat} {w : World} {v : Value} {m n : Nat} {R : Nat → Nat} (h : OutG lo w v m n R) (h0 : 0 < m) : ∃ g cap, v = .slice (some ⟨g, 0, none⟩) m cap := by
  obtain ⟨xs, h1, _⟩ := h.ex
  rcases h1.2 with ⟨h', h2⟩ | ⟨g', cap', cur, hv, _⟩
  · omega
  · exact ⟨g', cap', hv⟩
theorem below_gr7 {B lo size k : Nat} {T : TypeId} {a w w' : World} {v : Value} {xs : List Value} (hb : Below B a w) (hg : w.grownBy w' v.ownBlock) (hr : w.ownsRow lo T size v k xs) (hB : B ≤ lo) (hs : B ≤ w.heap.size) : Below B a w' :=
  ⟨hg.os.trans hb.os, hg.tape.trans hb.tape, hg.output.trans hb.output, Nat.le_trans hb.size hg.size, fun i hi => (hg.block i (by omega) (fun e => by have := (owns_lt7 hr e.symm).2; omega)).trans (hb.block i hi)⟩
set_option maxHeartbeats 8000000 in
theorem ownS_v (a : Option Addr) (n c : Nat) (M : Nat → Nat → Int) (w : World) (h : MatV w a n M) (h0 : 1 ≤ n) (hn : n ≤ 1000) (bd : ∀ i j, i < n → j < n → Bd (M i j) 400000) :
    Calls Try.prog 46 #[.slice a n c] w fun e w' => ∃ g cap R, e = .returned (.slice (some ⟨g, 0, none⟩) n cap) ∧ Below w.heap.size w w' ∧ MatW w.heap.size w' g n n R M := by
  obtain ⟨G0, off, rfl, hG, h⟩ := h
  have HV := hide h
  have BD := hide bd
  clear h bd
  obtain ⟨i0, hi0, hz0, hz1, hz2⟩ := info_parts Try.info33
  obtain ⟨i1, hi1, hy0, hy1, hy2⟩ := info_parts Try.info27
  have I0 := hide (And.intro hi0 (And.intro hz0 (And.intro hz1 hz2)))
  have I1 := hide (And.intro hi1 (And.intro hy0 (And.intro hy1 hy2)))
  clear hi0 hz0 hz1 hz2 hi1 hy0 hy1 hy2
  go_enter Try.func46, Try.ntmps46
  go_wp2
  go_loopw [3, 11] (fun vo iv wr => ∃ (i : Nat) (R : Nat → Nat), i ≤ n ∧ iv = .int .i64 i ∧ Hid (OutG w.heap.size wr vo i n R) ∧ Hid (MatR w.heap.size wr i n R M) ∧ Hid (Below w.heap.size w wr)) (fun _ iv _ => n - (intOf iv).toNat)
  case atStart => exact ⟨0, fun _ => 0, Nat.zero_le _, rfl, hide (OutG.nil _ _ _ _), hide (MatR.none7 _ _ _ _ _), hide (Below.refl _ _)⟩
  case round =>
    obtain ⟨i, R, hi, rfl, HO, HR, HB⟩ := hrel
    by_cases hlt : i < n
    · have hlt' : (i : Int) < (n : Int) := by omega
      obtain ⟨Ri, o, ci, h1, _, _, hr, h5⟩ := (unhide HV) i hlt
      have E0 : wr.cell? ⟨G0, off + i, none⟩ = some (.slice (some ⟨Ri, o, none⟩) n ci) := ((unhide HB).cell (p := ⟨G0, off + i, none⟩) hG).trans h1
      have HV5 := hide h5
      clear h1 h5
      go_upto_region 6 with fail
      clear E0
      go_wp2
      obtain ⟨wp, hwp⟩ : ∃ x, x = wr := ⟨_, rfl⟩
      subst hwp
      go_loopw [6, 17] (fun vr jv wr => ∃ j : Nat, j ≤ n ∧ jv = .int .i64 j ∧ Hid (RowG w.heap.size wr vr j (M i)) ∧ Hid (∀ t, t < i → vr.ownBlock ≠ some (R t)) ∧ Hid (OutG w.heap.size wr u3 i n R) ∧ Hid (MatR w.heap.size wr i n R M) ∧ Hid (Below w.heap.size w wr)) (fun _ jv _ => n - (intOf jv).toNat)
      case atStart => exact ⟨0, Nat.zero_le _, rfl, hide (RowG.nil _ _ _), hide (fun t ht => by simp [Value.ownBlock]), HO, HR, HB⟩
      case round =>
        clear HO HR HB
        obtain ⟨j, hj, rfl, HW, NE, HO, HR, HB⟩ := hrel
        by_cases hjt : j < n
        · have hjt' : (j : Int) < (n : Int) := by omega
          obtain ⟨b, h6, h7, h8⟩ := (unhide HV5) j hjt
          have E1 : wr.cell? ⟨Ri, o + j * 2, none⟩ = some (.bool b.g) := ((unhide HB).cell (p := ⟨Ri, o + j * 2, none⟩) hr).trans h6
          have E2 : wr.cell? ⟨Ri, o + j * 2 + 1, none⟩ = some (.slice b.a b.n b.c) := ((unhide HB).cell (p := ⟨Ri, o + j * 2 + 1, none⟩) hr).trans h7
          have lb := h8.len ((unhide BD) i j hlt hjt)
          obtain ⟨xs, q1, q2⟩ := h8
          have SG : b.g = decide (M i j < 0) := q1.sg
          have AG : Hid (Arg (wr.alloc (.cells #[.bool b.g, .slice b.a b.n b.c] 27)) b.a b.n b.c xs) := hide (by
            have h : Arg wr b.a b.n b.c xs := ⟨q1.ar.sl.later (Nat.le_refl _) (unhide HB), q1.ar.len, q1.ar.cap, q1.ar.top, q1.ar.addr⟩
            exact h.later ((Below.refl _ _).alloc (Nat.le_refl _) _))
          have NX := hide q2
          have HG := hide SG
          clear h6 h7 q1 q2 SG
          go_wp2_with fail
          refine (makeS_v b.g b.a b.n b.c xs _ ((M i j).natAbs : Int) (unhide AG) (unhide NX) (by omega)).mono ?_
          rintro e w2 ⟨x, rfl, hb, ow, ar⟩
          have EV : sU b.g ((M i j).natAbs : Int) = M i j := by rw [unhide HG]; exact sU_abs7 _
          rw [EV] at ow ar
          have hb2 := ba hb
          have OX := hide ((outN_ow ow ar (unhide NX)).wide (show w.heap.size ≤ (wr.alloc (.cells #[.bool b.g, .slice b.a b.n b.c] 27)).heap.size by have := (unhide HB).size; simp; omega) (Nat.le_refl _))
          replace HW := hide ((unhide HW).later hb2)
          replace HO := hide ((unhide HO).later hb2)
          replace HR := hide ((unhide HR).later hb2)
          replace HB := hide (below_on (unhide HB) hb2)
          clear hb hb2 ow ar EV AG E1 E2
          -- the slice of one number
          have hb3 : Below w2.heap.size w2 (w2.alloc (.cells #[.bool x.g, .slice x.a x.n x.c] 27)) := (Below.refl _ _).alloc (Nat.le_refl _) _
          have sz3 : (w2.alloc (.cells #[.bool x.g, .slice x.a x.n x.c] 27)).heap.size = w2.heap.size + 1 := by simp
          have szB := (unhide HB).size
          have OX3 := hide (((unhide OX).later hb3).wide (Nat.le_refl _) hb3.size)
          have HW3 := hide ((unhide HW).later hb3)
          have HO3 := hide ((unhide HO).later hb3)
          have HR3 := hide ((unhide HR).later hb3)
          have HB3 := hide (below_on (unhide HB) hb3)
          obtain ⟨ys, y1, y2⟩ := (unhide HW3).ex
          have Y1 := hide y1
          have Y2 := hide y2
          clear y1 y2 HW HO HR HB OX hb3 HW3
          go_wp2_with (at_builtin; refine wpList_append_lies _ rfl (.tmp 21) (.tmp 27) 33 rfl w.heap.size 27 i1 (.agg #[.bool false, .slice none 0 0]) 2 32 Try.underlying33 (unhide I1).1 (unhide I1).2.1 (unhide I1).2.2.1 (unhide I1).2.2.2 rfl (by decide) _ j ys rfl (unhide Y1) ⟨w2.heap.size, 0, none⟩ 1 1 [.bool x.g, .slice x.a x.n x.c] rfl rfl (World.news_of_block (cs := #[.bool x.g, .slice x.a x.n x.c]) (t := 27) (fr := (0, 0)) (heap_alloc_new w2 _)) (by intro u' hu'; simp at hu'; rcases hu' with rfl | rfl <;> rfl) (by omega) (by unfold maxLen; omega) (by omega) (by omega) (w2.heap.size + 1) (by simp) ?_; intro g cap w4 hown hgrow hor hglt)
          have RN := hide (RowG.app (unhide Y1) (unhide Y2) (unhide OX3) hown hgrow)
          have ONE := hide (RowG.out (RowG.mk ⟨ys, unhide Y1, unhide Y2⟩) (unhide HO3))
          have RO := hide ((unhide HO3).gr (T := 3) (B := 0) (k := 0) (size := 0) hgrow (unhide ONE))
          have RR := hide ((unhide HR3).gr hgrow (unhide Y1) (by decide) (unhide NE))
          have RB := hide (below_gr7 (unhide HB3) hgrow (unhide Y1) (Nat.le_refl _) (unhide HB3).size)
          have NN : Hid (∀ t, t < i → (Value.slice (some ⟨g, 0, none⟩) (j + 1) cap).ownBlock ≠ some (R t)) := hide (fun t ht => by
            rcases hor with e | e
            · show some g ≠ _
              rw [← e]; exact (unhide NE) t ht
            · have := ((unhide HR3).rlo t ht).2
              rw [sz3] at this
              intro e2
              simp only [Value.ownBlock, Option.some.injEq] at e2
              omega)
          clear hown hgrow hor hglt Y1 Y2 HO3 HR3 HB3 OX3 NE ONE
          go_wp2
          go_roundw
          case rel => exact ⟨j + 1, by omega, by go_num, RN, NN, RO, RR, RB⟩
          case measure => simp [intOf]; omega
        · obtain rfl : j = n := by omega
          obtain ⟨gr, capr, rfl⟩ := (unhide HW).form (by omega)
          have CP := hide (unhide HW).cap
          have R1 := hide ((unhide HR).more (M' := M) (unhide HW) (fun t ht e => (unhide NE) t ht (by rw [← e]; rfl)) (fun _ _ _ _ => rfl))
          have hb3 : Below wr.heap.size wr (wr.alloc (.cells #[.slice (some ⟨gr, 0, none⟩) j capr] 33)) := (Below.refl _ _).alloc (Nat.le_refl _) _
          have sz3 : (wr.alloc (.cells #[.slice (some ⟨gr, 0, none⟩) j capr] 33)).heap.size = wr.heap.size + 1 := by simp
          have szB := (unhide HB).size
          have R3 := hide ((unhide R1).later hb3)
          have HO3 := hide ((unhide HO).later hb3)
          have HB3 := hide (below_on (unhide HB) hb3)
          obtain ⟨ys, y1, y2⟩ := (unhide HO3).ex
          have Y1 := hide y1
          have Y2 := hide y2
          clear y1 y2 HW HO HR HB hb3 R1 NE
          go_wp2_with (at_builtin; refine wpList_append_lies _ rfl (.tmp 30) (.tmp 32) 23 rfl w.heap.size 33 i0 (.slice none 0 0) 1 24 Try.underlying23 (unhide I0).1 (unhide I0).2.1 (unhide I0).2.2.1 (unhide I0).2.2.2 rfl (by decide) _ i ys rfl (unhide Y1) ⟨wr.heap.size, 0, none⟩ 1 1 [.slice (some ⟨gr, 0, none⟩) j capr] rfl rfl (World.news_of_block (cs := #[.slice (some ⟨gr, 0, none⟩) j capr]) (t := 33) (fr := (0, 0)) (heap_alloc_new wr _)) (by intro u' hu'; simp at hu'; rw [hu']; rfl) (by omega) (by unfold maxLen; omega) (by omega) (by omega) (wr.heap.size + 1) (by simp) ?_; intro g cap w4 hown hgrow hor hglt)
          have RO := hide (OutG.app (unhide Y1) (unhide Y2) (unhide CP) hown)
          have RR := hide ((unhide R3).gr hgrow (unhide Y1) (by decide) (OutG.ne (unhide HO3) (unhide R3)))
          have RB := hide (below_gr7 (unhide HB3) hgrow (unhide Y1) (Nat.le_refl _) (unhide HB3).size)
          clear hown hgrow hor hglt Y1 Y2 HO3 R3 HB3
          go_wp2
          go_roundw
          case rel => exact ⟨i + 1, _, by omega, by go_num, RO, RR, RB⟩
          case measure => simp [intOf]; omega
    · obtain rfl : i = n := by omega
      obtain ⟨g, cap, rfl⟩ := (unhide HO).form (by omega)
      go_wp2
      go_ret
      exact ⟨g, cap, R, rfl, unhide HB, (unhide HO).mat (unhide HR) (by omega)⟩
end Go.Proofs.Ytaaajmdneaaeeaa
namespace Go.Proofs.Ytaaajmdneaaeeaa
open Go.RowKit
set_option linter.unusedVariables false
set_option maxRecDepth 100000
set_option linter.unusedSimpArgs false

theorem stT_row {M : Nat → Nat → Int} {k n r : Nat} {l : Int} {c' : Nat} (h : k < r) : ∀ r' c, r' < n → c < n → rowTo (stT M k l (r - (k + 1))) r k n (stp M k l r) r' c = stT M k l (r + 1 - (k + 1)) r' c := fun r' c hr hc => by
  unfold rowTo stT
  by_cases y1 : r' = r
  · subst y1
    by_cases y2 : k < c
    · rw [if_pos ⟨rfl, y2, hc⟩, if_pos ⟨by omega, by omega, y2⟩]
    · rw [if_neg (fun h => y2 h.2.1), if_neg (fun h => y2 h.2.2), if_neg (fun h => y2 h.2.2)]
  · rw [if_neg (fun h => y1 h.1)]
    by_cases y2 : k < r' ∧ r' < k + 1 + (r - (k + 1)) ∧ k < c
    · rw [if_pos y2, if_pos ⟨y2.1, by omega, y2.2.2⟩]
    · rw [if_neg y2, if_neg (fun h => y2 ⟨h.1, by omega, h.2.2⟩)]
theorem rowTo_start {M : Nat → Nat → Int} {i k j : Nat} {Q : Nat → Int} (h : j ≤ k + 1) (r c : Nat) : rowTo M i k j Q r c = M r c := by unfold rowTo; rw [if_neg (by omega)]
theorem rowTo_next {M : Nat → Nat → Int} {i k j : Nat} {Q : Nat → Int} (h : k < j) (r c : Nat) : upd (rowTo M i k j Q) i j (Q j) r c = rowTo M i k (j + 1) Q r c := by
  unfold upd rowTo
  by_cases y1 : r = i
  · subst y1
    by_cases y2 : c = j
    · subst y2
      rw [if_pos ⟨rfl, rfl⟩, if_pos ⟨rfl, h, by omega⟩]
    · rw [if_neg (fun h => y2 h.2)]
      by_cases y3 : k < c ∧ c < j
      · rw [if_pos ⟨rfl, y3⟩, if_pos ⟨rfl, y3.1, by omega⟩]
      · rw [if_neg (fun h => y3 h.2), if_neg (fun h => y3 ⟨h.2.1, by omega⟩)]
  · rw [if_neg (fun h => y1 h.1), if_neg (fun h => y1 h.1), if_neg (fun h => y1 h.1)]
set_option maxHeartbeats 16000000 in
theorem detS_v (a : Option Addr) (n c : Nat) (M : Nat → Nat → Int) (w : World) (h : MatV w a n M) (h1 : 1 ≤ n) (hn : n ≤ 8) (bd : ∀ i j, i < n → j < n → Bd (M i j) 3) :
    Calls Try.prog 44 #[.slice a n c] w (OutN w (barVal M n)) := by
  have HV := hide h
  have BD := hide bd
  have BA : Hid (∀ r c, r < n → c < n → (M r c).natAbs ≤ 65536 ^ 3) := hide (fun r c hr hc => abs_of_bd (bd r c hr hc))
  clear h bd
  go_enter Try.func44, Try.ntmps44
  go_upto_region 1 with fail
  have hb0 : Below w.heap.size w (w.alloc (.cells #[.bool false, .slice none 0 0] 27)) := (Below.refl _ _).alloc (Nat.le_refl _) _
  have RS0 : Rs7 (w.alloc (.cells #[.bool false, .slice none 0 0] 27)) w.heap.size := ⟨⟨⟨false, none, 0, 0⟩, by simp [go_sem], by simp [go_sem]⟩, fun o => by simp [go_sem]⟩
  have sz0 : (w.alloc (.cells #[.bool false, .slice none 0 0] 27)).heap.size = w.heap.size + 1 := by simp
  generalize w.alloc (.cells #[.bool false, .slice none 0 0] 27) = wz at *
  have HV0 := hide ((unhide HV).later hb0)
  have RS := hide RS0
  have HB := hide hb0
  clear HV hb0 RS0
  go_wp2_with fail
  refine (ownS_v a n c M _ (unhide HV0) h1 (by omega) (fun i j hi hj => ((unhide BD) i j hi hj).mono (by omega))).mono ?_
  rintro e w2 ⟨G, cap, R0, rfl, hb, hm⟩
  have HM := hide hm
  have RS2 := hide ((unhide RS).later hb)
  have HB2 := hide (below_on (unhide HB) hb)
  have sz2 := hb.size
  clear hb hm RS HB HV0
  go_wp2_with fail
  refine (ofS_v 1 _ (by omega) (by omega)).mono ?_
  rintro e w3 ⟨x, lx, rfl, hb, ox, ax, nx⟩
  have OX := hide (outN_ow ox ax nx)
  have HM3 := hide ((unhide HM).later hb)
  have RS3 := hide ((unhide RS2).later hb)
  have HB3 := hide (below_on (unhide HB2) hb)
  have sz3 := hb.size
  have lt2 := (unhide HM).ghi
  have rl2 := hide (fun i hi => ((unhide HM).rlo i hi).2.1)
  have glo := (unhide HM).glo
  clear hb ox ax nx HM RS2 HB2
  go_upto_region 3 with fail
  have hb4 : Below w3.heap.size w3 (w3.alloc (.cells #[.bool x.g, .slice x.a x.n x.c] 27)) := (Below.refl _ _).alloc (Nat.le_refl _) _
  have ST : Hid (St7 wz.heap.size (w3.alloc (.cells #[.bool x.g, .slice x.a x.n x.c] 27)) G w3.heap.size n R0 M 1) := hide ⟨(unhide HM3).later hb4, by omega, by omega, fun i hi => by have := (unhide rl2) i hi; omega, fun o => by simp [go_sem], x, by simp [go_sem], by simp [go_sem], ((unhide OX).later hb4).wide (by omega) hb4.size⟩
  have RS := hide ((unhide RS3).later hb4)
  have HB := hide (below_on (unhide HB3) hb4)
  have sz4 := hb4.size
  clear hb4 HM3 RS3 HB3 OX
  generalize w3.alloc (.cells #[.bool x.g, .slice x.a x.n x.c] 27) = w4 at *
  go_wp2
  go_loopw [4, 5] (fun tv kv wr => ∃ (k : Nat) (R : Nat → Nat) (Mk : Nat → Nat → Int) (l : Int) (g : Bool), k ≤ n - 1 ∧ tv = .bool g ∧ kv = .int .i64 k ∧ Hid (bst M n k = some (Mk, l, g)) ∧ Hid (St7 wz.heap.size wr G w3.heap.size n R Mk l) ∧ Hid (Rs7 wr w.heap.size) ∧ Hid (Below w.heap.size w wr)) (fun _ kv _ => n - (intOf kv).toNat)
  case atStart => exact ⟨0, R0, M, 1, false, Nat.zero_le _, rfl, rfl, hide rfl, ST, RS, HB⟩
  case round =>
    clear ST RS HB
    obtain ⟨k, R, Mk, l, g, hk, rfl, rfl, HS, ST, RS, HB⟩ := hrel
    by_cases hlt : k < n - 1
    · have hlt' : (k : Int) < (n : Int) - 1 := by omega
      obtain ⟨A', hA⟩ := bst_inv (unhide BA) (unhide HS)
      have HA := hide hA
      clear hA
      have MV := hide (unhide ST).m.v
      cases hx : nxt Mk n k with
      | none =>
        have NX : nxI Mk n k = -1 := by unfold nxI; rw [hx]
        have EV : Hid (barVal M n = 0) := hide (barVal_none (k := k + 1) (by rw [bst_next (unhide HS), hx]) (by omega))
        have C1 := hide (fun w h => pivotS_v (some ⟨G, 0, none⟩) n cap k Mk w h (by omega) (by omega))
        rw [NX] at C1
        clear NX hx
        go_wp2_with fail
        refine (unhide C1 _ (unhide MV)).mono ?_
        rintro e w5 ⟨rfl, rfl⟩
        obtain ⟨bz, r0, r1⟩ := (unhide RS).c
        have rf := (unhide RS).f
        clear RS ST MV
        go_wp2
        refine bodyPost_ret (v := .agg #[.bool false, .slice none 0 0]) (by simp [results, Try.results44, go_sem, r0, r1]) rfl ?_
        rw [unhide EV]
        exact out_of_ow (b := ⟨false, none, 0, 0⟩) (Ow.nought7 _ _ _) (Nat.le_refl _) (Nat.le_refl _) ((metB_but (v := ⟨false, none, 0, 0⟩) (G := w.heap.size)).below (unhide HB) (Nat.le_refl _) (unhide HB).size)
      | some i =>
        obtain ⟨hki, hin, hpz⟩ := nxt_some hx
        have NX : nxI Mk n k = (i : Int) := by unfold nxI; rw [hx]
        have HN := hide hx
        have C1 := hide (fun w h => pivotS_v (some ⟨G, 0, none⟩) n cap k Mk w h (by omega) (by omega))
        rw [NX] at C1
        clear NX hx hpz
        have i0 : ¬ (i : Int) < 0 := by omega
        go_wp2_with fail
        refine (unhide C1 _ (unhide MV)).mono ?_
        rintro e w5 ⟨rfl, rfl⟩
        clear MV C1
        by_cases hik : i = k
        · have hik2 : k = i := hik.symm
          subst hik2
          have STq : Hid (St7 wz.heap.size w5 G w3.heap.size n R (swp Mk k k) l) := hide (by have h := unhide ST; exact ⟨h.m.congr (fun r c _ _ => (swp_self Mk k r c).symm), h.llo, h.lG, h.lR, h.lf, h.b⟩)
          have RSq := RS
          have HBq := HB
          clear ST RS HB
          have EG : Hid ((if k = k then g else !g) = g) := hide (by rw [if_pos rfl])
          go_upto_region 15 with fail
          clear hik
          go_wp2
          go_loopw [8] (fun rv wr => ∃ r : Nat, k < r ∧ r ≤ n ∧ rv = .int .i64 r ∧ Hid (St7 wz.heap.size wr G w3.heap.size n R (stT (swp Mk k k) k l (r - (k + 1))) l) ∧ Hid (Rs7 wr w.heap.size) ∧ Hid (Below w.heap.size w wr)) (fun rv _ => n - (intOf rv).toNat)
          case atStart => exact ⟨k + 1, by omega, by omega, by go_num, hide (by have h := unhide STq; exact ⟨h.m.congr (fun r c hr hc => by unfold stT; rw [if_neg (by omega)]), h.llo, h.lG, h.lR, h.lf, h.b⟩), RSq, HBq⟩
          case round =>
            clear STq RSq HBq
            obtain ⟨r, hkr, hrn, rfl, ST, RS, HB⟩ := hrel
            by_cases hrt : r < n
            · have hrt' : (r : Int) < (n : Int) := by omega
              go_wp2
              obtain ⟨wo, hwo⟩ : ∃ x, x = wr := ⟨_, rfl⟩
              subst hwo
              go_loopw [9] (fun jv wr => ∃ j : Nat, k < j ∧ j ≤ n ∧ jv = .int .i64 j ∧ Hid (St7 wz.heap.size wr G w3.heap.size n R (rowTo (stT (swp Mk k k) k l (r - (k + 1))) r k j (stp (swp Mk k k) k l r)) l) ∧ Hid (Rs7 wr w.heap.size) ∧ Hid (Below w.heap.size w wr)) (fun jv _ => n - (intOf jv).toNat)
              case atStart => exact ⟨k + 1, by omega, by omega, by go_num, hide (by have h := unhide ST; exact ⟨h.m.congr (fun r c hr hc => (rowTo_start (Nat.le_refl _) r c).symm), h.llo, h.lG, h.lR, h.lf, h.b⟩), RS, HB⟩
              case round =>
                clear ST RS HB
                obtain ⟨j, hkj, hj, rfl, ST, RS, HB⟩ := hrel
                by_cases hjt : j < n
                · have hjt' : (j : Int) < (n : Int) := by omega
                  obtain ⟨c1, k4_0, _, _⟩ := (unhide ST).m.out k (by omega)
                  obtain ⟨c2, k5_0, _, _⟩ := (unhide ST).m.out r hrt
                  obtain ⟨b0, k0_0, k0_1, o0⟩ := (unhide ST).m.el k k (by omega) (by omega)
                  obtain ⟨b1, k1_0, k1_1, o1⟩ := (unhide ST).m.el r j hrt hjt
                  obtain ⟨b2, k2_0, k2_1, o2⟩ := (unhide ST).m.el r k hrt (by omega)
                  obtain ⟨b3, k3_0, k3_1, o3⟩ := (unhide ST).m.el k j (by omega) hjt
                  have EQ := hide ((unhide HA).exact (unhide HN) hkr hrt hkj hjt)
                  have z1 : rowTo (stT (swp Mk k k) k l (r - (k + 1))) r k j (stp (swp Mk k k) k l r) k k = (swp Mk k k) k k := by unfold rowTo stT; rw [if_neg (by omega), if_neg (by omega)]
                  have z2 : rowTo (stT (swp Mk k k) k l (r - (k + 1))) r k j (stp (swp Mk k k) k l r) r j = (swp Mk k k) r j := by unfold rowTo stT; rw [if_neg (by omega), if_neg (by omega)]
                  have z3 : rowTo (stT (swp Mk k k) k l (r - (k + 1))) r k j (stp (swp Mk k k) k l r) r k = (swp Mk k k) r k := by unfold rowTo stT; rw [if_neg (by omega), if_neg (by omega)]
                  have z4 : rowTo (stT (swp Mk k k) k l (r - (k + 1))) r k j (stp (swp Mk k k) k l r) k j = (swp Mk k k) k j := by unfold rowTo stT; rw [if_neg (by omega), if_neg (by omega)]
                  rw [z1] at o0
                  rw [z2] at o1
                  rw [z3] at o2
                  rw [z4] at o3
                  have hsw : ∀ r j, k ≤ r → r < n → k ≤ j → j < n → Bd ((swp Mk k k) r j) 25 := fun r j a b c d => bd_of_abs (k := k + 1) (by omega) ((unhide HA).abs (sw_ge (Nat.le_refl _) hki a) (sw_lt (by omega) hin b) c d)
                  have d0 := hsw k k (Nat.le_refl _) (by omega) (Nat.le_refl _) (by omega)
                  have d1 := hsw r j (by omega) hrt (by omega) hjt
                  have d2 := hsw r k (by omega) hrt (Nat.le_refl _) (by omega)
                  have d3 := hsw k j (Nat.le_refl _) (by omega) (by omega) hjt
                  clear z1 z2 z3 z4 hsw
                  obtain ⟨QQ, hQQ⟩ : ∃ x, x = stp (swp Mk k k) k l r j := ⟨_, rfl⟩
                  rw [← hQQ] at EQ
                  have HQ := hide hQQ
                  clear hQQ
                  obtain ⟨X0, hX0⟩ : ∃ x, x = (swp Mk k k) k k := ⟨_, rfl⟩
                  obtain ⟨X1, hX1⟩ : ∃ x, x = (swp Mk k k) r j := ⟨_, rfl⟩
                  obtain ⟨X2, hX2⟩ : ∃ x, x = (swp Mk k k) r k := ⟨_, rfl⟩
                  obtain ⟨X3, hX3⟩ : ∃ x, x = (swp Mk k k) k j := ⟨_, rfl⟩
                  rw [← hX0, ← hX1, ← hX2, ← hX3] at EQ
                  rw [← hX0] at o0 d0
                  rw [← hX1] at o1 d1
                  rw [← hX2] at o2 d2
                  rw [← hX3] at o3 d3
                  clear hX0 hX1 hX2 hX3
                  have O0 := hide o0
                  have O1 := hide o1
                  have O2 := hide o2
                  have O3 := hide o3
                  have KB : Hid (Bd X0 400000 ∧ Bd X1 400000 ∧ Bd X2 400000 ∧ Bd X3 400000) := hide ⟨d0.mono (by omega), d1.mono (by omega), d2.mono (by omega), d3.mono (by omega)⟩
                  have BX : Hid (Bd (X0 * X1) 400000 ∧ Bd (X2 * X3) 400000 ∧ Bd (X0 * X1 - X2 * X3) 400000) := hide ⟨(d0.mul d1).mono (by omega), (d2.mul d3).mono (by omega), ((d0.mul d1).sub (d2.mul d3)).mono (by omega)⟩
                  have BL : Hid (Bd l 400000) := hide ((bd_of_abs (k := k) (by omega) ((unhide HA).labs (by omega))).mono (by omega))
                  clear o0 o1 o2 o3 d0 d1 d2 d3
                  have rk := (unhide ST).m.rlo k (by omega)
                  have rr := (unhide ST).m.rlo r hrt
                  have ghi := (unhide ST).m.ghi
                  have lo1 := (unhide ST).llo
                  have lG := (unhide ST).lG
                  have lR := (unhide ST).lR r hrt
                  have HB0 := HB
                  clear HB
                  have HB := hide (Below.refl wr.heap.size wr)
                  go_upto_region 21 with fail
                  go_cut [10] (fun p wx => ∃ (G : Nat) (x : BV), p = .pointer (some ⟨G, 0, none⟩) ∧ Hid (BxB wr wx G x (X0 * X1 - X2 * X3)))
                  case first =>
                    go_region_held3 (fun w' => w'.cell? ⟨G, k, none⟩ = some (.slice (some ⟨R k, 0, none⟩) n c1) ∧ w'.cell? ⟨G, r, none⟩ = some (.slice (some ⟨R r, 0, none⟩) n c2) ∧ w'.cell? ⟨R k, k * 2, none⟩ = some (.bool b0.g) ∧ w'.cell? ⟨R k, k * 2 + 1, none⟩ = some (.slice b0.a b0.n b0.c) ∧ w'.cell? ⟨R r, j * 2, none⟩ = some (.bool b1.g) ∧ w'.cell? ⟨R r, j * 2 + 1, none⟩ = some (.slice b1.a b1.n b1.c) ∧ w'.cell? ⟨R r, k * 2, none⟩ = some (.bool b2.g) ∧ w'.cell? ⟨R r, k * 2 + 1, none⟩ = some (.slice b2.a b2.n b2.c) ∧ w'.cell? ⟨R k, j * 2, none⟩ = some (.bool b3.g) ∧ w'.cell? ⟨R k, j * 2 + 1, none⟩ = some (.slice b3.a b3.n b3.c)) (with_reducible (first | exact ⟨k4_0, k5_0, k0_0, k0_1, k1_0, k1_1, k2_0, k2_1, k3_0, k3_1⟩ | exact ⟨cd_other k4_0, cd_other k5_0, cd_other k0_0, cd_other k0_1, cd_other k1_0, cd_other k1_1, cd_other k2_0, cd_other k2_1, cd_other k3_0, cd_other k3_1⟩ | exact ⟨ca_other k4_0, ca_other k5_0, ca_other k0_0, ca_other k0_1, ca_other k1_0, ca_other k1_1, ca_other k2_0, ca_other k2_1, ca_other k3_0, ca_other k3_1⟩ | exact ⟨cd_other (ca_other k4_0), cd_other (ca_other k5_0), cd_other (ca_other k0_0), cd_other (ca_other k0_1), cd_other (ca_other k1_0), cd_other (ca_other k1_1), cd_other (ca_other k2_0), cd_other (ca_other k2_1), cd_other (ca_other k3_0), cd_other (ca_other k3_1)⟩ | exact ⟨cs_other (cs_other (k4_0) (by omega)) (by omega), cs_other (cs_other (k5_0) (by omega)) (by omega), cs_other (cs_other (k0_0) (by omega)) (by omega), cs_other (cs_other (k0_1) (by omega)) (by omega), cs_other (cs_other (k1_0) (by omega)) (by omega), cs_other (cs_other (k1_1) (by omega)) (by omega), cs_other (cs_other (k2_0) (by omega)) (by omega), cs_other (cs_other (k2_1) (by omega)) (by omega), cs_other (cs_other (k3_0) (by omega)) (by omega), cs_other (cs_other (k3_1) (by omega)) (by omega)⟩ | fail))
                      (first
                      | (go_at_call_of 81 (Value.agg #[Value.bool b0.g, Value.slice b0.a b0.n b0.c]); refine (mulS_v b0 b1 (X0) (X1) _ ?_ ?_ (unhide KB).1 (unhide KB).2.1).mono ?_; (first | exact (unhide O0).is.later (Below.refl _ _).drew | exact (unhide O0).is.later ((Below.refl _ _).alloc (Nat.le_refl _) _).drew); (first | exact (unhide O1).is.later (Below.refl _ _).drew | exact (unhide O1).is.later ((Below.refl _ _).alloc (Nat.le_refl _) _).drew); rintro e w11 ⟨x1, lx1, rfl, hb, ox1, ax1, nx1⟩; have hbx : Below wr.heap.size wr w11 := (by first | exact below_of_drew hb | exact bad hb); have szw11 := hbx.size; replace k0_0 := cell_later hbx k0_0; replace k0_1 := cell_later hbx k0_1; replace k1_0 := cell_later hbx k1_0; replace k1_1 := cell_later hbx k1_1; replace k2_0 := cell_later hbx k2_0; replace k2_1 := cell_later hbx k2_1; replace k3_0 := cell_later hbx k3_0; replace k3_1 := cell_later hbx k3_1; replace k4_0 := cell_later hbx k4_0; replace k5_0 := cell_later hbx k5_0; replace O0 := hide ((unhide O0).later hbx); replace O1 := hide ((unhide O1).later hbx); replace O2 := hide ((unhide O2).later hbx); replace O3 := hide ((unhide O3).later hbx); have Px1 := hide (outN_ow ox1 ax1 nx1); (try (replace gf := fun o => frozen_later hbx (World.block_lt_of_cell? _ _ g0) (gf o); replace g0 := cell_later hbx g0; replace g1 := cell_later hbx g1)); (try (refine cutP (p := w11.cell? ⟨wr.heap.size, 0, none⟩ = some (.bool false) ∧ w11.cell? ⟨wr.heap.size, 1, none⟩ = some (.slice none 0 0) ∧ ∀ o, w11.frozen? ⟨wr.heap.size, o, none⟩ = false) ?_ (fun dd => ?_); (focus (refine ⟨cell_later hb ?_, cell_later hb ?_, fun o => frozen_later hb ?_ ?_⟩ <;> (simp [go_sem]; done))); obtain ⟨g0, g1, gf⟩ := dd)); have zz := hb.size; (try simp at zz); have HBr := hide hbx; clear hbx hb ox1 ax1 nx1)
                      | (go_at_call_of 81 (Value.agg #[Value.bool b2.g, Value.slice b2.a b2.n b2.c]); refine (mulS_v b2 b3 (X2) (X3) _ ?_ ?_ (unhide KB).2.2.1 (unhide KB).2.2.2).mono ?_; (first | exact (unhide O2).is.later (Below.refl _ _) | exact (unhide O2).is.later ((Below.refl _ _).alloc (Nat.le_refl _) _)); (first | exact (unhide O3).is.later (Below.refl _ _) | exact (unhide O3).is.later ((Below.refl _ _).alloc (Nat.le_refl _) _)); rintro e w12 ⟨x2, lx2, rfl, hb, ox2, ax2, nx2⟩; have hbx : Below w11.heap.size w11 w12 := (by first | exact hb | exact ba hb); have szw12 := hbx.size; replace k0_0 := cell_later hbx k0_0; replace k0_1 := cell_later hbx k0_1; replace k1_0 := cell_later hbx k1_0; replace k1_1 := cell_later hbx k1_1; replace k2_0 := cell_later hbx k2_0; replace k2_1 := cell_later hbx k2_1; replace k3_0 := cell_later hbx k3_0; replace k3_1 := cell_later hbx k3_1; replace k4_0 := cell_later hbx k4_0; replace k5_0 := cell_later hbx k5_0; replace O0 := hide ((unhide O0).later hbx); replace O1 := hide ((unhide O1).later hbx); replace O2 := hide ((unhide O2).later hbx); replace O3 := hide ((unhide O3).later hbx); replace Px1 := hide ((unhide Px1).later hbx); have Px2 := hide (outN_ow ox2 ax2 nx2); (try (replace gf := fun o => frozen_later hbx (World.block_lt_of_cell? _ _ g0) (gf o); replace g0 := cell_later hbx g0; replace g1 := cell_later hbx g1)); (try (refine cutP (p := w12.cell? ⟨w11.heap.size, 0, none⟩ = some (.bool false) ∧ w12.cell? ⟨w11.heap.size, 1, none⟩ = some (.slice none 0 0) ∧ ∀ o, w12.frozen? ⟨w11.heap.size, o, none⟩ = false) ?_ (fun dd => ?_); (focus (refine ⟨cell_later hb ?_, cell_later hb ?_, fun o => frozen_later hb ?_ ?_⟩ <;> (simp [go_sem]; done))); obtain ⟨g0, g1, gf⟩ := dd)); have zz := hb.size; (try simp at zz); have HBr := hide (below_on (unhide HBr) hbx); clear hbx hb ox2 ax2 nx2)
                      | (go_at_call 80; refine (subS_v x1 x2 (X0 * X1) (X2 * X3) _ ?_ ?_ (unhide BX).1 (unhide BX).2.1).mono ?_; (first | exact (unhide Px1).is.later (Below.refl _ _) | exact (unhide Px1).is.later ((Below.refl _ _).alloc (Nat.le_refl _) _)); (first | exact (unhide Px2).is.later (Below.refl _ _) | exact (unhide Px2).is.later ((Below.refl _ _).alloc (Nat.le_refl _) _)); rintro e w13 ⟨x3, lx3, rfl, hb, ox3, ax3, nx3⟩; have hbx : Below w12.heap.size w12 w13 := (by first | exact hb | exact ba hb); have szw13 := hbx.size; replace k0_0 := cell_later hbx k0_0; replace k0_1 := cell_later hbx k0_1; replace k1_0 := cell_later hbx k1_0; replace k1_1 := cell_later hbx k1_1; replace k2_0 := cell_later hbx k2_0; replace k2_1 := cell_later hbx k2_1; replace k3_0 := cell_later hbx k3_0; replace k3_1 := cell_later hbx k3_1; replace k4_0 := cell_later hbx k4_0; replace k5_0 := cell_later hbx k5_0; replace O0 := hide ((unhide O0).later hbx); replace O1 := hide ((unhide O1).later hbx); replace O2 := hide ((unhide O2).later hbx); replace O3 := hide ((unhide O3).later hbx); replace Px1 := hide ((unhide Px1).later hbx); replace Px2 := hide ((unhide Px2).later hbx); have Px3 := hide (outN_ow ox3 ax3 nx3); (try (replace gf := fun o => frozen_later hbx (World.block_lt_of_cell? _ _ g0) (gf o); replace g0 := cell_later hbx g0; replace g1 := cell_later hbx g1)); (try (refine cutP (p := w13.cell? ⟨w12.heap.size, 0, none⟩ = some (.bool false) ∧ w13.cell? ⟨w12.heap.size, 1, none⟩ = some (.slice none 0 0) ∧ ∀ o, w13.frozen? ⟨w12.heap.size, o, none⟩ = false) ?_ (fun dd => ?_); (focus (refine ⟨cell_later hb ?_, cell_later hb ?_, fun o => frozen_later hb ?_ ?_⟩ <;> (simp [go_sem]; done))); obtain ⟨g0, g1, gf⟩ := dd)); have zz := hb.size; (try simp at zz); have HBr := hide (below_on (unhide HBr) hbx); clear hbx hb ox3 ax3 nx3))
                    all_goals go_wp2_with fail
                    all_goals go_meet
                    all_goals first
                      | (refine ⟨_, x3, rfl, hide (bxB_alloc 27 (unhide HBr) (unhide Px3) ?_)⟩; omega)
                      | (refine ⟨_, x3, rfl, hide (bxB_set (unhide HBr) (unhide Px3) ?_ ?_ g0 g1)⟩ <;> first | omega | (simp; done) | (simp; omega))
                  case rest =>
                    obtain ⟨Gb, xGb, rfl, HGb⟩ := hcut
                    have hb := (unhide HGb).bel
                    have loGb := (unhide HGb).lo
                    have hiGb := (unhide HGb).hi
                    clear k0_0 k0_1 k1_0 k1_1 k2_0 k2_1 k3_0 k3_1 k4_0 k5_0
                    replace O0 := hide ((unhide O0).later hb)
                    replace O1 := hide ((unhide O1).later hb)
                    replace O2 := hide ((unhide O2).later hb)
                    replace O3 := hide ((unhide O3).later hb)
                    have OGb := hide ((unhide HGb).ow)
                    replace HB := hide (below_on (unhide HB) hb)
                    clear hb
                    have k6_0 := (unhide HGb).c0
                    have k6_1 := (unhide HGb).c1
                    clear HGb
                    have STc := hide ((unhide ST).later (unhide HB))
                    have RSc := hide ((unhide RS).later (unhide HB))
                    have HBc := hide (below_on (unhide HB0) (unhide HB))
                    obtain ⟨lb, q1, q2, ol⟩ := (unhide STc).b
                    have OL := hide ol
                    clear ST RS HB0 ol O0 O1 O2 O3
                    go_wp2_with fail
                    refine (divS_v xGb lb _ l _ (unhide OGb).is (unhide OL).is (unhide HA).lnz (unhide BX).2.2 (unhide BL)).mono ?_
                    rintro e w5 ⟨x, y, rfl, hb, ox, oy⟩
                    rw [quo_exact (unhide HA).lnz (unhide EQ)] at ox
                    have OX := hide ox
                    have ST5 := hide ((unhide STc).later hb)
                    have RS5 := hide ((unhide RSc).later hb)
                    have HB5 := hide (below_on (unhide HBc) hb)
                    have szc := (unhide HB).size
                    have sz5 := hb.size
                    clear hb ox oy STc RSc HBc q1 q2 OL
                    go_upto_region 23 with fail
                    have hb6 : Below w5.heap.size w5 ((w5.alloc (.cells #[.bool x.g, .slice x.a x.n x.c] 27)).alloc (.cells #[.bool y.g, .slice y.a y.n y.c] 27)) := ((Below.refl _ _).alloc (by simp) _).alloc (by simp) _
                    have m0 : ((w5.alloc (.cells #[.bool x.g, .slice x.a x.n x.c] 27)).alloc (.cells #[.bool y.g, .slice y.a y.n y.c] 27)).cell? ⟨w5.heap.size, 0, none⟩ = some (.bool x.g) := by simp [go_sem]
                    have m1 : ((w5.alloc (.cells #[.bool x.g, .slice x.a x.n x.c] 27)).alloc (.cells #[.bool y.g, .slice y.a y.n y.c] 27)).cell? ⟨w5.heap.size, 1, none⟩ = some (.slice x.a x.n x.c) := by simp [go_sem]
                    have ST6 := hide ((unhide ST5).later hb6)
                    have RS6 := hide ((unhide RS5).later hb6)
                    have HB6 := hide (below_on (unhide HB5) hb6)
                    have OX6 := hide (((unhide OX).later hb6).wide (show wz.heap.size ≤ wc.heap.size by omega) hb6.size)
                    have rr6 := (unhide ST5).m.rlo r hrt
                    clear ST5 RS5 HB5 OX hb6
                    generalize (w5.alloc (.cells #[.bool x.g, .slice x.a x.n x.c] 27)).alloc (.cells #[.bool y.g, .slice y.a y.n y.c] 27) = w6 at *
                    obtain ⟨c2', m2, _, _⟩ := (unhide ST6).m.out r hrt
                    obtain ⟨bv, m3, m4, _⟩ := (unhide ST6).m.el r j hrt hjt
                    have fr := (unhide ST6).m.rfz r hrt
                    have n1 : G ≠ R r := fun e => rr.2.2 e.symm
                    have n2 : w5.heap.size ≠ R r := by omega
                    go_region_held3 (fun w' => w'.cell? ⟨G, r, none⟩ = some (.slice (some ⟨R r, 0, none⟩) n c2') ∧ w'.cell? ⟨w5.heap.size, 0, none⟩ = some (.bool x.g) ∧ w'.cell? ⟨w5.heap.size, 1, none⟩ = some (.slice x.a x.n x.c)) (with_reducible (first | exact ⟨m2, m0, m1⟩ | exact ⟨cd_other m2, cd_other m0, cd_other m1⟩ | exact ⟨cs_other (cs_other (m2) n1) n1, cs_other (cs_other (m0) n2) n2, cs_other (cs_other (m1) n2) n2⟩ | exact ⟨cd_other (cs_other (cs_other (m2) n1) n1), cd_other (cs_other (cs_other (m0) n2) n2), cd_other (cs_other (cs_other (m1) n2) n2)⟩ | exact ⟨cs_other (cs_other (cd_other m2) n1) n1, cs_other (cs_other (cd_other m0) n2) n2, cs_other (cs_other (cd_other m1) n2) n2⟩ | fail)) (fail)
                    clear m0 m1 m2
                    go_wp2
                    go_roundw
                    case rel =>
                      have bt : But (R r) (R r + 1) w6 ((w6.setCell ⟨R r, j * 2, none⟩ (.bool x.g)).setCell ⟨R r, j * 2 + 1, none⟩ (.slice x.a x.n x.c)) := but_row7
                      have hd : Below ((w6.setCell ⟨R r, j * 2, none⟩ (.bool x.g)).setCell ⟨R r, j * 2 + 1, none⟩ (.slice x.a x.n x.c)).heap.size ((w6.setCell ⟨R r, j * 2, none⟩ (.bool x.g)).setCell ⟨R r, j * 2 + 1, none⟩ (.slice x.a x.n x.c)) ((w6.setCell ⟨R r, j * 2, none⟩ (.bool x.g)).setCell ⟨R r, j * 2 + 1, none⟩ (.slice x.a x.n x.c)).drew := (Below.refl _ _).drew
                      have hm := ((unhide ST6).m.set hrt hjt (unhide OX6))
                      refine ⟨j + 1, by omega, by omega, by go_num, hide (((unhide ST6).row hrt bt (hm.congr (fun r' c hr hc => ?_))).later hd), hide (((unhide RS6).but bt (by omega)).later hd), hide ((bt.below (unhide HB6) (by omega) (unhide HB6).size).drew)⟩
                      rw [unhide HQ]
                      exact rowTo_next hkj r' c
                    case measure => simp [intOf]; omega
                · obtain rfl : j = n := by omega
                  go_wp2
                  go_roundw
                  case rel => exact ⟨r + 1, by omega, by omega, by go_num, hide (by have h := unhide ST; exact ⟨h.m.congr (stT_row (c' := 0) hkr), h.llo, h.lG, h.lR, h.lf, h.b⟩), RS, HB⟩
                  case measure => simp [intOf]; omega
            · obtain rfl : n = r := by omega
              have STt := ST
              have RSt := RS
              have HBt := HB
              clear ST RS HB
              obtain ⟨wt, hwt⟩ : ∃ x, x = wr := ⟨_, rfl⟩
              subst hwt
              have lo1 := (unhide STt).llo
              obtain ⟨ck, p0, _, _⟩ := (unhide STt).m.out k (by omega)
              obtain ⟨bk, p1, p2, ok⟩ := (unhide STt).m.el k k (by omega) (by omega)
              obtain ⟨lb, q1, q2, _⟩ := (unhide STt).b
              have lf := (unhide STt).lf
              have OK : Hid (Ow wz.heap.size wt.heap.size wt bk (Mk k k)) := hide (by
                rw [show stT (swp Mk k k) k l (n - (k + 1)) k k = Mk k k by unfold stT; rw [if_neg (by omega)]; unfold swp sw; rw [if_pos rfl]] at ok
                exact ok)
              clear ok
              go_wp2
              go_roundw
              case rel =>
                have bt := metB_but (w5 := wt) (v := bk) (G := w3.heap.size)
                refine ⟨k + 1, R, stp (swp Mk k k) k l, Mk k k, _, by omega, rfl, by go_num, hide (by rw [bst_next (unhide HS), unhide HN]; simp only [unhide EG]), hide ?_, hide ((unhide RSt).but bt (by omega)), hide (bt.below (unhide HBt) (by omega) (unhide HBt).size)⟩
                have h2 := (unhide STt).last (unhide OK)
                exact ⟨h2.m.congr (fun r c hr hc => by
                  unfold stT
                  by_cases y : k < r ∧ k < c
                  · rw [if_pos ⟨y.1, by omega, y.2⟩]
                  · rw [if_neg (fun h => y ⟨h.1, h.2.2⟩)]; unfold stp; rw [if_neg y]), h2.llo, h2.lG, h2.lR, h2.lf, h2.b⟩
              case measure => simp [intOf]; omega
        · have hki2 : k ≠ i := fun e => hik e.symm
          have hin' : (i : Int) < (n : Int) := by omega
          have hkn' : (k : Int) < (n : Int) := by omega
          have e0 : ¬ (i : Int) = (k : Int) := by omega
          have e1 : ((i : Int) != (k : Int)) = true := by simp; omega
          obtain ⟨c1, E1, m1⟩ := (unhide ST).m.out i hin
          obtain ⟨c2, E2, m2⟩ := (unhide ST).m.out k (by omega)
          have gf := (unhide ST).m.gfz
          have hH : w.heap.size ≠ G := by omega
          have STq : Hid (∃ R', St7 wz.heap.size ((w5.setCell ⟨G, k, none⟩ (.slice (some ⟨R i, 0, none⟩) n c1)).setCell ⟨G, i, none⟩ (.slice (some ⟨R k, 0, none⟩) n c2)) G w3.heap.size n R' (swp Mk k i) l) := hide ⟨_, (unhide ST).swap (by omega) hin hki2 E1 E2 m1 m2⟩
          have RSq : Hid (Rs7 ((w5.setCell ⟨G, k, none⟩ (.slice (some ⟨R i, 0, none⟩) n c1)).setCell ⟨G, i, none⟩ (.slice (some ⟨R k, 0, none⟩) n c2)) w.heap.size) := hide ((unhide RS).but but_two hH)
          have HBq : Hid (Below w.heap.size w ((w5.setCell ⟨G, k, none⟩ (.slice (some ⟨R i, 0, none⟩) n c1)).setCell ⟨G, i, none⟩ (.slice (some ⟨R k, 0, none⟩) n c2))) := hide (but_two.below (unhide HB) (by omega) (unhide HB).size)
          have EG : Hid ((if i = k then g else !g) = !g) := hide (by rw [if_neg hik])
          go_upto_region 15 with fail
          clear E1 E2 gf ST RS HB m1 m2
          generalize (w5.setCell ⟨G, k, none⟩ (.slice (some ⟨R i, 0, none⟩) n c1)).setCell ⟨G, i, none⟩ (.slice (some ⟨R k, 0, none⟩) n c2) = wq at *
          obtain ⟨R', hsq⟩ := unhide STq
          clear STq
          have STq := hide hsq
          clear hsq
          go_wp2
          go_loopw [8] (fun rv wr => ∃ r : Nat, k < r ∧ r ≤ n ∧ rv = .int .i64 r ∧ Hid (St7 wz.heap.size wr G w3.heap.size n R' (stT (swp Mk k i) k l (r - (k + 1))) l) ∧ Hid (Rs7 wr w.heap.size) ∧ Hid (Below w.heap.size w wr)) (fun rv _ => n - (intOf rv).toNat)
          case atStart => exact ⟨k + 1, by omega, by omega, by go_num, hide (by have h := unhide STq; exact ⟨h.m.congr (fun r c hr hc => by unfold stT; rw [if_neg (by omega)]), h.llo, h.lG, h.lR, h.lf, h.b⟩), RSq, HBq⟩
          case round =>
            clear STq RSq HBq
            obtain ⟨r, hkr, hrn, rfl, ST, RS, HB⟩ := hrel
            by_cases hrt : r < n
            · have hrt' : (r : Int) < (n : Int) := by omega
              go_wp2
              obtain ⟨wo, hwo⟩ : ∃ x, x = wr := ⟨_, rfl⟩
              subst hwo
              go_loopw [9] (fun jv wr => ∃ j : Nat, k < j ∧ j ≤ n ∧ jv = .int .i64 j ∧ Hid (St7 wz.heap.size wr G w3.heap.size n R' (rowTo (stT (swp Mk k i) k l (r - (k + 1))) r k j (stp (swp Mk k i) k l r)) l) ∧ Hid (Rs7 wr w.heap.size) ∧ Hid (Below w.heap.size w wr)) (fun jv _ => n - (intOf jv).toNat)
              case atStart => exact ⟨k + 1, by omega, by omega, by go_num, hide (by have h := unhide ST; exact ⟨h.m.congr (fun r c hr hc => (rowTo_start (Nat.le_refl _) r c).symm), h.llo, h.lG, h.lR, h.lf, h.b⟩), RS, HB⟩
              case round =>
                clear ST RS HB
                obtain ⟨j, hkj, hj, rfl, ST, RS, HB⟩ := hrel
                by_cases hjt : j < n
                · have hjt' : (j : Int) < (n : Int) := by omega
                  obtain ⟨c1, k4_0, _, _⟩ := (unhide ST).m.out k (by omega)
                  obtain ⟨c2, k5_0, _, _⟩ := (unhide ST).m.out r hrt
                  obtain ⟨b0, k0_0, k0_1, o0⟩ := (unhide ST).m.el k k (by omega) (by omega)
                  obtain ⟨b1, k1_0, k1_1, o1⟩ := (unhide ST).m.el r j hrt hjt
                  obtain ⟨b2, k2_0, k2_1, o2⟩ := (unhide ST).m.el r k hrt (by omega)
                  obtain ⟨b3, k3_0, k3_1, o3⟩ := (unhide ST).m.el k j (by omega) hjt
                  have EQ := hide ((unhide HA).exact (unhide HN) hkr hrt hkj hjt)
                  have z1 : rowTo (stT (swp Mk k i) k l (r - (k + 1))) r k j (stp (swp Mk k i) k l r) k k = (swp Mk k i) k k := by unfold rowTo stT; rw [if_neg (by omega), if_neg (by omega)]
                  have z2 : rowTo (stT (swp Mk k i) k l (r - (k + 1))) r k j (stp (swp Mk k i) k l r) r j = (swp Mk k i) r j := by unfold rowTo stT; rw [if_neg (by omega), if_neg (by omega)]
                  have z3 : rowTo (stT (swp Mk k i) k l (r - (k + 1))) r k j (stp (swp Mk k i) k l r) r k = (swp Mk k i) r k := by unfold rowTo stT; rw [if_neg (by omega), if_neg (by omega)]
                  have z4 : rowTo (stT (swp Mk k i) k l (r - (k + 1))) r k j (stp (swp Mk k i) k l r) k j = (swp Mk k i) k j := by unfold rowTo stT; rw [if_neg (by omega), if_neg (by omega)]
                  rw [z1] at o0
                  rw [z2] at o1
                  rw [z3] at o2
                  rw [z4] at o3
                  have hsw : ∀ r j, k ≤ r → r < n → k ≤ j → j < n → Bd ((swp Mk k i) r j) 25 := fun r j a b c d => bd_of_abs (k := k + 1) (by omega) ((unhide HA).abs (sw_ge (Nat.le_refl _) hki a) (sw_lt (by omega) hin b) c d)
                  have d0 := hsw k k (Nat.le_refl _) (by omega) (Nat.le_refl _) (by omega)
                  have d1 := hsw r j (by omega) hrt (by omega) hjt
                  have d2 := hsw r k (by omega) hrt (Nat.le_refl _) (by omega)
                  have d3 := hsw k j (Nat.le_refl _) (by omega) (by omega) hjt
                  clear z1 z2 z3 z4 hsw
                  obtain ⟨QQ, hQQ⟩ : ∃ x, x = stp (swp Mk k i) k l r j := ⟨_, rfl⟩
                  rw [← hQQ] at EQ
                  have HQ := hide hQQ
                  clear hQQ
                  obtain ⟨X0, hX0⟩ : ∃ x, x = (swp Mk k i) k k := ⟨_, rfl⟩
                  obtain ⟨X1, hX1⟩ : ∃ x, x = (swp Mk k i) r j := ⟨_, rfl⟩
                  obtain ⟨X2, hX2⟩ : ∃ x, x = (swp Mk k i) r k := ⟨_, rfl⟩
                  obtain ⟨X3, hX3⟩ : ∃ x, x = (swp Mk k i) k j := ⟨_, rfl⟩
                  rw [← hX0, ← hX1, ← hX2, ← hX3] at EQ
                  rw [← hX0] at o0 d0
                  rw [← hX1] at o1 d1
                  rw [← hX2] at o2 d2
                  rw [← hX3] at o3 d3
                  clear hX0 hX1 hX2 hX3
                  have O0 := hide o0
                  have O1 := hide o1
                  have O2 := hide o2
                  have O3 := hide o3
                  have KB : Hid (Bd X0 400000 ∧ Bd X1 400000 ∧ Bd X2 400000 ∧ Bd X3 400000) := hide ⟨d0.mono (by omega), d1.mono (by omega), d2.mono (by omega), d3.mono (by omega)⟩
                  have BX : Hid (Bd (X0 * X1) 400000 ∧ Bd (X2 * X3) 400000 ∧ Bd (X0 * X1 - X2 * X3) 400000) := hide ⟨(d0.mul d1).mono (by omega), (d2.mul d3).mono (by omega), ((d0.mul d1).sub (d2.mul d3)).mono (by omega)⟩
                  have BL : Hid (Bd l 400000) := hide ((bd_of_abs (k := k) (by omega) ((unhide HA).labs (by omega))).mono (by omega))
                  clear o0 o1 o2 o3 d0 d1 d2 d3
                  have rk := (unhide ST).m.rlo k (by omega)
                  have rr := (unhide ST).m.rlo r hrt
                  have ghi := (unhide ST).m.ghi
                  have lo1 := (unhide ST).llo
                  have lG := (unhide ST).lG
                  have lR := (unhide ST).lR r hrt
                  have HB0 := HB
                  clear HB
                  have HB := hide (Below.refl wr.heap.size wr)
                  go_upto_region 21 with fail
                  go_cut [10] (fun p wx => ∃ (G : Nat) (x : BV), p = .pointer (some ⟨G, 0, none⟩) ∧ Hid (BxB wr wx G x (X0 * X1 - X2 * X3)))
                  case first =>
                    go_region_held3 (fun w' => w'.cell? ⟨G, k, none⟩ = some (.slice (some ⟨R' k, 0, none⟩) n c1) ∧ w'.cell? ⟨G, r, none⟩ = some (.slice (some ⟨R' r, 0, none⟩) n c2) ∧ w'.cell? ⟨R' k, k * 2, none⟩ = some (.bool b0.g) ∧ w'.cell? ⟨R' k, k * 2 + 1, none⟩ = some (.slice b0.a b0.n b0.c) ∧ w'.cell? ⟨R' r, j * 2, none⟩ = some (.bool b1.g) ∧ w'.cell? ⟨R' r, j * 2 + 1, none⟩ = some (.slice b1.a b1.n b1.c) ∧ w'.cell? ⟨R' r, k * 2, none⟩ = some (.bool b2.g) ∧ w'.cell? ⟨R' r, k * 2 + 1, none⟩ = some (.slice b2.a b2.n b2.c) ∧ w'.cell? ⟨R' k, j * 2, none⟩ = some (.bool b3.g) ∧ w'.cell? ⟨R' k, j * 2 + 1, none⟩ = some (.slice b3.a b3.n b3.c)) (with_reducible (first | exact ⟨k4_0, k5_0, k0_0, k0_1, k1_0, k1_1, k2_0, k2_1, k3_0, k3_1⟩ | exact ⟨cd_other k4_0, cd_other k5_0, cd_other k0_0, cd_other k0_1, cd_other k1_0, cd_other k1_1, cd_other k2_0, cd_other k2_1, cd_other k3_0, cd_other k3_1⟩ | exact ⟨ca_other k4_0, ca_other k5_0, ca_other k0_0, ca_other k0_1, ca_other k1_0, ca_other k1_1, ca_other k2_0, ca_other k2_1, ca_other k3_0, ca_other k3_1⟩ | exact ⟨cd_other (ca_other k4_0), cd_other (ca_other k5_0), cd_other (ca_other k0_0), cd_other (ca_other k0_1), cd_other (ca_other k1_0), cd_other (ca_other k1_1), cd_other (ca_other k2_0), cd_other (ca_other k2_1), cd_other (ca_other k3_0), cd_other (ca_other k3_1)⟩ | exact ⟨cs_other (cs_other (k4_0) (by omega)) (by omega), cs_other (cs_other (k5_0) (by omega)) (by omega), cs_other (cs_other (k0_0) (by omega)) (by omega), cs_other (cs_other (k0_1) (by omega)) (by omega), cs_other (cs_other (k1_0) (by omega)) (by omega), cs_other (cs_other (k1_1) (by omega)) (by omega), cs_other (cs_other (k2_0) (by omega)) (by omega), cs_other (cs_other (k2_1) (by omega)) (by omega), cs_other (cs_other (k3_0) (by omega)) (by omega), cs_other (cs_other (k3_1) (by omega)) (by omega)⟩ | fail))
                      (first
                      | (go_at_call_of 81 (Value.agg #[Value.bool b0.g, Value.slice b0.a b0.n b0.c]); refine (mulS_v b0 b1 (X0) (X1) _ ?_ ?_ (unhide KB).1 (unhide KB).2.1).mono ?_; (first | exact (unhide O0).is.later (Below.refl _ _).drew | exact (unhide O0).is.later ((Below.refl _ _).alloc (Nat.le_refl _) _).drew); (first | exact (unhide O1).is.later (Below.refl _ _).drew | exact (unhide O1).is.later ((Below.refl _ _).alloc (Nat.le_refl _) _).drew); rintro e w11 ⟨x1, lx1, rfl, hb, ox1, ax1, nx1⟩; have hbx : Below wr.heap.size wr w11 := (by first | exact below_of_drew hb | exact bad hb); have szw11 := hbx.size; replace k0_0 := cell_later hbx k0_0; replace k0_1 := cell_later hbx k0_1; replace k1_0 := cell_later hbx k1_0; replace k1_1 := cell_later hbx k1_1; replace k2_0 := cell_later hbx k2_0; replace k2_1 := cell_later hbx k2_1; replace k3_0 := cell_later hbx k3_0; replace k3_1 := cell_later hbx k3_1; replace k4_0 := cell_later hbx k4_0; replace k5_0 := cell_later hbx k5_0; replace O0 := hide ((unhide O0).later hbx); replace O1 := hide ((unhide O1).later hbx); replace O2 := hide ((unhide O2).later hbx); replace O3 := hide ((unhide O3).later hbx); have Px1 := hide (outN_ow ox1 ax1 nx1); (try (replace gf := fun o => frozen_later hbx (World.block_lt_of_cell? _ _ g0) (gf o); replace g0 := cell_later hbx g0; replace g1 := cell_later hbx g1)); (try (refine cutP (p := w11.cell? ⟨wr.heap.size, 0, none⟩ = some (.bool false) ∧ w11.cell? ⟨wr.heap.size, 1, none⟩ = some (.slice none 0 0) ∧ ∀ o, w11.frozen? ⟨wr.heap.size, o, none⟩ = false) ?_ (fun dd => ?_); (focus (refine ⟨cell_later hb ?_, cell_later hb ?_, fun o => frozen_later hb ?_ ?_⟩ <;> (simp [go_sem]; done))); obtain ⟨g0, g1, gf⟩ := dd)); have zz := hb.size; (try simp at zz); have HBr := hide hbx; clear hbx hb ox1 ax1 nx1)
                      | (go_at_call_of 81 (Value.agg #[Value.bool b2.g, Value.slice b2.a b2.n b2.c]); refine (mulS_v b2 b3 (X2) (X3) _ ?_ ?_ (unhide KB).2.2.1 (unhide KB).2.2.2).mono ?_; (first | exact (unhide O2).is.later (Below.refl _ _) | exact (unhide O2).is.later ((Below.refl _ _).alloc (Nat.le_refl _) _)); (first | exact (unhide O3).is.later (Below.refl _ _) | exact (unhide O3).is.later ((Below.refl _ _).alloc (Nat.le_refl _) _)); rintro e w12 ⟨x2, lx2, rfl, hb, ox2, ax2, nx2⟩; have hbx : Below w11.heap.size w11 w12 := (by first | exact hb | exact ba hb); have szw12 := hbx.size; replace k0_0 := cell_later hbx k0_0; replace k0_1 := cell_later hbx k0_1; replace k1_0 := cell_later hbx k1_0; replace k1_1 := cell_later hbx k1_1; replace k2_0 := cell_later hbx k2_0; replace k2_1 := cell_later hbx k2_1; replace k3_0 := cell_later hbx k3_0; replace k3_1 := cell_later hbx k3_1; replace k4_0 := cell_later hbx k4_0; replace k5_0 := cell_later hbx k5_0; replace O0 := hide ((unhide O0).later hbx); replace O1 := hide ((unhide O1).later hbx); replace O2 := hide ((unhide O2).later hbx); replace O3 := hide ((unhide O3).later hbx); replace Px1 := hide ((unhide Px1).later hbx); have Px2 := hide (outN_ow ox2 ax2 nx2); (try (replace gf := fun o => frozen_later hbx (World.block_lt_of_cell? _ _ g0) (gf o); replace g0 := cell_later hbx g0; replace g1 := cell_later hbx g1)); (try (refine cutP (p := w12.cell? ⟨w11.heap.size, 0, none⟩ = some (.bool false) ∧ w12.cell? ⟨w11.heap.size, 1, none⟩ = some (.slice none 0 0) ∧ ∀ o, w12.frozen? ⟨w11.heap.size, o, none⟩ = false) ?_ (fun dd => ?_); (focus (refine ⟨cell_later hb ?_, cell_later hb ?_, fun o => frozen_later hb ?_ ?_⟩ <;> (simp [go_sem]; done))); obtain ⟨g0, g1, gf⟩ := dd)); have zz := hb.size; (try simp at zz); have HBr := hide (below_on (unhide HBr) hbx); clear hbx hb ox2 ax2 nx2)
                      | (go_at_call 80; refine (subS_v x1 x2 (X0 * X1) (X2 * X3) _ ?_ ?_ (unhide BX).1 (unhide BX).2.1).mono ?_; (first | exact (unhide Px1).is.later (Below.refl _ _) | exact (unhide Px1).is.later ((Below.refl _ _).alloc (Nat.le_refl _) _)); (first | exact (unhide Px2).is.later (Below.refl _ _) | exact (unhide Px2).is.later ((Below.refl _ _).alloc (Nat.le_refl _) _)); rintro e w13 ⟨x3, lx3, rfl, hb, ox3, ax3, nx3⟩; have hbx : Below w12.heap.size w12 w13 := (by first | exact hb | exact ba hb); have szw13 := hbx.size; replace k0_0 := cell_later hbx k0_0; replace k0_1 := cell_later hbx k0_1; replace k1_0 := cell_later hbx k1_0; replace k1_1 := cell_later hbx k1_1; replace k2_0 := cell_later hbx k2_0; replace k2_1 := cell_later hbx k2_1; replace k3_0 := cell_later hbx k3_0; replace k3_1 := cell_later hbx k3_1; replace k4_0 := cell_later hbx k4_0; replace k5_0 := cell_later hbx k5_0; replace O0 := hide ((unhide O0).later hbx); replace O1 := hide ((unhide O1).later hbx); replace O2 := hide ((unhide O2).later hbx); replace O3 := hide ((unhide O3).later hbx); replace Px1 := hide ((unhide Px1).later hbx); replace Px2 := hide ((unhide Px2).later hbx); have Px3 := hide (outN_ow ox3 ax3 nx3); (try (replace gf := fun o => frozen_later hbx (World.block_lt_of_cell? _ _ g0) (gf o); replace g0 := cell_later hbx g0; replace g1 := cell_later hbx g1)); (try (refine cutP (p := w13.cell? ⟨w12.heap.size, 0, none⟩ = some (.bool false) ∧ w13.cell? ⟨w12.heap.size, 1, none⟩ = some (.slice none 0 0) ∧ ∀ o, w13.frozen? ⟨w12.heap.size, o, none⟩ = false) ?_ (fun dd => ?_); (focus (refine ⟨cell_later hb ?_, cell_later hb ?_, fun o => frozen_later hb ?_ ?_⟩ <;> (simp [go_sem]; done))); obtain ⟨g0, g1, gf⟩ := dd)); have zz := hb.size; (try simp at zz); have HBr := hide (below_on (unhide HBr) hbx); clear hbx hb ox3 ax3 nx3))
                    all_goals go_wp2_with fail
                    all_goals go_meet
                    all_goals first
                      | (refine ⟨_, x3, rfl, hide (bxB_alloc 27 (unhide HBr) (unhide Px3) ?_)⟩; omega)
                      | (refine ⟨_, x3, rfl, hide (bxB_set (unhide HBr) (unhide Px3) ?_ ?_ g0 g1)⟩ <;> first | omega | (simp; done) | (simp; omega))
                  case rest =>
                    obtain ⟨Gb, xGb, rfl, HGb⟩ := hcut
                    have hb := (unhide HGb).bel
                    have loGb := (unhide HGb).lo
                    have hiGb := (unhide HGb).hi
                    clear k0_0 k0_1 k1_0 k1_1 k2_0 k2_1 k3_0 k3_1 k4_0 k5_0
                    replace O0 := hide ((unhide O0).later hb)
                    replace O1 := hide ((unhide O1).later hb)
                    replace O2 := hide ((unhide O2).later hb)
                    replace O3 := hide ((unhide O3).later hb)
                    have OGb := hide ((unhide HGb).ow)
                    replace HB := hide (below_on (unhide HB) hb)
                    clear hb
                    have k6_0 := (unhide HGb).c0
                    have k6_1 := (unhide HGb).c1
                    clear HGb
                    have STc := hide ((unhide ST).later (unhide HB))
                    have RSc := hide ((unhide RS).later (unhide HB))
                    have HBc := hide (below_on (unhide HB0) (unhide HB))
                    obtain ⟨lb, q1, q2, ol⟩ := (unhide STc).b
                    have OL := hide ol
                    clear ST RS HB0 ol O0 O1 O2 O3
                    go_wp2_with fail
                    refine (divS_v xGb lb _ l _ (unhide OGb).is (unhide OL).is (unhide HA).lnz (unhide BX).2.2 (unhide BL)).mono ?_
                    rintro e w5 ⟨x, y, rfl, hb, ox, oy⟩
                    rw [quo_exact (unhide HA).lnz (unhide EQ)] at ox
                    have OX := hide ox
                    have ST5 := hide ((unhide STc).later hb)
                    have RS5 := hide ((unhide RSc).later hb)
                    have HB5 := hide (below_on (unhide HBc) hb)
                    have szc := (unhide HB).size
                    have sz5 := hb.size
                    clear hb ox oy STc RSc HBc q1 q2 OL
                    go_upto_region 23 with fail
                    have hb6 : Below w5.heap.size w5 ((w5.alloc (.cells #[.bool x.g, .slice x.a x.n x.c] 27)).alloc (.cells #[.bool y.g, .slice y.a y.n y.c] 27)) := ((Below.refl _ _).alloc (by simp) _).alloc (by simp) _
                    have m0 : ((w5.alloc (.cells #[.bool x.g, .slice x.a x.n x.c] 27)).alloc (.cells #[.bool y.g, .slice y.a y.n y.c] 27)).cell? ⟨w5.heap.size, 0, none⟩ = some (.bool x.g) := by simp [go_sem]
                    have m1 : ((w5.alloc (.cells #[.bool x.g, .slice x.a x.n x.c] 27)).alloc (.cells #[.bool y.g, .slice y.a y.n y.c] 27)).cell? ⟨w5.heap.size, 1, none⟩ = some (.slice x.a x.n x.c) := by simp [go_sem]
                    have ST6 := hide ((unhide ST5).later hb6)
                    have RS6 := hide ((unhide RS5).later hb6)
                    have HB6 := hide (below_on (unhide HB5) hb6)
                    have OX6 := hide (((unhide OX).later hb6).wide (show wz.heap.size ≤ wc.heap.size by omega) hb6.size)
                    have rr6 := (unhide ST5).m.rlo r hrt
                    clear ST5 RS5 HB5 OX hb6
                    generalize (w5.alloc (.cells #[.bool x.g, .slice x.a x.n x.c] 27)).alloc (.cells #[.bool y.g, .slice y.a y.n y.c] 27) = w6 at *
                    obtain ⟨c2', m2, _, _⟩ := (unhide ST6).m.out r hrt
                    obtain ⟨bv, m3, m4, _⟩ := (unhide ST6).m.el r j hrt hjt
                    have fr := (unhide ST6).m.rfz r hrt
                    have n1 : G ≠ R' r := fun e => rr.2.2 e.symm
                    have n2 : w5.heap.size ≠ R' r := by omega
                    go_region_held3 (fun w' => w'.cell? ⟨G, r, none⟩ = some (.slice (some ⟨R' r, 0, none⟩) n c2') ∧ w'.cell? ⟨w5.heap.size, 0, none⟩ = some (.bool x.g) ∧ w'.cell? ⟨w5.heap.size, 1, none⟩ = some (.slice x.a x.n x.c)) (with_reducible (first | exact ⟨m2, m0, m1⟩ | exact ⟨cd_other m2, cd_other m0, cd_other m1⟩ | exact ⟨cs_other (cs_other (m2) n1) n1, cs_other (cs_other (m0) n2) n2, cs_other (cs_other (m1) n2) n2⟩ | exact ⟨cd_other (cs_other (cs_other (m2) n1) n1), cd_other (cs_other (cs_other (m0) n2) n2), cd_other (cs_other (cs_other (m1) n2) n2)⟩ | exact ⟨cs_other (cs_other (cd_other m2) n1) n1, cs_other (cs_other (cd_other m0) n2) n2, cs_other (cs_other (cd_other m1) n2) n2⟩ | fail)) (fail)
                    clear m0 m1 m2
                    go_wp2
                    go_roundw
                    case rel =>
                      have bt : But (R' r) (R' r + 1) w6 ((w6.setCell ⟨R' r, j * 2, none⟩ (.bool x.g)).setCell ⟨R' r, j * 2 + 1, none⟩ (.slice x.a x.n x.c)) := but_row7
                      have hd : Below ((w6.setCell ⟨R' r, j * 2, none⟩ (.bool x.g)).setCell ⟨R' r, j * 2 + 1, none⟩ (.slice x.a x.n x.c)).heap.size ((w6.setCell ⟨R' r, j * 2, none⟩ (.bool x.g)).setCell ⟨R' r, j * 2 + 1, none⟩ (.slice x.a x.n x.c)) ((w6.setCell ⟨R' r, j * 2, none⟩ (.bool x.g)).setCell ⟨R' r, j * 2 + 1, none⟩ (.slice x.a x.n x.c)).drew := (Below.refl _ _).drew
                      have hm := ((unhide ST6).m.set hrt hjt (unhide OX6))
                      refine ⟨j + 1, by omega, by omega, by go_num, hide (((unhide ST6).row hrt bt (hm.congr (fun r' c hr hc => ?_))).later hd), hide (((unhide RS6).but bt (by omega)).later hd), hide ((bt.below (unhide HB6) (by omega) (unhide HB6).size).drew)⟩
                      rw [unhide HQ]
                      exact rowTo_next hkj r' c
                    case measure => simp [intOf]; omega
                · obtain rfl : j = n := by omega
                  go_wp2
                  go_roundw
                  case rel => exact ⟨r + 1, by omega, by omega, by go_num, hide (by have h := unhide ST; exact ⟨h.m.congr (stT_row (c' := 0) hkr), h.llo, h.lG, h.lR, h.lf, h.b⟩), RS, HB⟩
                  case measure => simp [intOf]; omega
            · obtain rfl : n = r := by omega
              have STt := ST
              have RSt := RS
              have HBt := HB
              clear ST RS HB
              obtain ⟨wt, hwt⟩ : ∃ x, x = wr := ⟨_, rfl⟩
              subst hwt
              have lo1 := (unhide STt).llo
              obtain ⟨ck, p0, _, _⟩ := (unhide STt).m.out k (by omega)
              obtain ⟨bk, p1, p2, ok⟩ := (unhide STt).m.el k k (by omega) (by omega)
              obtain ⟨lb, q1, q2, _⟩ := (unhide STt).b
              have lf := (unhide STt).lf
              have OK : Hid (Ow wz.heap.size wt.heap.size wt bk (Mk i k)) := hide (by
                rw [show stT (swp Mk k i) k l (n - (k + 1)) k k = Mk i k by unfold stT; rw [if_neg (by omega)]; unfold swp sw; rw [if_pos rfl]] at ok
                exact ok)
              clear ok
              go_wp2
              go_roundw
              case rel =>
                have bt := metB_but (w5 := wt) (v := bk) (G := w3.heap.size)
                refine ⟨k + 1, R', stp (swp Mk k i) k l, Mk i k, _, by omega, rfl, by go_num, hide (by rw [bst_next (unhide HS), unhide HN]; simp only [unhide EG]), hide ?_, hide ((unhide RSt).but bt (by omega)), hide (bt.below (unhide HBt) (by omega) (unhide HBt).size)⟩
                have h2 := (unhide STt).last (unhide OK)
                exact ⟨h2.m.congr (fun r c hr hc => by
                  unfold stT
                  by_cases y : k < r ∧ k < c
                  · rw [if_pos ⟨y.1, by omega, y.2⟩]
                  · rw [if_neg (fun h => y ⟨h.1, h.2.2⟩)]; unfold stp; rw [if_neg y]), h2.llo, h2.lG, h2.lR, h2.lf, h2.b⟩
              case measure => simp [intOf]; omega
    · have hke : k = n - 1 := by omega
      have EV : Hid (barVal M n = if g then -(Mk k k) else Mk k k) := hide (by
        obtain ⟨m, rfl⟩ : ∃ m, n = m + 1 := ⟨n - 1, by omega⟩
        have e : k = m := by omega
        subst e
        exact barVal_last (unhide HS))
      have KE := hide hke
      clear hke
      have tn : ((n : Int) - 1).toNat = k := by have := unhide KE; omega
      have tk : (n : Int) - 1 = (k : Int) := by have := unhide KE; omega
      obtain ⟨c1, E1, m1⟩ := (unhide ST).m.out k (by have := unhide KE; omega)
      obtain ⟨bk, p1, p2, ok⟩ := (unhide ST).m.el k k (by have := unhide KE; omega) (by have := unhide KE; omega)
      have OK := hide ok
      have BK : Hid (Bd (Mk k k) 400000) := hide (by
        have he := unhide KE
        obtain ⟨A', hA⟩ := bst_inv (unhide BA) (unhide HS)
        exact (bd_of_abs (k := k + 1) (by omega) (hA.abs (Nat.le_refl _) (by omega) (Nat.le_refl _) (by omega))).mono (by omega))
      clear ok m1
      go_upto_region 26 with fail
      have hb6 : Below wr.heap.size wr (wr.alloc (.cells #[.bool bk.g, .slice bk.a bk.n bk.c] 27)) := (Below.refl _ _).alloc (Nat.le_refl _) _
      have m0 : (wr.alloc (.cells #[.bool bk.g, .slice bk.a bk.n bk.c] 27)).cell? ⟨wr.heap.size, 0, none⟩ = some (.bool bk.g) := by simp [go_sem]
      have m1 : (wr.alloc (.cells #[.bool bk.g, .slice bk.a bk.n bk.c] 27)).cell? ⟨wr.heap.size, 1, none⟩ = some (.slice bk.a bk.n bk.c) := by simp [go_sem]
      have OK6 := hide (((unhide OK).later hb6).wide (Nat.le_refl _) hb6.size)
      have RS6 := hide ((unhide RS).later hb6)
      have HB6 := hide (below_on (unhide HB) hb6)
      clear OK RS HB hb6 ST E1 p1 p2
      generalize wr.alloc (.cells #[.bool bk.g, .slice bk.a bk.n bk.c] 27) = w6 at *
      cases g
      case false =>
        obtain ⟨bz, r0, r1⟩ := (unhide RS6).c
        have rf := (unhide RS6).f
        go_wp2
        refine bodyPost_ret (v := .agg #[.bool bk.g, .slice bk.a bk.n bk.c]) (by simp [results, Try.results44, go_sem, r0, r1]) rfl ?_
        rw [unhide EV]
        have bt := metB_but (w5 := w6) (v := bk) (G := w.heap.size)
        exact out_of_ow (((unhide OK6).blk bt r0 (notI_b _)).wide (Nat.le_refl _) bt.size) (by omega) (Nat.le_refl _) (bt.below (unhide HB6) (Nat.le_refl _) (unhide HB6).size)
      case true =>
        go_wp2_with fail
        refine (negS_v bk (Mk k k) _ (unhide OK6).is (unhide BK)).mono ?_
        rintro e w7 ⟨x7, l7, rfl, hb, o7, a7, n7⟩
        have O7 := hide (outN_ow o7 a7 n7)
        have HB7 := hide (below_on (unhide HB6) hb)
        have sz6 := (unhide HB6).size
        obtain ⟨bz, r0, r1⟩ := ((unhide RS6).later hb).c
        have rf := ((unhide RS6).later hb).f
        clear hb o7 a7 n7 HB6 RS6 m0 m1 OK6
        go_wp2
        refine bodyPost_ret (v := .agg #[.bool x7.g, .slice x7.a x7.n x7.c]) (by simp [results, Try.results44, go_sem, r0, r1]) rfl ?_
        rw [unhide EV]
        have bt := metB_but (w5 := w7) (v := x7) (G := w.heap.size)
        exact out_of_ow (((unhide O7).blk bt r0 (notI_b _)).wide (Nat.le_refl _) bt.size) (by omega) (Nat.le_refl _) (bt.below (unhide HB7) (Nat.le_refl _) (unhide HB7).size)
end Go.Proofs.Ytaaajmdneaaeeaa
namespace Go.Proofs.Ytaaajmdneaaeeaa
open Go.RowKit
set_option linter.unusedVariables false
set_option maxRecDepth 100000
set_option linter.unusedSimpArgs false

/-- Rows of two lists. -/
theorem MatR.join {lo lo2 : Nat} {w : World} {m m2 n : Nat} {R R2 : Nat → Nat} {M M2 M' : Nat → Nat → Int} (h : MatR lo w m n R M) (h2 : MatR lo2 w m2 n R2 M2) (hl : lo ≤ lo2) (hr : ∀ i, i < m → R i < lo2) (e1 : ∀ i j, i < m → M' i j = M i j) (e2 : ∀ i j, i < m2 → M' (m + i) j = M2 i j) : MatR lo w (m + m2) n (fun i => if i < m then R i else R2 (i - m)) M' := by
  refine ⟨fun i hi => ?_, fun i hi o => ?_, fun i j hi hj hne => ?_, fun i hi => ?_, fun i j hi hj => ?_⟩
  · by_cases c : i < m
    · rw [if_pos c]; exact h.rlo i c
    · rw [if_neg c]; have := h2.rlo (i - m) (by omega); exact ⟨by omega, this.2⟩
  · by_cases c : i < m
    · rw [if_pos c]; exact h.rfz i c o
    · rw [if_neg c]; exact h2.rfz _ (by omega) o
  · by_cases c : i < m
    · by_cases d : j < m
      · rw [if_pos c, if_pos d]; exact h.inj i j c d hne
      · rw [if_pos c, if_neg d]; have a := hr i c; have b := (h2.rlo (j - m) (by omega)).1; omega
    · by_cases d : j < m
      · rw [if_neg c, if_pos d]; have a := hr j d; have b := (h2.rlo (i - m) (by omega)).1; omega
      · rw [if_neg c, if_neg d]; exact h2.inj _ _ (by omega) (by omega) (by omega)
  · by_cases c : i < m
    · rw [if_pos c]; exact h.ty i c
    · rw [if_neg c]; exact h2.ty _ (by omega)
  · by_cases c : i < m
    · rw [if_pos c, e1 i j c]; exact h.el i j c hj
    · rw [if_neg c]
      obtain ⟨b, k1, k2, k3⟩ := h2.el (i - m) j (by omega) hj
      have e := e2 (i - m) j (by omega)
      rw [show m + (i - m) = i by omega] at e
      exact ⟨b, k1, k2, by rw [e]; exact k3.wide hl (Nat.le_refl _)⟩
end Go.Proofs.Ytaaajmdneaaeeaa
namespace Go.Proofs.Ytaaajmdneaaeeaa
open Go.RowKit
set_option linter.unusedVariables false
set_option maxRecDepth 100000
set_option linter.unusedSimpArgs false

set_option maxHeartbeats 1000000 in
theorem fitS_in (g : Bool) (a : Option Addr) (n c : Nat) (w : World) (h : n ≤ 40) :
    Calls Try.prog 43 #[.agg #[.bool g, .slice a n c]] w fun e w' => e = .returned (.tuple #[.agg #[.bool g, .slice a n c], .bool true]) ∧ Below w.heap.size w w' := by
  have h' : ¬ (40 : Int) < (n : Int) := by omega
  go_enter Try.func43, Try.ntmps43
  go_wp2
  exact bodyPost_ret (v := .tuple #[.agg #[.bool g, .slice a n c], .bool true]) (by simp [results, Try.results43, go_sem]) rfl ⟨rfl, below_two _ _ _⟩
end Go.Proofs.Ytaaajmdneaaeeaa
namespace Go.Proofs.Ytaaajmdneaaeeaa
open Go.RowKit
set_option linter.unusedVariables false
set_option maxRecDepth 100000
set_option linter.unusedSimpArgs false

def RetB (w : World) (U : BD → Bool → Prop) (e : Ending) (w' : World) : Prop := ∃ (v : BV) (d : BD) (ok : Bool), e = .returned (.tuple #[.agg #[.bool v.g, .slice v.a v.n v.c], .bool ok]) ∧ Below w.heap.size w w' ∧ AllOwn w.heap.size w'.heap.size w' [(v, d)] ∧ U d ok
def AnsB (P : Bool) (V : Int) (d : BD) (ok : Bool) : Prop := (P = true ∧ ok = true ∧ d.g = decide (V < 0) ∧ Nm d.xs V.natAbs ∧ d.xs.length ≤ 40) ∨ (P = false ∧ ok = false ∧ d = ⟨false, []⟩)
theorem AnsB.same {P : Bool} {V : Int} {d d' : BD} {ok ok' : Bool} (h : AnsB P V d ok) (k : AnsB P V d' ok') : d = d' ∧ ok = ok' := by
  obtain ⟨g, xs⟩ := d
  obtain ⟨g', xs'⟩ := d'
  rcases h with ⟨p, o, a, b, _⟩ | ⟨p, o, e⟩ <;> rcases k with ⟨p', o', a', b', _⟩ | ⟨p', o', e'⟩
  · simp only at a b a' b'
    rw [a, a', b.same b']
    exact ⟨rfl, o.trans o'.symm⟩
  · rw [p] at p'; cases p'
  · rw [p] at p'; cases p'
  · exact ⟨e.trans e'.symm, o.trans o'.symm⟩
theorem AnsB.lens {P : Bool} {V : Int} {d : BD} {ok : Bool} (h : AnsB P V d ok) : d.xs.length ≤ 40 := by
  rcases h with ⟨_, _, _, _, h⟩ | ⟨_, _, rfl⟩
  · exact h
  · simp
end Go.Proofs.Ytaaajmdneaaeeaa
namespace Go.Proofs.Ytaaajmdneaaeeaa
open Go.RowKit
set_option linter.unusedVariables false
set_option maxRecDepth 100000
set_option linter.unusedSimpArgs false

end Go.Proofs.Ytaaajmdneaaeeaa
namespace Go.Proofs.Ytaaajmdneaaeeaa
open Go.RowKit
set_option linter.unusedVariables false
set_option maxRecDepth 100000
set_option linter.unusedSimpArgs false

theorem retB_yes {w w' : World} {lo hi : Nat} {b : BV} {V : Int} {P : Bool} (h : Ow lo hi w' b V) (hl : w.heap.size ≤ lo) (hh : hi ≤ w'.heap.size) (hb : Below w.heap.size w w') (hB : Bd V 40) (hP : P = true) : RetB w (fun d ok => Ans P V d.g d.xs ok) (.returned (.tuple #[.agg #[.bool b.g, .slice b.a b.n b.c], .bool true])) w' := by
  obtain ⟨xs, k1, k2, k3⟩ := h
  exact ⟨b, ⟨decide (V < 0), xs⟩, true, rfl, hb, k1.wide hl hh, .inl ⟨hP, xs, k3, .inl ⟨k3.len_le hB, rfl, rfl, rfl⟩⟩⟩
theorem retB_no {w w' : World} {V : Int} {P : Bool} (hb : Below w.heap.size w w') (hP : P = false) : RetB w (fun d ok => Ans P V d.g d.xs ok) (.returned (.tuple #[.agg #[.bool false, .slice none 0 0], .bool false])) w' :=
  ⟨⟨false, none, 0, 0⟩, ⟨false, []⟩, false, rfl, hb, AllOwn.one ⟨rfl, .inl rfl, rfl⟩, .inr ⟨hP, rfl, rfl, rfl⟩⟩
theorem bar_bd {A : Nat → Nat → Int} {n : Nat} (hn : n ≤ 8) (h : ∀ r c, Bd (A r c) 3) : Bd (barVal A n) 25 := bd_of_abs hn (barVal_abs (fun r c _ _ => abs_of_bd (h r c)))
end Go.Proofs.Ytaaajmdneaaeeaa
namespace Go.Proofs.Ytaaajmdneaaeeaa
open Go.RowKit
set_option linter.unusedVariables false
set_option maxRecDepth 100000
set_option linter.unusedSimpArgs false

/-- A slice of integers in memory of the law's own. -/
structure OwI (lo hi : Nat) (w : World) (g n : Nat) (xs : List Int) : Prop where
  own : Own2 lo hi w (some ⟨g, 0, none⟩) xs
  arg : Arg w (some ⟨g, 0, none⟩) n n xs
theorem OwI.later {lo hi : Nat} {w w' : World} {g n : Nat} {xs : List Int} (h : OwI lo hi w g n xs) (hb : Below w.heap.size w w') : OwI lo hi w' g n xs := ⟨h.own.later hb, h.arg.later hb⟩
theorem OwI.but {lo hi lo' hi' : Nat} {w w' : World} {g n : Nat} {xs : List Int} (h : OwI lo hi w g n xs) (hb : But lo' hi' w w') (hd : hi ≤ lo' ∨ hi' ≤ lo) : OwI lo hi w' g n xs := by
  have o := h.own.but hb hd
  exact ⟨o, ⟨o.sl, h.arg.len, h.arg.cap, h.arg.top, h.arg.addr⟩⟩
theorem ans_bd {P : Bool} {V : Int} {d d' : BD} {ok ok' : Bool} (h : Ans P V d.g d.xs ok) (k : Ans P V d'.g d'.xs ok') : d = d' ∧ ok = ok' := by
  obtain ⟨e1, e2, e3⟩ := h.same k
  obtain ⟨g, xs⟩ := d
  obtain ⟨g', xs'⟩ := d'
  simp only at e1 e2
  subst e1 e2
  exact ⟨rfl, e3⟩
theorem ans_len {P : Bool} {V : Int} {d : BD} {ok : Bool} (h : Ans P V d.g d.xs ok) : d.xs.length ≤ 40 := by
  rcases h with ⟨_, ts, _, ⟨h1, _, _, h4⟩ | ⟨_, _, _, h4⟩⟩ | ⟨_, _, _, h4⟩
  · rw [h4]; exact h1
  · rw [h4]; simp
  · rw [h4]; simp
end Go.Proofs.Ytaaajmdneaaeeaa
