/- Two boxes that hold the two numbers of one answer. No condition beyond those typed. Written by mkdlaw.py. -/
import Derived.Test.YtfmjbpfnhgkhkaaDivB
namespace Go.Proofs.Ytfmjbpfnhgkhkaa
open Go.RowKit
set_option linter.unusedVariables false
set_option maxRecDepth 100000
set_option linter.unusedSimpArgs false

structure VarD (wx : World) (G H lo hi : Nat) (v : QV) (d : QD) : Prop where
  c0 : wx.cell? ⟨G, 0, none⟩ = some (.bool v.num.g)
  c1 : wx.cell? ⟨G, 1, none⟩ = some (.slice v.num.a v.num.n v.num.c)
  c2 : wx.cell? ⟨H, 0, none⟩ = some (.bool v.den.g)
  c3 : wx.cell? ⟨H, 1, none⟩ = some (.slice v.den.a v.den.n v.den.c)
  own : AllOwn lo hi wx [(v.num, d.num), (v.den, d.den)]
theorem VarD.later {wx wy : World} {G H lo hi : Nat} {v : QV} {d : QD} (h : VarD wx G H lo hi v d) (hb : Below wx.heap.size wx wy) : VarD wy G H lo hi v d :=
  ⟨cell_later hb h.c0, cell_later hb h.c1, cell_later hb h.c2, cell_later hb h.c3, h.own.later hb⟩
theorem VarD.but {wx wy : World} {G H lo hi lo' hi' : Nat} {v : QV} {d : QD} (h : VarD wx G H lo hi v d) (hb : But lo' hi' wx wy) (hG : G < lo' ∨ hi' ≤ G) (hH : H < lo' ∨ hi' ≤ H) (hd : hi ≤ lo' ∨ hi' ≤ lo) : VarD wy G H lo hi v d :=
  ⟨hb.cell h.c0 hG, hb.cell h.c1 hG, hb.cell h.c2 hH, hb.cell h.c3 hH, h.own.but hb hd⟩
theorem VarD.mark {wx wy : World} {G H lo hi : Nat} {v : QV} {d d' : QD} (h : VarD wx G H lo hi v d) (hb : But lo hi wx wy) (hG : G < lo ∨ hi ≤ G) (hH : H < lo ∨ hi ≤ H) (ho : AllOwn lo hi wy [(v.num, d'.num), (v.den, d'.den)]) : VarD wy G H lo hi v d' :=
  ⟨hb.cell h.c0 hG, hb.cell h.c1 hG, hb.cell h.c2 hH, hb.cell h.c3 hH, ho⟩
theorem VarD.start {wx : World} {lo : Nat} {v : QV} {d : QD} (t : TypeId) (h : AllOwn lo wx.heap.size wx [(v.num, d.num), (v.den, d.den)]) : VarD ((wx.alloc (.cells #[.bool v.num.g, .slice v.num.a v.num.n v.num.c] t)).alloc (.cells #[.bool v.den.g, .slice v.den.a v.den.n v.den.c] t)) wx.heap.size (wx.heap.size + 1) lo wx.heap.size v d :=
  ⟨by simp [go_sem], by simp [go_sem], by simp [go_sem], by simp [go_sem], (h.later ((Below.refl _ _).alloc (Nat.le_refl _) _)).later ((Below.refl _ _).alloc (Nat.le_refl _) _)⟩
theorem VarD.gt {wx : World} {G H lo hi : Nat} {v : QV} {d : QD} (h : VarD wx G H lo hi v d) : G < wx.heap.size ∧ H < wx.heap.size := ⟨World.block_lt_of_cell? _ _ h.c0, World.block_lt_of_cell? _ _ h.c2⟩
structure MetD (wk wx : World) (G H : Nat) (v : QV) (d : QD) : Prop where
  lo : wk.heap.size ≤ G ∧ wk.heap.size ≤ H
  var : VarD wx G H wk.heap.size wx.heap.size v d
  bel : Below wk.heap.size wk wx
theorem But.alloc' {lo hi : Nat} {w w' : World} (h : But lo hi w w') (o : Obj) : But lo hi w (w'.alloc o) :=
  ⟨h.os, h.tape, h.output, Nat.le_trans h.size (by simp), fun k hk hj => by
    rw [← h.block k hk hj]
    exact ((Below.refl w'.heap.size w').alloc (Nat.le_refl _) o).block k (Nat.lt_of_lt_of_le hk h.size)⟩
theorem But.set' {lo hi : Nat} {w w' : World} (h : But lo hi w w') {G i : Nat} (v : Value) (hp : (lo ≤ G ∧ G < hi) ∨ w.heap.size ≤ G) : But lo hi w (w'.setCell ⟨G, i, none⟩ v) :=
  ⟨h.os, h.tape, h.output, Nat.le_trans h.size (by simp [World.setCell]), fun k hk hj => by
    rw [← h.block k hk hj]
    exact Below.heap_setCell _ _ _ _ (by intro e; simp only at e; omega)⟩
theorem But.drew' {lo hi : Nat} {w w' : World} (h : But lo hi w w') : But lo hi w w'.drew := h.trans ⟨rfl, rfl, rfl, Nat.le_refl _, fun _ _ _ => rfl⟩
/-- A cell is there. -/
def Has (w : World) (b o : Nat) : Prop := ∃ z, w.cell? ⟨b, o, none⟩ = some z
theorem Has.of {w : World} {b o : Nat} {z : Value} (h : w.cell? ⟨b, o, none⟩ = some z) : Has w b o := ⟨z, h⟩
theorem cs_hit {w : World} {b o : Nat} {v : Value} (h : Has w b o) : (w.setCell ⟨b, o, none⟩ v).cell? ⟨b, o, none⟩ = some v := by
  obtain ⟨z, hz⟩ := h
  simp [go_sem, hz]
theorem cs_skip {w : World} {G i b o : Nat} {v x : Value} (h : w.cell? ⟨b, o, none⟩ = some x) (hne : b ≠ G ∨ (b = G ∧ o ≠ i)) : (w.setCell ⟨G, i, none⟩ v).cell? ⟨b, o, none⟩ = some x := by
  rcases hne with hne | ⟨rfl, hne⟩
  · exact cs_other h hne
  · rw [← h]
    simp [go_sem, h, Ne.symm hne, hne]
theorem Has.set {w : World} {G i b o : Nat} {v : Value} (h : Has w b o) : Has (w.setCell ⟨G, i, none⟩ v) b o := by
  obtain ⟨z, hz⟩ := h
  by_cases e : b = G
  · subst e
    by_cases e' : o = i
    · subst e'; exact ⟨v, cs_hit ⟨z, hz⟩⟩
    · exact ⟨z, cs_skip hz (.inr ⟨rfl, e'⟩)⟩
  · exact ⟨z, cs_other hz e⟩
theorem Has.alloc {w : World} {b o : Nat} {ob : Obj} (h : Has w b o) : Has (w.alloc ob) b o := by
  obtain ⟨z, hz⟩ := h
  exact ⟨z, ca_other hz⟩
theorem metD_fin {wk w5 W : World} {G H B : Nat} {v : QV} {d : QD} (hk : Below wk.heap.size wk w5) (ho : AllOwn B w5.heap.size w5 [(v.num, d.num), (v.den, d.den)]) (hB : wk.heap.size ≤ B) (bt : But wk.heap.size B w5 W) (hG : wk.heap.size ≤ G ∧ wk.heap.size ≤ H)
    (c0 : W.cell? ⟨G, 0, none⟩ = some (.bool v.num.g)) (c1 : W.cell? ⟨G, 1, none⟩ = some (.slice v.num.a v.num.n v.num.c)) (c2 : W.cell? ⟨H, 0, none⟩ = some (.bool v.den.g)) (c3 : W.cell? ⟨H, 1, none⟩ = some (.slice v.den.a v.den.n v.den.c)) : MetD wk W G H v d :=
  ⟨hG, ⟨c0, c1, c2, c3, (ho.but bt (.inr (Nat.le_refl _))).wide hB bt.size⟩, bt.below hk (Nat.le_refl _) hk.size⟩
theorem ne_size {w : World} {b o : Nat} {x : Value} (h : w.cell? ⟨b, o, none⟩ = some x) : b ≠ w.heap.size := Nat.ne_of_lt (World.block_lt_of_cell? _ _ h)
theorem ne_cells {w : World} {a b o o' : Nat} {x y : Value} (h : w.cell? ⟨a, o, none⟩ = some x) (k : w.cell? ⟨b, o', none⟩ = some y) (hne : a ≠ b) : a ≠ b := hne
theorem frozen_alloc {w : World} {b o : Nat} {x : Value} {ob : Obj} (h : w.cell? ⟨b, o, none⟩ = some x) (k : ∀ o, w.frozen? ⟨b, o, none⟩ = false) : ∀ o, (w.alloc ob).frozen? ⟨b, o, none⟩ = false := fun o => frozen_later ((Below.refl _ _).alloc (Nat.le_refl _) _) (World.block_lt_of_cell? _ _ h) (k o)
theorem ca_new0 {w : World} {a b : Value} {t : TypeId} : (w.alloc (.cells #[a, b] t)).cell? ⟨w.heap.size, 0, none⟩ = some a := by simp [go_sem]
theorem ca_new1 {w : World} {a b : Value} {t : TypeId} : (w.alloc (.cells #[a, b] t)).cell? ⟨w.heap.size, 1, none⟩ = some b := by simp [go_sem]
theorem ca_newb0 {w : World} {a b : Value} {t : TypeId} {o : Obj} : ((w.alloc o).alloc (.cells #[a, b] t)).cell? ⟨w.heap.size + 1, 0, none⟩ = some a := by simp [go_sem]
theorem ca_newb1 {w : World} {a b : Value} {t : TypeId} {o : Obj} : ((w.alloc o).alloc (.cells #[a, b] t)).cell? ⟨w.heap.size + 1, 1, none⟩ = some b := by simp [go_sem]
theorem ba2 {w w1 : World} {o o' : Obj} (h : Below ((w.alloc o).alloc o').heap.size ((w.alloc o).alloc o') w1) : Below w.heap.size w w1 := ba (ba h)
theorem bad2 {w w1 : World} {o o' : Obj} (h : Below ((w.alloc o).alloc o').drew.heap.size ((w.alloc o).alloc o').drew w1) : Below w.heap.size w w1 := ba2 (below_of_drew h)
end Go.Proofs.Ytfmjbpfnhgkhkaa
