/- What the laws over two numbers hold of the memory while they go on: the arguments, and the variables that they have made. No condition beyond those typed. -/
import Derived.Test.YtdgonpbponnnaaaGreatDoorMark
namespace Go.Proofs.YtdgonpbponnnaaaGreatDoor
open Go.RowKit
set_option linter.unusedVariables false
set_option maxRecDepth 100000
set_option linter.unusedSimpArgs false

/-- A variable of the law's own: its box at block G, its limbs zs at a block from lo to below hi. -/
structure Var (wx : World) (G lo hi : Nat) (g : Bool) (a : Option Addr) (n c : Nat) (zs : List Int) : Prop where
  c0 : wx.cell? ⟨G, 0, none⟩ = some (.bool g)
  c1 : wx.cell? ⟨G, 1, none⟩ = some (.slice a n c)
  own : Own2 lo hi wx a zs
  len : zs.length = n
theorem Var.later {wx wy : World} {G lo hi : Nat} {g : Bool} {a : Option Addr} {n c : Nat} {zs : List Int} (h : Var wx G lo hi g a n c zs) (hb : Below wx.heap.size wx wy) : Var wy G lo hi g a n c zs :=
  ⟨cell_later hb h.c0, cell_later hb h.c1, h.own.later hb, h.len⟩
theorem Var.but {wx wy : World} {G lo hi lo' hi' : Nat} {g : Bool} {a : Option Addr} {n c : Nat} {zs : List Int} (h : Var wx G lo hi g a n c zs) (hb : But lo' hi' wx wy) (hG : G < lo' ∨ hi' ≤ G) (hd : hi ≤ lo' ∨ hi' ≤ lo) : Var wy G lo hi g a n c zs :=
  ⟨hb.cell h.c0 hG, hb.cell h.c1 hG, h.own.but hb hd, h.len⟩
theorem Var.mark {wx wy : World} {G lo hi : Nat} {g : Bool} {a : Option Addr} {n c : Nat} {zs ms : List Int} (h : Var wx G lo hi g a n c zs) (hb : But lo hi wx wy) (hG : G < lo ∨ hi ≤ G) (ho : Own2 lo hi wy a ms) (hm : ms.length = n) : Var wy G lo hi g a n c ms :=
  ⟨hb.cell h.c0 hG, hb.cell h.c1 hG, ho, hm⟩
theorem Var.start {wx : World} {lo : Nat} {g : Bool} {a : Option Addr} {n c : Nat} {zs : List Int} (t : TypeId) (h : Own lo wx a zs) (hn : zs.length = n) : Var (wx.alloc (.cells #[.bool g, .slice a n c] t)) wx.heap.size lo wx.heap.size g a n c zs :=
  ⟨by simp [go_sem], by simp [go_sem], h.two.later ((Below.refl _ _).alloc (Nat.le_refl _) _), hn⟩
theorem Two.but {w wx wy : World} {g : Bool} {a : Option Addr} {n c : Nat} {xs : List Int} {g' : Bool} {a' : Option Addr} {m c' : Nat} {ys : List Int} {lo hi : Nat}
    (h : Two w wx g a n c xs g' a' m c' ys) (hb : But lo hi wx wy) (hl : w.heap.size + 2 ≤ lo) (hx : Sl w a xs) (hy : Sl w a' ys) : Two w wy g a n c xs g' a' m c' ys := by
  have hB := hb.below h.bel (by omega) h.bel.size
  exact ⟨hB, hb.cell h.x0 (by omega), hb.cell h.x1 (by omega), hb.cell h.y0 (by omega), hb.cell h.y1 (by omega), hx.later (Nat.le_refl _) hB, hy.later (Nat.le_refl _) hB⟩
theorem Ans.len {P : Bool} {V : Int} {g : Bool} {zs : List Int} {ok : Bool} (h : Ans P V g zs ok) : zs.length ≤ 40 := by
  rcases h with ⟨_, ts, _, ⟨h1, _, _, rfl⟩ | ⟨_, _, _, rfl⟩⟩ | ⟨_, _, _, rfl⟩
  · exact h1
  · simp
  · simp
theorem arg_of_owns {w : World} {base b n : Nat} {xs : List Int} (h : w.ownsRow base 3 1 (.slice (some ⟨b, 0, none⟩) n n) n (xs.map (Value.int .i64))) (hn : xs.length = n) (h1 : n ≤ 1048576) : Arg w (some ⟨b, 0, none⟩) n n xs :=
  ⟨Sl.of_owns h hn, hn, Nat.le_refl _, by unfold maxLen; omega, .inr ⟨_, _, rfl⟩⟩

theorem cutP {p q : Prop} (h : p) (k : p → q) : q := k h
theorem cs_other {w : World} {G i b o : Nat} {v x : Value} (h : w.cell? ⟨b, o, none⟩ = some x) (hne : b ≠ G) : (w.setCell ⟨G, i, none⟩ v).cell? ⟨b, o, none⟩ = some x := by
  rw [← h]
  exact World.cell?_of_block (w := w) (Below.heap_setCell w ⟨G, i, none⟩ v b hne)
theorem ca_other {w : World} {b o : Nat} {x : Value} {ob : Obj} (h : w.cell? ⟨b, o, none⟩ = some x) : (w.alloc ob).cell? ⟨b, o, none⟩ = some x := cell_later ((Below.refl _ _).alloc (Nat.le_refl _) _) h
theorem ba {w w1 : World} {o : Obj} (h : Below (w.alloc o).heap.size (w.alloc o) w1) : Below w.heap.size w w1 := ((Below.refl _ _).alloc (Nat.le_refl _) _).trans (h.mono (by simp))
theorem bad {w w1 : World} {o : Obj} (h : Below (w.alloc o).drew.heap.size (w.alloc o).drew w1) : Below w.heap.size w w1 := ba (below_of_drew h)

/-- What is known of the law's world when an answer lies in its box; wk: the world ahead of the calls. -/
structure Met8 (w wk wx : World) (g : Bool) (a : Option Addr) (n c : Nat) (xs : List Int) (g' : Bool) (a' : Option Addr) (m c' : Nat) (ys : List Int) (P : Bool) (V : Int) (G : Nat) (gr : Bool) (ar : Option Addr) (nr cr : Nat) (zs : List Int) (ok : Bool) : Prop where
  lo : wk.heap.size ≤ G
  hi : G < wx.heap.size
  two : Two w wx g a n c xs g' a' m c' ys
  var : Var wx G wk.heap.size wx.heap.size gr ar nr cr zs
  ans : Ans P V gr zs ok
  bel : Below wk.heap.size wk wx
theorem met_alloc {w wk w5 : World} {g : Bool} {a : Option Addr} {n c : Nat} {xs : List Int} {g' : Bool} {a' : Option Addr} {m c' : Nat} {ys : List Int} {P : Bool} {V : Int} {gr : Bool} {ar : Option Addr} {nr cr : Nat} {zs : List Int} {ok : Bool} {B : Nat} {t : TypeId}
    (hT : Two w w5 g a n c xs g' a' m c' ys) (hk : Below wk.heap.size wk w5) (ho : Own B w5 ar zs) (hB : wk.heap.size ≤ B) (hl : zs.length = nr) (h : Ans P V gr zs ok) :
    Met8 w wk (w5.alloc (.cells #[.bool gr, .slice ar nr cr] t)) g a n c xs g' a' m c' ys P V w5.heap.size gr ar nr cr zs ok := by
  have hv := Var.start (g := gr) (c := cr) t (ho.mono hB) hl
  refine ⟨hk.size, by simp, hT.later ((Below.refl _ _).alloc (Nat.le_refl _) _), ⟨hv.c0, hv.c1, ?_, hl⟩, h, hk.alloc hk.size _⟩
  exact ((ho.mono hB).later ((Below.refl _ _).alloc (Nat.le_refl _) _)).two
theorem met_set {w wk w5 : World} {g : Bool} {a : Option Addr} {n c : Nat} {xs : List Int} {g' : Bool} {a' : Option Addr} {m c' : Nat} {ys : List Int} {P : Bool} {V : Int} {gr : Bool} {ar : Option Addr} {nr cr : Nat} {zs : List Int} {ok : Bool} {B G : Nat} {v0 v1 : Value}
    (hT : Two w w5 g a n c xs g' a' m c' ys) (hk : Below wk.heap.size wk w5) (hx : Sl w a xs) (hy : Sl w a' ys) (hw : w.heap.size + 2 ≤ wk.heap.size) (ho : Own B w5 ar zs) (hG : wk.heap.size ≤ G) (hGB : G < B) (hl : zs.length = nr) (h : Ans P V gr zs ok)
    (e0 : w5.cell? ⟨G, 0, none⟩ = some v0) (e1 : w5.cell? ⟨G, 1, none⟩ = some v1) :
    Met8 w wk ((w5.setCell ⟨G, 0, none⟩ (.bool gr)).setCell ⟨G, 1, none⟩ (.slice ar nr cr)) g a n c xs g' a' m c' ys P V G gr ar nr cr zs ok := by
  have hb : But G (G + 1) w5 ((w5.setCell ⟨G, 0, none⟩ (.bool gr)).setCell ⟨G, 1, none⟩ (.slice ar nr cr)) := ((But.refl _ _ _).set (p := ⟨G, 0, none⟩) (Nat.le_refl _) (Nat.lt_succ_self _) _).set (p := ⟨G, 1, none⟩) (Nat.le_refl _) (Nat.lt_succ_self _) _
  have hlt : G < w5.heap.size := World.block_lt_of_cell? _ _ e0
  refine ⟨hG, by have := hb.size; omega, hT.but hb (by omega) hx hy, ⟨?_, ?_, ?_, hl⟩, h, hb.below hk hG hk.size⟩
  · simp [go_sem, e0, e1]
  · simp [go_sem, e0, e1]
  · exact (((ho.set (p := ⟨G, 0, none⟩) hGB _).set (p := ⟨G, 1, none⟩) hGB _).mono (by omega)).two
theorem Var.low {wx : World} {G lo lo' hi : Nat} {g : Bool} {a : Option Addr} {n c : Nat} {zs : List Int} (h : Var wx G lo hi g a n c zs) (hl : lo' ≤ lo) : Var wx G lo' hi g a n c zs := by
  refine ⟨h.c0, h.c1, ?_, h.len⟩
  rcases h.own with h | ⟨b, cur, rfl, h1, h2, hg, hc⟩
  · exact .inl h
  · exact .inr ⟨b, cur, rfl, by omega, h2, hg, hc⟩
theorem Var.arg {wx : World} {G lo hi : Nat} {g : Bool} {a : Option Addr} {n c : Nat} {zs : List Int} (h : Var wx G lo hi g a n c zs) (hc : n ≤ c) (hm : c ≤ maxLen) (ha : (a = none ∧ c = 0) ∨ ∃ b off, a = some ⟨b, off, none⟩) : Arg wx a n c zs :=
  ⟨h.own.sl, h.len, hc, hm, ha⟩
end Go.Proofs.YtdgonpbponnnaaaGreatDoor
