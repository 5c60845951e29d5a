/- HasRoot: the program's and the specification's. No condition beyond those typed. Written by mkhasr.py. -/
import Derived.RangeFuncNested
import Derived.RangeFuncBound
import Derived.RangeFuncCalls
import Derived.RangeFuncLeaves
import Derived.Shelf.Abstract
import Derived.Shelf.RegionOpen
import Derived.WalkKit
import Derived.OwnWalkIn
import Derived.TacticsInMore
import Derived.LoopNIn
import Derived.LoopIn
import Derived.Test.YtliaddmkomcmnaaPackSW
namespace Go.Proofs.Ytliaddmkomcmnaa
open Go.RowKit Go.Shelf
set_option linter.unusedVariables false
set_option maxRecDepth 100000
set_option linter.unusedSimpArgs false
attribute [local go_sem] Oper.semAt_some

/-- Cells stay as they are. -/
structure CK (w w' : World) : Prop where
  size : w.heap.size ≤ w'.heap.size
  blk : ∀ (k : Nat) (o : Obj), w.heap[k]? = some o → o.isCells = true → w'.heap[k]? = some o
theorem CK.of_grown {w w' : World} {row : Option Nat} (hg : w.grownBy w' row) (hr : ∀ r, row = some r → ∃ o : Obj, w.heap[r]? = some o ∧ o.isCells = false) : CK w w' :=
  ⟨hg.size, fun k o hk ho => grownBy_keeps_cells hg hr hk ho |>.trans hk⟩
theorem CK.of_below {w w' : World} (hb : Below w.heap.size w w') : CK w w' := ⟨hb.size, fun k o hk _ => (hb.block k (Array.getElem?_eq_some_iff.1 hk).1).trans hk⟩
theorem CK.cell {w w' : World} (h : CK w w') {p : Addr} {v : Value} (hc : w.cell? p = some v) : w'.cell? p = some v := by
  obtain ⟨o, ho, hk⟩ := cells_of_cell hc
  exact (World.cell?_of_block ((h.blk _ o ho hk).trans ho.symm)).trans hc
theorem CK.frozen {w w' : World} (h : CK w w') {p q : Addr} {v : Value} (hc : w.cell? p = some v) (he : q.block = p.block) : w'.frozen? q = w.frozen? q := by
  obtain ⟨o, ho, hk⟩ := cells_of_cell hc
  exact World.frozen?_of_block (by rw [he]; exact (h.blk _ o ho hk).trans ho.symm)
theorem CK.sl {w w' : World} (h : CK w w') {a : Option Addr} {xs : List Int} (hs : Sl w a xs) : Sl w' a xs := by
  rcases hs with hs | ⟨b, off, rfl, h1, h2⟩
  · exact .inl hs
  · exact .inr ⟨b, off, rfl, Nat.lt_of_lt_of_le h1 h.size, fun i hi => h.cell (h2 i hi)⟩
theorem CK.ar {w w' : World} (h : CK w w') {l : List (BV × BD)} (hs : AllAr w l) : AllAr w' l := fun p hp =>
  ⟨(hs p hp).sg, ⟨h.sl (hs p hp).ar.sl, (hs p hp).ar.len, (hs p hp).ar.cap, (hs p hp).ar.top, (hs p hp).ar.addr⟩⟩
theorem CK.own {w w' : World} (h : CK w w') {lo hi : Nat} {l : List (BV × BD)} (hs : AllOwn lo hi w l) : AllOwn lo hi w' l :=
  ⟨fun p hp => ⟨(hs.own p hp).sg, (by
    rcases (hs.own p hp).own with e | ⟨b, cur, ea, h1, h2, hg, hc⟩
    · exact .inl e
    · exact .inr ⟨b, cur, ea, h1, h2, h.blk b _ hg rfl, hc⟩), (hs.own p hp).len⟩, hs.ap⟩
theorem CK.isB {w w' : World} (h : CK w w') {b : BV} {V : Int} (k : IsB w b V) : IsB w' b V := by
  obtain ⟨xs, h1, h2⟩ := k
  exact ⟨xs, (h.ar (l := [(b, ⟨decide (V < 0), xs⟩)]) (fun p hp => by have hp := List.mem_singleton.1 hp; subst hp; exact h1)).head, h2⟩
theorem CK.isQ {w w' : World} (h : CK w w') {q : QV} {N D : Int} (k : IsQ w q N D) : IsQ w' q N D := ⟨h.isB k.1, h.isB k.2⟩
theorem CK.trans {a b c : World} (h : CK a b) (k : CK b c) : CK a c := ⟨Nat.le_trans h.size k.size, fun i o hi ho => k.blk i o (h.blk i o hi ho) ho⟩
/-- All below N stays, but for block G. -/
structure KB (N G : Nat) (w w' : World) : Prop where
  os : w'.os = w.os
  tape : w'.tape = w.tape
  output : w'.output = w.output
  size : w.heap.size ≤ w'.heap.size
  block : ∀ k, k < N → k ≠ G → w'.heap[k]? = w.heap[k]?
theorem KB.refl (N G : Nat) (w : World) : KB N G w w := ⟨rfl, rfl, rfl, Nat.le_refl _, fun _ _ _ => rfl⟩
theorem KB.trans {N G : Nat} {a b c : World} (h : KB N G a b) (k : KB N G b c) : KB N G a c :=
  ⟨k.os.trans h.os, k.tape.trans h.tape, k.output.trans h.output, Nat.le_trans h.size k.size, fun i hi hg => (k.block i hi hg).trans (h.block i hi hg)⟩
theorem KB.below {N G B : Nat} {a b : World} (h : KB N G a b) (h1 : B ≤ N) (h2 : B ≤ G) : Below B a b := ⟨h.os, h.tape, h.output, h.size, fun k hk => h.block k (by omega) (by omega)⟩
theorem KB.of_but {N G : Nat} {a b : World} (h : But G (G + 1) a b) (hN : N ≤ a.heap.size) : KB N G a b := ⟨h.os, h.tape, h.output, h.size, fun k hk hg => h.block k (by omega) (by omega)⟩
theorem KB.put {N G : Nat} (W : World) (l : Nat) (o o' : Obj) (h : N ≤ l) : KB N G W (W.putObj l o') :=
  ⟨rfl, rfl, rfl, by simp, fun k hk _ => World.putObj_heap_other (by omega)⟩
theorem KB.cell {N G : Nat} {a b : World} (h : KB N G a b) {p : Addr} {v : Value} (hc : a.cell? p = some v) (h1 : p.block < N) (h2 : p.block ≠ G) : b.cell? p = some v := (World.cell?_of_block (h.block _ h1 h2)).trans hc

/-- From the last one down. -/
def downs (n k : Nat) : List (Fin n) := (List.finRange n).reverse.take k
theorem downs_succ {n k : Nat} (h : k < n) : downs n (k + 1) = downs n k ++ [⟨n - 1 - k, by omega⟩] := by
  unfold downs
  rw [← List.take_append_getElem (by simp; exact h)]
  congr 1
  rw [List.getElem_reverse]
  simp
theorem downs_all (n : Nat) : downs n n = (List.finRange n).reverse := by
  unfold downs
  exact List.take_of_length_le (by simp)
theorem downs_len {n k : Nat} (h : k ≤ n) : (downs n k).length = k := by
  unfold downs
  simp
  omega

set_option maxRecDepth 100000 in
set_option maxHeartbeats 2000000 in
theorem back1_in (F : Fence) (m : Nat) (h7 : F.fn 161) (hro : F.round = none) (hm : 1 ≤ m) (t Bs N G b off n c : Nat) (l : List (QV × QD)) (hl : l.length = n) (hn : n ≤ 1000000) (hBs : Bs < N ∧ Bs ≠ G) (hb : b < N ∧ b ≠ G) (J Jx : List (Fin n) → World → Prop)
    (hY : ∀ pre x W, J pre W → pre.length < n → YieldAt F (m - 1) Try.prog t ((fun k : Fin n => #[.int .i64 (k.1 : Nat), .agg #[.bool (l[k.1]'(by rw [hl]; exact k.2)).1.num.g, .slice (l[k.1]'(by rw [hl]; exact k.2)).1.num.a (l[k.1]'(by rw [hl]; exact k.2)).1.num.n (l[k.1]'(by rw [hl]; exact k.2)).1.num.c, .bool (l[k.1]'(by rw [hl]; exact k.2)).1.den.g, .slice (l[k.1]'(by rw [hl]; exact k.2)).1.den.a (l[k.1]'(by rw [hl]; exact k.2)).1.den.n (l[k.1]'(by rw [hl]; exact k.2)).1.den.c]]) x) W fun e W' =>
      (e = .returned (.bool true) ∧ J (pre ++ [x]) W' ∧ KB N G W W') ∨ (e = .returned (.bool false) ∧ Jx (pre ++ [x]) W'))
    (W : World) (hc : W.cell? ⟨Bs, 0, none⟩ = some (.slice (some ⟨b, off, none⟩) n c)) (hcs : ∀ i (h : i < l.length), W.cell? ⟨b, off + i * 4, none⟩ = some (.bool l[i].1.num.g) ∧ W.cell? ⟨b, off + i * 4 + 1, none⟩ = some (.slice l[i].1.num.a l[i].1.num.n l[i].1.num.c) ∧ W.cell? ⟨b, off + i * 4 + 2, none⟩ = some (.bool l[i].1.den.g) ∧ W.cell? ⟨b, off + i * 4 + 3, none⟩ = some (.slice l[i].1.den.a l[i].1.den.n l[i].1.den.c)) (h0 : J [] W) :
    CallsIn F m Try.prog 161 #[.func (.yield t) #[] #[], .pointer (some ⟨Bs, 0, none⟩)] W fun e W' => (∃ v, e = .returned v) ∧ ((∃ ys, ys = (List.finRange n).reverse ∧ J ys W') ∨ (∃ pre, True ∧ Jx pre W')) := by
  refine callsIn_of_wp Try.func161 rfl h7 ?_ hro
  simp only [Try.ntmps161, List.size_toArray, List.length_cons, List.length_nil, Nat.reduceAdd, Nat.reduceSub, Array.replicate_succ, Array.replicate_zero, List.push_toArray, List.append_toArray, List.nil_append, List.cons_append]
  gi_wp2
  gi_loopw [3] (fun i wr => ∃ k : Nat, k ≤ n ∧ i = .int .i64 ((n : Int) - 1 - k) ∧ J (downs n k) wr ∧ Hid (KB N G W wr))
    (fun i _ => (intOf i + 1).toNat)
  case atStart => exact ⟨0, Nat.zero_le _, by simp, h0, KB.refl _ _ _⟩
  case round =>
    obtain ⟨k, hk, rfl, hJs, HK⟩ := hrel
    have hcx : wr.cell? ⟨Bs, 0, none⟩ = some (.slice (some ⟨b, off, none⟩) n c) := HK.cell hc hBs.1 hBs.2
    by_cases hlt : k < n
    · have i0 : (0 : Int) ≤ (n : Int) - 1 - k := by omega
      have i1 : (n : Int) - 1 - k < (n : Int) := by omega
      have i2 : ((n : Int) - 1 - k).toNat = n - 1 - k := by omega
      have hx := hcs (n - 1 - k) (by omega)
      have E0 : wr.cell? ⟨b, off + (n - 1 - k) * 4, none⟩ = some (.bool (l[n - 1 - k]'(by omega)).1.num.g) := HK.cell hx.1 hb.1 hb.2
      have E1 : wr.cell? ⟨b, off + (n - 1 - k) * 4 + 1, none⟩ = some (.slice (l[n - 1 - k]'(by omega)).1.num.a (l[n - 1 - k]'(by omega)).1.num.n (l[n - 1 - k]'(by omega)).1.num.c) := HK.cell hx.2.1 hb.1 hb.2
      have E2 : wr.cell? ⟨b, off + (n - 1 - k) * 4 + 2, none⟩ = some (.bool (l[n - 1 - k]'(by omega)).1.den.g) := HK.cell hx.2.2.1 hb.1 hb.2
      have E3 : wr.cell? ⟨b, off + (n - 1 - k) * 4 + 3, none⟩ = some (.slice (l[n - 1 - k]'(by omega)).1.den.a (l[n - 1 - k]'(by omega)).1.den.n (l[n - 1 - k]'(by omega)).1.den.c) := HK.cell hx.2.2.2 hb.1 hb.2
      clear hx
      obtain ⟨fn, tmps, assign, body, hy, hR⟩ := hY _ ⟨n - 1 - k, by omega⟩ wr hJs (by rw [downs_len hk]; exact hlt)
      dsimp only at hy
      rw [show (((n - 1 - k : Nat)) : Int) = (n : Int) - 1 - k by omega] at hy
      clear hcs hY
      gi_wp2
      refine hR.mono ?_
      rintro e W3 (⟨rfl, hJ3, hk3⟩ | ⟨rfl, hJx3⟩)
      · have HK3 := hide (HK.trans hk3)
        clear hk3 hR hy E0 E1 E2 E3
        gi_wp2
        go_roundw
        case rel => exact ⟨k + 1, by omega, by go_num, by rw [downs_succ hlt]; exact hJ3, unhide HK3⟩
        case measure => simp [intOf]; omega
      · clear hR hy E0 E1 E2 E3
        gi_wp2
        refine bodyPost_ret (results_none rfl _ _ _) rfl ?_
        exact ⟨⟨_, rfl⟩, .inr ⟨_, trivial, hJx3⟩⟩
    · obtain rfl : k = n := by omega
      have i0 : ¬ ((0 : Int) ≤ (k : Int) - 1 - k) := by omega
      clear hcs hY
      gi_wp2
      go_end0
      exact ⟨⟨_, rfl⟩, .inl (by rw [← downs_all]; exact hJs)⟩
set_option maxRecDepth 100000 in
set_option maxHeartbeats 1000000 in
theorem back1_nil (F : Fence) (m : Nat) (h7 : F.fn 161) (hro : F.round = none) (t Bs c : Nat) (a : Option Addr) (J : World → Prop) (W : World) (hc : W.cell? ⟨Bs, 0, none⟩ = some (.slice a 0 c)) (h0 : J W) :
    CallsIn F m Try.prog 161 #[.func (.yield t) #[] #[], .pointer (some ⟨Bs, 0, none⟩)] W fun e W' => (∃ v, e = .returned v) ∧ J W' := by
  refine callsIn_of_wp Try.func161 rfl h7 ?_ hro
  simp only [Try.ntmps161, List.size_toArray, List.length_cons, List.length_nil, Nat.reduceAdd, Nat.reduceSub, Array.replicate_succ, Array.replicate_zero, List.push_toArray, List.append_toArray, List.nil_append, List.cons_append]
  gi_wp2
  gi_loopw [3] (fun i wr => i = .int .i64 (-1) ∧ J wr) (fun _ _ => 0)
  case atStart => exact ⟨rfl, h0⟩
  case round =>
    obtain ⟨rfl, hJs⟩ := hrel
    gi_wp2
    go_end0
    exact ⟨⟨_, rfl⟩, hJs⟩
theorem back_stops (F : Fence) (m : Nat) (h7 : F.fn 161) (hro : F.round = none) (hm : 1 ≤ m) (Bs G n c : Nat) (a : Option Addr) (l : List (QV × QD)) (hl : l.length = n) (hn : n ≤ 1000000) (w0 w : World) (hP : PAtQ w0 a l) (hb0 : Below w0.heap.size w0 w) (hG : w0.heap.size ≤ G) (hBs : Bs < w.heap.size ∧ Bs ≠ G)
    (hc : w.cell? ⟨Bs, 0, none⟩ = some (.slice a n c)) :
    SeqStopsK F m Try.prog 161 #[.pointer (some ⟨Bs, 0, none⟩)] (fun k : Fin n => #[.int .i64 (k.1 : Nat), .agg #[.bool (l[k.1]'(by rw [hl]; exact k.2)).1.num.g, .slice (l[k.1]'(by rw [hl]; exact k.2)).1.num.a (l[k.1]'(by rw [hl]; exact k.2)).1.num.n (l[k.1]'(by rw [hl]; exact k.2)).1.num.c, .bool (l[k.1]'(by rw [hl]; exact k.2)).1.den.g, .slice (l[k.1]'(by rw [hl]; exact k.2)).1.den.a (l[k.1]'(by rw [hl]; exact k.2)).1.den.n (l[k.1]'(by rw [hl]; exact k.2)).1.den.c]]) (KB w.heap.size G) (fun ys => ys = (List.finRange n).reverse) (fun _ => True) n w := fun t J Jx W hW _ _ hY h0 => by
  have hc' := (hW.cell (p := ⟨Bs, 0, none⟩) hBs.1).trans hc
  rcases hP with rfl | ⟨b, off, rfl, h1, h2⟩
  · obtain rfl : n = 0 := by simpa using hl.symm
    exact (back1_nil F m h7 hro t Bs c a (J []) W hc' h0).mono fun e W' ⟨he, hj⟩ => ⟨he, .inl ⟨[], rfl, hj⟩⟩
  · have hbw : Below w0.heap.size w0 W := hb0.trans (hW.mono hb0.size)
    refine back1_in F m h7 hro hm t Bs w.heap.size G b off n c l hl hn hBs ⟨Nat.lt_of_lt_of_le h1 hb0.size, by omega⟩ J Jx hY W hc' (fun i hi => ?_) h0
    have h3 := h2 i hi
    exact ⟨cell_later hbw h3.1, cell_later hbw h3.2.1, cell_later hbw h3.2.2.1, cell_later hbw h3.2.2.2⟩
set_option maxHeartbeats 1000000 in
theorem back_in (F : Fence) (m : Nat) (h5 : F.fn 132) (hro : F.round = none) (a : Option Addr) (n c : Nat) (w : World) :
    CallsIn F m Try.prog 132 #[.slice a n c] w fun e w' => e = .returned (.func (.func 161) #[] #[.pointer (some ⟨w.heap.size, 0, none⟩)]) ∧ w' = w.alloc (.cells #[.slice a n c] 60) := by
  refine callsIn_of_wp Try.func132 rfl h5 ?_ hro
  simp only [Try.ntmps132, List.size_toArray, List.length_cons, List.length_nil, Nat.reduceAdd, Nat.reduceSub, Array.replicate_succ, Array.replicate_zero, List.push_toArray, List.append_toArray, List.nil_append, List.cons_append]
  gi_wp2
  go_ret
  exact ⟨rfl, rfl⟩
end Go.Proofs.Ytliaddmkomcmnaa
namespace Go.Proofs.Ytliaddmkomcmnaa
open Go.RowKit Go.Shelf
set_option linter.unusedVariables false
set_option maxRecDepth 100000
set_option linter.unusedSimpArgs false
attribute [local go_sem] Oper.semAt_some

/-- One step. -/
def hvF (X v c : Int × Int) : Int × Int := (lowN (lowN (v.1 * X.1) (v.2 * X.2) * c.2 + c.1 * lowD (v.1 * X.1) (v.2 * X.2)) (lowD (v.1 * X.1) (v.2 * X.2) * c.2), lowD (lowN (v.1 * X.1) (v.2 * X.2) * c.2 + c.1 * lowD (v.1 * X.1) (v.2 * X.2)) (lowD (v.1 * X.1) (v.2 * X.2) * c.2))
def hv (X : Int × Int) (cs : List (Int × Int)) : Int × Int := cs.foldl (hvF X) (0, 1)
theorem hv_snoc (X : Int × Int) (cs : List (Int × Int)) (c : Int × Int) : hv X (cs ++ [c]) = hvF X (hv X cs) c := by simp [hv]
structure Sm (c : Int × Int) : Prop where
  pos : 0 < c.2
  kn : Bd c.1 40
  kd : Bd c.2 40
structure Vg (k : Nat) (v : Int × Int) : Prop where
  low : Low v.1 v.2
  kn : Bd v.1 (200 * k + 1)
  kd : Bd v.2 (200 * k + 1)
theorem vg_nil : Vg 0 (0, 1) := ⟨⟨by decide, rfl⟩, Bd.small (by decide), Bd.small (by decide)⟩
theorem ne_of_pos {a b : Int} (h : 0 < a) (k : 0 < b) : a * b ≠ 0 := by have := Int.mul_pos h k; omega
theorem vg_mid {k : Nat} {X v : Int × Int} (h : Vg k v) (hX : Sm X) : 0 < lowD (v.1 * X.1) (v.2 * X.2) ∧ Bd (lowN (v.1 * X.1) (v.2 * X.2)) (200 * k + 41) ∧ Bd (lowD (v.1 * X.1) (v.2 * X.2)) (200 * k + 41) :=
  ⟨lowD_pos (ne_of_pos h.low.pos hX.pos), lowN_bd (h.kn.mul hX.kn), lowD_bd (h.kd.mul hX.kd)⟩
theorem vg_step {k : Nat} {X v c : Int × Int} (h : Vg k v) (hX : Sm X) (hc : Sm c) : Vg (k + 1) (hvF X v c) := by
  obtain ⟨m1, m2, m3⟩ := vg_mid h hX
  refine ⟨low_low (ne_of_pos m1 hc.pos), lowN_bd ?_, lowD_bd ?_⟩
  · exact (((m2.mul hc.kd).mono (L' := 200 * k + 81) (by omega)).add ((hc.kn.mul m3).mono (by omega))).mono (by omega)
  · exact (m3.mul hc.kd).mono (by omega)
theorem vg_from {X : Int × Int} (hX : Sm X) (cs : List (Int × Int)) (h : ∀ c ∈ cs, Sm c) : ∀ (k : Nat) (v : Int × Int), Vg k v → Vg (k + cs.length) (cs.foldl (hvF X) v) := by
  induction cs with
  | nil => intro k v hv; exact hv
  | cons c cs ih =>
    intro k v hv
    have := ih (fun d hd => h d (List.mem_cons_of_mem _ hd)) (k + 1) _ (vg_step hv hX (h c List.mem_cons_self))
    rw [List.foldl_cons, List.length_cons, show k + (cs.length + 1) = k + 1 + cs.length by omega]
    exact this
theorem vg_all {X : Int × Int} (hX : Sm X) (cs : List (Int × Int)) (h : ∀ c ∈ cs, Sm c) : Vg cs.length (hv X cs) := by
  have := vg_from hX cs h 0 _ vg_nil
  rw [Nat.zero_add] at this
  exact this
/-- What the walk keeps. -/
structure EvI (w : World) (x : QV) (V : Int × Int) (G : Nat) (W : World) : Prop where
  bel : Below w.heap.size w W
  x0 : W.cell? ⟨w.heap.size, 0, none⟩ = some (.bool x.num.g)
  x1 : W.cell? ⟨w.heap.size, 1, none⟩ = some (.slice x.num.a x.num.n x.num.c)
  x2 : W.cell? ⟨w.heap.size, 2, none⟩ = some (.bool x.den.g)
  x3 : W.cell? ⟨w.heap.size, 3, none⟩ = some (.slice x.den.a x.den.n x.den.c)
  r0 : W.cell? ⟨w.heap.size + 1, 0, none⟩ = some (.bool false)
  r1 : W.cell? ⟨w.heap.size + 1, 1, none⟩ = some (.slice none 0 0)
  r2 : W.cell? ⟨w.heap.size + 1, 2, none⟩ = some (.bool false)
  r3 : W.cell? ⟨w.heap.size + 1, 3, none⟩ = some (.slice none 0 0)
  rf : ∀ o, W.frozen? ⟨w.heap.size + 1, o, none⟩ = false
  gf : ∀ o, W.frozen? ⟨G, o, none⟩ = false
  lt : G + 1 < W.heap.size
  val : ∃ (u : QV) (zs us : List Int) (lo hi : Nat), W.cell? ⟨G, 0, none⟩ = some (.bool u.num.g) ∧ W.cell? ⟨G, 1, none⟩ = some (.slice u.num.a u.num.n u.num.c) ∧ W.cell? ⟨G, 2, none⟩ = some (.bool u.den.g) ∧ W.cell? ⟨G, 3, none⟩ = some (.slice u.den.a u.den.n u.den.c) ∧ w.heap.size + 2 ≤ lo ∧ hi ≤ W.heap.size ∧ (hi ≤ G ∨ G < lo) ∧ AllOwn lo hi W [(u.num, ⟨decide (V.1 < 0), zs⟩), (u.den, ⟨decide (V.2 < 0), us⟩)] ∧ AllAr W [(u.num, ⟨decide (V.1 < 0), zs⟩), (u.den, ⟨decide (V.2 < 0), us⟩)] ∧ Nm zs V.1.natAbs ∧ Nm us V.2.natAbs
theorem EvI.ck {w W W' : World} {x : QV} {V : Int × Int} {G : Nat} (h : EvI w x V G W) (c : CK W W') (hb : Below w.heap.size w W') : EvI w x V G W' := by
  obtain ⟨u, zs, us, lo, hi, c0, c1, c2, c3, h1, h2, h3, h4, h5, h6, h7⟩ := h.val
  exact ⟨hb, c.cell h.x0, c.cell h.x1, c.cell h.x2, c.cell h.x3, c.cell h.r0, c.cell h.r1, c.cell h.r2, c.cell h.r3, fun o => (c.frozen (q := ⟨w.heap.size + 1, o, none⟩) h.r0 rfl).trans (h.rf o), fun o => (c.frozen (q := ⟨G, o, none⟩) c0 rfl).trans (h.gf o), Nat.lt_of_lt_of_le h.lt c.size,
    ⟨u, zs, us, lo, hi, c.cell c0, c.cell c1, c.cell c2, c.cell c3, h1, Nat.le_trans h2 c.size, h3, c.own h4, c.ar h5, h6, h7⟩⟩
theorem evI_own {β : Type} {w : World} {x : QV} {G B : Nat} (f : β → Int × Int) (hB : w.heap.size ≤ B) : OwnFrom B (fun s W => EvI w x (f s) G W) := fun s A C row hs hg hr =>
  hs.ck (CK.of_grown hg (fun r e => (hr r e).2)) (hs.bel.grown hg hs.bel.size (fun k e => Nat.le_trans hB (hr k e).1))
theorem grown_of_below {W W' : World} (hb : Below W.heap.size W W') : W.grownBy W' none := ⟨hb.os, hb.tape, hb.output, hb.size, fun k hk _ => hb.block k hk⟩
theorem keeps_of_below {W W' : World} (hb : Below W.heap.size W W') : KeepsOthers W W' := KeepsOthers.of_grownBy (grown_of_below hb) (fun j o e _ => by cases e)

theorem fin_rev {β : Type} (l : List (QV × QD)) (n : Nat) (hl : l.length = n) (f : QV × QD → β) : (List.finRange n).reverse.map (fun k => f (l[k.1]'(by rw [hl]; exact k.2))) = l.reverse.map f := by
  subst hl
  rw [List.map_reverse, List.map_reverse]
  congr 1
  apply List.ext_getElem <;> simp
theorem evI_set {w W w2 w3 : World} {x v : QV} {V V2 : Int × Int} {G : Nat} {zs us : List Int} {y0 y1 y2 y3 : Value} (hi : EvI w x V G W) (h1 : Below W.heap.size W w2) (h2 : Below w2.heap.size w2 w3)
    (c0 : w3.cell? ⟨G, 0, none⟩ = some y0) (c1 : w3.cell? ⟨G, 1, none⟩ = some y1) (c2 : w3.cell? ⟨G, 2, none⟩ = some y2) (c3 : w3.cell? ⟨G, 3, none⟩ = some y3) (gfr : ∀ o, w3.frozen? ⟨G, o, none⟩ = false)
    (ow : AllOwn w2.heap.size w3.heap.size w3 [(v.num, ⟨decide (V2.1 < 0), zs⟩), (v.den, ⟨decide (V2.2 < 0), us⟩)]) (ar : AllAr w3 [(v.num, ⟨decide (V2.1 < 0), zs⟩), (v.den, ⟨decide (V2.2 < 0), us⟩)]) (n1 : Nm zs V2.1.natAbs) (n2 : Nm us V2.2.natAbs) (hG : w.heap.size + 2 ≤ G) :
    KeepsOthers W ((((w3.setCell ⟨G, 0, none⟩ (.bool v.num.g)).setCell ⟨G, 1, none⟩ (.slice v.num.a v.num.n v.num.c)).setCell ⟨G, 2, none⟩ (.bool v.den.g)).setCell ⟨G, 3, none⟩ (.slice v.den.a v.den.n v.den.c)) ∧ But G (G + 1) W ((((w3.setCell ⟨G, 0, none⟩ (.bool v.num.g)).setCell ⟨G, 1, none⟩ (.slice v.num.a v.num.n v.num.c)).setCell ⟨G, 2, none⟩ (.bool v.den.g)).setCell ⟨G, 3, none⟩ (.slice v.den.a v.den.n v.den.c)) ∧ EvI w x V2 G ((((w3.setCell ⟨G, 0, none⟩ (.bool v.num.g)).setCell ⟨G, 1, none⟩ (.slice v.num.a v.num.n v.num.c)).setCell ⟨G, 2, none⟩ (.bool v.den.g)).setCell ⟨G, 3, none⟩ (.slice v.den.a v.den.n v.den.c)) := by
  have hb : Below W.heap.size W w3 := below_on h1 h2
  have bt : But G (G + 1) w3 ((((w3.setCell ⟨G, 0, none⟩ (.bool v.num.g)).setCell ⟨G, 1, none⟩ (.slice v.num.a v.num.n v.num.c)).setCell ⟨G, 2, none⟩ (.bool v.den.g)).setCell ⟨G, 3, none⟩ (.slice v.den.a v.den.n v.den.c)) := ((((But.refl _ _ _).set (p := ⟨G, 0, none⟩) (Nat.le_refl _) (Nat.lt_succ_self _) _).set (p := ⟨G, 1, none⟩) (Nat.le_refl _) (Nat.lt_succ_self _) _).set (p := ⟨G, 2, none⟩) (Nat.le_refl _) (Nat.lt_succ_self _) _).set (p := ⟨G, 3, none⟩) (Nat.le_refl _) (Nat.lt_succ_self _) _
  have bw : But G (G + 1) W ((((w3.setCell ⟨G, 0, none⟩ (.bool v.num.g)).setCell ⟨G, 1, none⟩ (.slice v.num.a v.num.n v.num.c)).setCell ⟨G, 2, none⟩ (.bool v.den.g)).setCell ⟨G, 3, none⟩ (.slice v.den.a v.den.n v.den.c)) := (But.of_below hb).trans bt
  have s2 := h1.size
  have sl := hi.lt
  refine ⟨(keeps_of_below hb).trans ((((KeepsOthers.setCell _ _ _).trans (KeepsOthers.setCell _ _ _)).trans (KeepsOthers.setCell _ _ _)).trans (KeepsOthers.setCell _ _ _)), bw, ?_⟩
  refine ⟨bt.below (below_on hi.bel hb) (by omega) (by have := hi.bel.size; have := hb.size; omega), bw.cell hi.x0 (.inl (by omega)), bw.cell hi.x1 (.inl (by omega)), bw.cell hi.x2 (.inl (by omega)), bw.cell hi.x3 (.inl (by omega)), bw.cell hi.r0 (.inl (by omega)), bw.cell hi.r1 (.inl (by omega)), bw.cell hi.r2 (.inl (by omega)), bw.cell hi.r3 (.inl (by omega)), ?_, ?_, Nat.lt_of_lt_of_le hi.lt bw.size, ?_⟩
  · intro o
    exact (World.frozen?_of_block (a := ⟨w.heap.size + 1, o, none⟩) (bw.block _ (by show w.heap.size + 1 < _; omega) (.inl (by show w.heap.size + 1 < _; omega)))).trans (hi.rf o)
  · intro o
    simp only [World.frozen?_setCell]
    exact gfr o
  · exact ⟨v, zs, us, w2.heap.size, w3.heap.size, by simp [go_sem, c0, c1, c2, c3], by simp [go_sem, c0, c1, c2, c3], by simp [go_sem, c0, c1, c2, c3], by simp [go_sem, c0, c1, c2, c3], by omega, bt.size, .inr (by omega), ow.but bt (.inr (by omega)), ar_fin bt ow ar (by omega), n1, n2⟩

set_option maxRecDepth 100000 in
set_option maxHeartbeats 4000000 in
theorem valueI (a : Option Addr) (n c : Nat) (l : List (QV × QD)) (x : QV) (X : Int × Int) (w : World) (h : PArQ w a n c l) (hg : ∀ y ∈ l, IsGood w y.1 y.2) (hn : n ≤ 7) (hx : IsQ w x X.1 X.2) (hX : Sm X) :
    Calls Try.prog 84 #[.slice a n c, .agg #[.bool x.num.g, .slice x.num.a x.num.n x.num.c, .bool x.den.g, .slice x.den.a x.den.n x.den.c]] w (OutQ w (hv X (l.reverse.map fun y => (nQ y.2, dQ y.2))).1 (hv X (l.reverse.map fun y => (nQ y.2, dQ y.2))).2) := by
  have hl := h.len
  have HP := hide h
  have HG := hide hg
  have IX := hide hx
  clear h hg hx
  have B0 := hide (show Below w.heap.size w ((w.alloc (.cells #[.bool x.num.g, .slice x.num.a x.num.n x.num.c, .bool x.den.g, .slice x.den.a x.den.n x.den.c] 33)).alloc (.cells #[.bool false, .slice none 0 0, .bool false, .slice none 0 0] 33)) from ((Below.refl _ _).alloc (by simp) _).alloc (by simp) _)
  refine (callsIn_wide (n := 6)).1 ?_
  refine callsIn_of_wp_marks Try.func84 rfl trivial ?_ rfl
  simp only [Try.ntmps84, List.size_toArray, List.length_cons, List.length_nil, Nat.reduceAdd, Nat.reduceSub, Array.replicate_succ, Array.replicate_zero, List.push_toArray, List.append_toArray, List.nil_append, List.cons_append]
  gi_wp2_with (refine ⟨trivial, ?_⟩; gi_at_call 128; refine (callsIn_wide.2 (wholeI 0 _ (by omega) (by omega))).mono ?_; rintro e w1 ⟨q0, zs0, us0, rfl, hb1, o1, a1, m1, m2⟩)
  have s1 : w.heap.size + 2 ≤ w1.heap.size := by have := hb1.size; simp at this; omega
  replace o1 := o1.wide (lo' := w.heap.size + 2) (by simp) (Nat.le_refl _)
  have HB1 := hide (below_on (unhide B0) hb1)
  have O1 := hide o1
  have A1 := hide a1
  have M1 := hide (And.intro m1 m2)
  have X0 : Hid (w1.cell? ⟨w.heap.size, 0, none⟩ = some (.bool x.num.g)) := hide (cell_later hb1 (by simp [go_sem]))
  have X1 : Hid (w1.cell? ⟨w.heap.size, 1, none⟩ = some (.slice x.num.a x.num.n x.num.c)) := hide (cell_later hb1 (by simp [go_sem]))
  have X2 : Hid (w1.cell? ⟨w.heap.size, 2, none⟩ = some (.bool x.den.g)) := hide (cell_later hb1 (by simp [go_sem]))
  have X3 : Hid (w1.cell? ⟨w.heap.size, 3, none⟩ = some (.slice x.den.a x.den.n x.den.c)) := hide (cell_later hb1 (by simp [go_sem]))
  have R0 : Hid (w1.cell? ⟨w.heap.size + 1, 0, none⟩ = some (.bool false)) := hide (cell_later hb1 (by simp [go_sem]))
  have R1 : Hid (w1.cell? ⟨w.heap.size + 1, 1, none⟩ = some (.slice none 0 0)) := hide (cell_later hb1 (by simp [go_sem]))
  have R2 : Hid (w1.cell? ⟨w.heap.size + 1, 2, none⟩ = some (.bool false)) := hide (cell_later hb1 (by simp [go_sem]))
  have R3 : Hid (w1.cell? ⟨w.heap.size + 1, 3, none⟩ = some (.slice none 0 0)) := hide (cell_later hb1 (by simp [go_sem]))
  have RF : Hid (∀ o, w1.frozen? ⟨w.heap.size + 1, o, none⟩ = false) := hide (fun o => frozen_later hb1 (by simp) (by simp [go_sem]))
  clear hb1 o1 a1 m1 m2 B0
  gi_wp2_with (refine ⟨trivial, ?_⟩; gi_at_call 132; refine (back_in Fence.wide _ trivial rfl _ _ _ _).mono ?_; rintro e w' ⟨rfl, rfl⟩)
  obtain ⟨W0, hW0⟩ : ∃ W0, (w1.alloc (.cells #[.bool q0.num.g, .slice q0.num.a q0.num.n q0.num.c, .bool q0.den.g, .slice q0.den.a q0.den.n q0.den.c] 33)).alloc (.cells #[.slice a n c] 60) = W0 := ⟨_, rfl⟩
  have sz0 : W0.heap.size = w1.heap.size + 2 := by rw [← hW0]; simp
  have hbz : Below w1.heap.size w1 W0 := by rw [← hW0]; exact ((Below.refl _ _).alloc (Nat.le_refl _) _).alloc (by simp) _
  have hcs : W0.cell? ⟨w1.heap.size + 1, 0, none⟩ = some (.slice a n c) := by rw [← hW0]; simp [go_sem]
  have E0 : Hid (EvI w x (hv X []) w1.heap.size W0) := hide ⟨below_on (unhide HB1) hbz, cell_later hbz (unhide X0), cell_later hbz (unhide X1), cell_later hbz (unhide X2), cell_later hbz (unhide X3), cell_later hbz (unhide R0), cell_later hbz (unhide R1), cell_later hbz (unhide R2), cell_later hbz (unhide R3),
    fun o => frozen_later hbz (by omega) ((unhide RF) o), fun o => by rw [← hW0]; simp [go_sem], by omega,
    ⟨q0, zs0, us0, w.heap.size + 2, w1.heap.size, by rw [← hW0]; simp [go_sem], by rw [← hW0]; simp [go_sem], by rw [← hW0]; simp [go_sem], by rw [← hW0]; simp [go_sem], Nat.le_refl _, by omega, .inl (Nat.le_refl _), (unhide O1).later hbz, (unhide A1).later hbz, (unhide M1).1, (unhide M1).2⟩⟩
  have HP0 := hide (below_on (unhide HB1) hbz)
  rw [hW0]
  clear X0 X1 X2 X3 R0 R1 R2 R3 RF O1 A1 M1 hbz hW0
  refine wpIn_rangeFunc_ownH rfl (by omega) (gf := 161) (lb := #[.pointer (some ⟨w1.heap.size + 1, 0, none⟩)]) rfl trivial (enters_of Try.func161 (by kernel_rfl) rfl)
    (back_stops Fence.wide _ trivial rfl (by omega) (w1.heap.size + 1) w1.heap.size n c a l hl (by omega) w W0 (unhide HP).at_ (unhide HP0) (by omega) ⟨by omega, by omega⟩ hcs) KB.trans (fun W t o o' h _ _ _ => KB.put W t o o' h) (Below.refl _ _) (fun _ => rfl)
    (fun pre W => EvI w x (hv X (pre.map fun k => (nQ (l[k.1]'(by rw [hl]; exact k.2)).2, dQ (l[k.1]'(by rw [hl]; exact k.2)).2))) w1.heap.size W) (fun _ _ _ => False) (evI_own (w := w) (x := x) (G := w1.heap.size) (B := W0.heap.size) (fun pre : List (Fin n) => hv X (pre.map fun k => (nQ (l[k.1]'(by rw [hl]; exact k.2)).2, dQ (l[k.1]'(by rw [hl]; exact k.2)).2))) (by omega)) (fun _ _ _ _ _ h _ _ => h) (unhide E0)
    (fun k a' W => ∃ Bx, w1.heap.size < Bx ∧ W.cell? ⟨Bx, 0, none⟩ = some (.bool (l[k.1]'(by rw [hl]; exact k.2)).1.num.g) ∧ W.cell? ⟨Bx, 1, none⟩ = some (.slice (l[k.1]'(by rw [hl]; exact k.2)).1.num.a (l[k.1]'(by rw [hl]; exact k.2)).1.num.n (l[k.1]'(by rw [hl]; exact k.2)).1.num.c) ∧ W.cell? ⟨Bx, 2, none⟩ = some (.bool (l[k.1]'(by rw [hl]; exact k.2)).1.den.g) ∧ W.cell? ⟨Bx, 3, none⟩ = some (.slice (l[k.1]'(by rw [hl]; exact k.2)).1.den.a (l[k.1]'(by rw [hl]; exact k.2)).1.den.n (l[k.1]'(by rw [hl]; exact k.2)).1.den.c) ∧ a' = { tmps := #[.slice a n c, .agg #[.bool x.num.g, .slice x.num.a x.num.n x.num.c, .bool x.den.g, .slice x.den.a x.den.n x.den.c], undef, .pointer (some ⟨w.heap.size, 0, none⟩), .pointer (some ⟨w.heap.size + 1, 0, none⟩), .pointer (some ⟨w1.heap.size, 0, none⟩), undef, .pointer (some ⟨Bx, 0, none⟩), .agg #[.bool q0.num.g, .slice q0.num.a q0.num.n q0.num.c, .bool q0.den.g, .slice q0.den.a q0.den.n q0.den.c], .slice a n c, .func (.func 161) #[] #[.pointer (some ⟨w1.heap.size + 1, 0, none⟩)], .int .i64 (k.1 : Nat), .agg #[.bool (l[k.1]'(by rw [hl]; exact k.2)).1.num.g, .slice (l[k.1]'(by rw [hl]; exact k.2)).1.num.a (l[k.1]'(by rw [hl]; exact k.2)).1.num.n (l[k.1]'(by rw [hl]; exact k.2)).1.num.c, .bool (l[k.1]'(by rw [hl]; exact k.2)).1.den.g, .slice (l[k.1]'(by rw [hl]; exact k.2)).1.den.a (l[k.1]'(by rw [hl]; exact k.2)).1.den.n (l[k.1]'(by rw [hl]; exact k.2)).1.den.c], undef, undef, undef, undef, undef, undef], defers := [] })
    (fun k a' s A B row hs hg hr => by obtain ⟨Bx, h0, h1, h2, h3, h4, h5⟩ := hs; have ck := CK.of_grown hg (fun r e => (hr r e).2); exact ⟨Bx, h0, ck.cell h1, ck.cell h2, ck.cell h3, ck.cell h4, h5⟩) ?assign ?body ?done ?stop
  case assign =>
    rintro t pre k W K hi hK
    have sW := hi.lt
    have HI := hide hi
    clear hi
    gi_wp2
    have al : Below W.heap.size W (W.alloc (.cells #[.bool (l[k.1]'(by rw [hl]; exact k.2)).1.num.g, .slice (l[k.1]'(by rw [hl]; exact k.2)).1.num.a (l[k.1]'(by rw [hl]; exact k.2)).1.num.n (l[k.1]'(by rw [hl]; exact k.2)).1.num.c, .bool (l[k.1]'(by rw [hl]; exact k.2)).1.den.g, .slice (l[k.1]'(by rw [hl]; exact k.2)).1.den.a (l[k.1]'(by rw [hl]; exact k.2)).1.den.n (l[k.1]'(by rw [hl]; exact k.2)).1.den.c] 33)) := (Below.refl _ _).alloc (Nat.le_refl _) _
    exact hK _ _ ((KeepsOthers.alloc _ _).from _) (KB.of_but (But.of_below al) (by omega)) ((unhide HI).ck (CK.of_below al) (below_on (unhide HI).bel al)) ⟨W.heap.size, by omega, by simp [go_sem], by simp [go_sem], by simp [go_sem], by simp [go_sem], rfl⟩
  case body =>
    rintro t pre k a' W ht ⟨r, hr⟩ hi ⟨Bx, hBx, T0, T1, T2, T3, rfl⟩ hlen
    have tlt : t < W.heap.size := (Array.getElem?_eq_some_iff.1 hr).1
    have hmx : Try.prog.follows .mixedOrders = true := by kernel_rfl
    have d1 : 1 ≤ 6 - 1 - 1 := by omega
    have x0 := hi.x0
    have x1 := hi.x1
    have x2 := hi.x2
    have x3 := hi.x3
    have gfr := hi.gf
    have MY : Hid ((l[k.1]'(by rw [hl]; exact k.2)) ∈ l) := hide (List.getElem_mem _)
    have CP : Hid (hv X ((pre ++ [k]).map fun k => (nQ (l[k.1]'(by rw [hl]; exact k.2)).2, dQ (l[k.1]'(by rw [hl]; exact k.2)).2)) = hvF X (hv X (pre.map fun k => (nQ (l[k.1]'(by rw [hl]; exact k.2)).2, dQ (l[k.1]'(by rw [hl]; exact k.2)).2))) (nQ (l[k.1]'(by rw [hl]; exact k.2)).2, dQ (l[k.1]'(by rw [hl]; exact k.2)).2)) := hide (by rw [List.map_append]; exact hv_snoc _ _ _)
    have VG : Hid (∃ j, j ≤ 7 ∧ Vg j (hv X (pre.map fun k => (nQ (l[k.1]'(by rw [hl]; exact k.2)).2, dQ (l[k.1]'(by rw [hl]; exact k.2)).2)))) := hide ⟨_, by rw [List.length_map]; omega, vg_all hX _ (fun d hd => by
      obtain ⟨k', _, rfl⟩ := List.mem_map.1 hd
      have q := (unhide HG) (l[k'.1]'(by rw [hl]; exact k'.2)) (List.getElem_mem _)
      exact ⟨q.pos, q.kn, q.kd⟩)⟩
    have UU := hide hi.val
    have HI := hide hi
    clear hi
    obtain ⟨V2, hV2⟩ : ∃ V2, V2 = hv X ((pre ++ [k]).map fun k => (nQ (l[k.1]'(by rw [hl]; exact k.2)).2, dQ (l[k.1]'(by rw [hl]; exact k.2)).2)) := ⟨_, rfl⟩
    rw [← hV2] at CP
    have HV2 := hide hV2
    clear hV2
    generalize hv X (pre.map fun k => (nQ (l[k.1]'(by rw [hl]; exact k.2)).2, dQ (l[k.1]'(by rw [hl]; exact k.2)).2)) = V at *
    generalize (l[k.1]'(by rw [hl]; exact k.2)) = y at *
    obtain ⟨u, zs, us, lo, hi, c0, c1, c2, c3, g1, g2, g3, g4, g5, g6, g7⟩ := unhide UU
    obtain ⟨j, hj, hvg⟩ := unhide VG
    have IU := hide (isQ_of g5 g6 g7)
    have IXW := hide ((unhide IX).later (unhide HI).bel)
    have IY := hide (((unhide HG) y (unhide MY)).later (unhide HI).bel)
    have VJ := hide hvg
    have VM := hide (vg_mid hvg hX)
    clear g1 g2 g3 g4 g5 g6 g7 hvg UU VG
    have sW : W0.heap.size ≤ W.heap.size := by omega
    gi_wp2
    gi_region_with_o (first
      | (refine ⟨trivial, ?_⟩; gi_at_call 125; refine (CallsIn.inRound t (callsIn_wide.2 (mulQI u x V.1 V.2 X.1 X.2 _ ?_ ?_ (ne_of_pos (unhide VJ).low.pos hX.pos) ((unhide VJ).kn.mono (by omega)) ((unhide VJ).kd.mono (by omega)) (hX.kn.mono (by omega)) (hX.kd.mono (by omega))))).mono ?_; exact (unhide IU).drew; exact (unhide IXW).drew; rintro e w2 ⟨mm, lz, lu, rfl, hb1, o2, a2, m1, m2⟩; have hbx := below_of_drew hb1; have sz2 := hbx.size; have IM := hide (isQ_of a2 m1 m2); replace T0 := cell_later hbx T0; replace T1 := cell_later hbx T1; replace T2 := cell_later hbx T2; replace T3 := cell_later hbx T3; replace gfr := fun o => frozen_later hbx (World.block_lt_of_cell? _ _ c0) (gfr o); replace c0 := cell_later hbx c0; replace c1 := cell_later hbx c1; replace c2 := cell_later hbx c2; replace c3 := cell_later hbx c3; replace IY := hide ((unhide IY).later hbx); have HB1 := hide hbx; clear hbx hb1 o2 a2 m1 m2 x0 x1 x2 x3)
      | (refine ⟨trivial, ?_⟩; gi_at_call 133; refine (CallsIn.inRound t (callsIn_wide.2 (addQI mm y.1 (lowN (V.1 * X.1) (V.2 * X.2)) (lowD (V.1 * X.1) (V.2 * X.2)) (nQ y.2) (dQ y.2) _ (unhide IM) (unhide IY).is (ne_of_pos (unhide VM).1 (unhide IY).pos) ((unhide VM).2.1.mono (by omega)) ((unhide VM).2.2.mono (by omega)) ((unhide IY).kn.mono (by omega)) ((unhide IY).kd.mono (by omega))))).mono ?_; rintro e w3 ⟨v, lz', lu', rfl, hb2, o3, a3, n1, n2⟩; have sz3 := hb2.size; have O3 := hide o3; have A3 := hide a3; have N3 := hide (And.intro n1 n2); replace gfr := fun o => frozen_later hb2 (World.block_lt_of_cell? _ _ c0) (gfr o); replace c0 := cell_later hb2 c0; replace c1 := cell_later hb2 c1; replace c2 := cell_later hb2 c2; replace c3 := cell_later hb2 c3; have HB2 := hide hb2; clear hb2 o3 a3 n1 n2 T0 T1 T2 T3))
    all_goals clear IM IY
    all_goals gi_wp2
    all_goals
      obtain ⟨q1, q2, q3⟩ := evI_set (V2 := hvF X V (nQ y.2, dQ y.2)) (unhide HI) (unhide HB1) (unhide HB2) c0 c1 c2 c3 gfr (unhide O3) (unhide A3) (unhide N3).1 (unhide N3).2 (by omega)
      refine ⟨q1.from _, KB.of_but q2 sW, ?_⟩
      show EvI w x (hv X ((pre ++ [k]).map _)) _ _
      rw [← unhide HV2, unhide CP]
      exact q3
  case done =>
    rintro D ys W hD rfl hi hK
    have EV : Hid ((List.finRange n).reverse.map (fun k => (nQ (l[k.1]'(by rw [hl]; exact k.2)).2, dQ (l[k.1]'(by rw [hl]; exact k.2)).2)) = l.reverse.map fun y => (nQ y.2, dQ y.2)) := hide (fin_rev l n hl fun y => (nQ y.2, dQ y.2))
    replace hi : EvI w x (hv X ((List.finRange n).reverse.map (fun k => (nQ (l[k.1]'(by rw [hl]; exact k.2)).2, dQ (l[k.1]'(by rw [hl]; exact k.2)).2)))) w1.heap.size W := hi
    rw [unhide EV] at hi
    obtain ⟨V, hV⟩ : ∃ V, V = hv X (l.reverse.map fun y => (nQ y.2, dQ y.2)) := ⟨_, rfl⟩
    rw [← hV] at hi
    have HV := hide hV
    clear hV
    obtain ⟨u, zs, us, lo, hi', c0, c1, c2, c3, g1, g2, g3, g4, g5, g6, g7⟩ := hi.val
    have r0 := hi.r0
    have r1 := hi.r1
    have r2 := hi.r2
    have r3 := hi.r3
    have rf := hi.rf
    have HI := hide hi
    have G4 := hide g4
    have G5 := hide g5
    have G67 := hide (And.intro g6 g7)
    clear hi g4 g5 g6 g7
    gi_wp2
    have bt : But (w.heap.size + 1) (w.heap.size + 1 + 1) W ((((W.setCell ⟨w.heap.size + 1, 0, none⟩ (.bool u.num.g)).setCell ⟨w.heap.size + 1, 1, none⟩ (.slice u.num.a u.num.n u.num.c)).setCell ⟨w.heap.size + 1, 2, none⟩ (.bool u.den.g)).setCell ⟨w.heap.size + 1, 3, none⟩ (.slice u.den.a u.den.n u.den.c)) := ((((But.refl _ _ _).set (p := ⟨w.heap.size + 1, 0, none⟩) (Nat.le_refl _) (Nat.lt_succ_self _) _).set (p := ⟨w.heap.size + 1, 1, none⟩) (Nat.le_refl _) (Nat.lt_succ_self _) _).set (p := ⟨w.heap.size + 1, 2, none⟩) (Nat.le_refl _) (Nat.lt_succ_self _) _).set (p := ⟨w.heap.size + 1, 3, none⟩) (Nat.le_refl _) (Nat.lt_succ_self _) _
    have q0 : ((((W.setCell ⟨w.heap.size + 1, 0, none⟩ (.bool u.num.g)).setCell ⟨w.heap.size + 1, 1, none⟩ (.slice u.num.a u.num.n u.num.c)).setCell ⟨w.heap.size + 1, 2, none⟩ (.bool u.den.g)).setCell ⟨w.heap.size + 1, 3, none⟩ (.slice u.den.a u.den.n u.den.c)).cell? ⟨w.heap.size + 1, 0, none⟩ = some (.bool u.num.g) := by simp [go_sem, r0, r1, r2, r3]
    have q1 : ((((W.setCell ⟨w.heap.size + 1, 0, none⟩ (.bool u.num.g)).setCell ⟨w.heap.size + 1, 1, none⟩ (.slice u.num.a u.num.n u.num.c)).setCell ⟨w.heap.size + 1, 2, none⟩ (.bool u.den.g)).setCell ⟨w.heap.size + 1, 3, none⟩ (.slice u.den.a u.den.n u.den.c)).cell? ⟨w.heap.size + 1, 1, none⟩ = some (.slice u.num.a u.num.n u.num.c) := by simp [go_sem, r0, r1, r2, r3]
    have q2 : ((((W.setCell ⟨w.heap.size + 1, 0, none⟩ (.bool u.num.g)).setCell ⟨w.heap.size + 1, 1, none⟩ (.slice u.num.a u.num.n u.num.c)).setCell ⟨w.heap.size + 1, 2, none⟩ (.bool u.den.g)).setCell ⟨w.heap.size + 1, 3, none⟩ (.slice u.den.a u.den.n u.den.c)).cell? ⟨w.heap.size + 1, 2, none⟩ = some (.bool u.den.g) := by simp [go_sem, r0, r1, r2, r3]
    have q3 : ((((W.setCell ⟨w.heap.size + 1, 0, none⟩ (.bool u.num.g)).setCell ⟨w.heap.size + 1, 1, none⟩ (.slice u.num.a u.num.n u.num.c)).setCell ⟨w.heap.size + 1, 2, none⟩ (.bool u.den.g)).setCell ⟨w.heap.size + 1, 3, none⟩ (.slice u.den.a u.den.n u.den.c)).cell? ⟨w.heap.size + 1, 3, none⟩ = some (.slice u.den.a u.den.n u.den.c) := by simp [go_sem, r0, r1, r2, r3]
    have hK' : ((((W.setCell ⟨w.heap.size + 1, 0, none⟩ (.bool u.num.g)).setCell ⟨w.heap.size + 1, 1, none⟩ (.slice u.num.a u.num.n u.num.c)).setCell ⟨w.heap.size + 1, 2, none⟩ (.bool u.den.g)).setCell ⟨w.heap.size + 1, 3, none⟩ (.slice u.den.a u.den.n u.den.c)).heap[D]? = some (.deferred (some [])) := (bt.block D (Array.getElem?_eq_some_iff.1 hK).1 (.inr (by omega))).trans hK
    generalize ((((W.setCell ⟨w.heap.size + 1, 0, none⟩ (.bool u.num.g)).setCell ⟨w.heap.size + 1, 1, none⟩ (.slice u.num.a u.num.n u.num.c)).setCell ⟨w.heap.size + 1, 2, none⟩ (.bool u.den.g)).setCell ⟨w.heap.size + 1, 3, none⟩ (.slice u.den.a u.den.n u.den.c)) = W' at *
    have ck : CK W' (W'.putObj D (.deferred none)) := CK.of_grown (grownBy_putObj' W' D _) (fun r e => by cases e; exact ⟨_, hK', rfl⟩)
    replace q0 := ck.cell q0
    replace q1 := ck.cell q1
    replace q2 := ck.cell q2
    replace q3 := ck.cell q3
    refine ⟨by simp, .inl ⟨_, _, rfl, run_takeDeferred hK', ?_⟩⟩
    refine ⟨.agg #[.bool u.num.g, .slice u.num.a u.num.n u.num.c, .bool u.den.g, .slice u.den.a u.den.n u.den.c], by simp [results, Try.results84, go_sem, q0, q1, q2, q3], ?_⟩
    rw [← unhide HV]
    have ow := (unhide G4).but bt (.inr (by omega))
    have bb : Below w.heap.size w W' := bt.below (unhide HI).bel (by omega) (unhide HI).bel.size
    have sz := bt.size
    have szp := ck.size
    exact ⟨u, zs, us, rfl, bb.trans ⟨rfl, rfl, rfl, szp, fun i hi => World.putObj_heap_other (by omega)⟩, (ck.own ow).wide (by omega) (by omega), ck.ar (ar_fin bt (unhide G4) (unhide G5) (by omega)), (unhide G67).1, (unhide G67).2⟩
  case stop =>
    rintro D c pre W _ _ h _
    exact h.elim
end Go.Proofs.Ytliaddmkomcmnaa
namespace Go.Proofs.Ytliaddmkomcmnaa
open Go.RowKit
set_option linter.unusedVariables false
set_option maxRecDepth 100000
set_option linter.unusedSimpArgs false

structure EvS (w : World) (x : QV) (V : Int × Int) (G : Nat) (W : World) : Prop where
  bel : Below w.heap.size w W
  x0 : W.cell? ⟨w.heap.size, 0, none⟩ = some (.bool x.num.g)
  x1 : W.cell? ⟨w.heap.size, 1, none⟩ = some (.slice x.num.a x.num.n x.num.c)
  x2 : W.cell? ⟨w.heap.size, 2, none⟩ = some (.bool x.den.g)
  x3 : W.cell? ⟨w.heap.size, 3, none⟩ = some (.slice x.den.a x.den.n x.den.c)
  r0 : W.cell? ⟨w.heap.size + 1, 0, none⟩ = some (.bool false)
  r1 : W.cell? ⟨w.heap.size + 1, 1, none⟩ = some (.slice none 0 0)
  r2 : W.cell? ⟨w.heap.size + 1, 2, none⟩ = some (.bool false)
  r3 : W.cell? ⟨w.heap.size + 1, 3, none⟩ = some (.slice none 0 0)
  rf : ∀ o, W.frozen? ⟨w.heap.size + 1, o, none⟩ = false
  gf : ∀ o, W.frozen? ⟨G, o, none⟩ = false
  lt : G < W.heap.size
  val : ∃ (u : QV) (lo hi : Nat), W.cell? ⟨G, 0, none⟩ = some (.bool u.num.g) ∧ W.cell? ⟨G, 1, none⟩ = some (.slice u.num.a u.num.n u.num.c) ∧ W.cell? ⟨G, 2, none⟩ = some (.bool u.den.g) ∧ W.cell? ⟨G, 3, none⟩ = some (.slice u.den.a u.den.n u.den.c) ∧ w.heap.size + 2 ≤ lo ∧ hi ≤ W.heap.size ∧ (hi ≤ G ∨ G < lo) ∧ Ow lo hi W u.num V.1 ∧ Ow lo hi W u.den V.2
theorem evS_set {w W w2 w3 : World} {x v : QV} {V V2 : Int × Int} {G : Nat} {y0 y1 y2 y3 : Value} (hi : EvS w x V G W) (h1 : Below W.heap.size W w2) (h2 : Below w2.heap.size w2 w3)
    (c0 : w3.cell? ⟨G, 0, none⟩ = some y0) (c1 : w3.cell? ⟨G, 1, none⟩ = some y1) (c2 : w3.cell? ⟨G, 2, none⟩ = some y2) (c3 : w3.cell? ⟨G, 3, none⟩ = some y3) (gfr : ∀ o, w3.frozen? ⟨G, o, none⟩ = false)
    (o1 : Ow w2.heap.size w3.heap.size w3 v.num V2.1) (o2 : Ow w2.heap.size w3.heap.size w3 v.den V2.2) (hG : w.heap.size + 2 ≤ G) : EvS w x V2 G ((((w3.setCell ⟨G, 0, none⟩ (.bool v.num.g)).setCell ⟨G, 1, none⟩ (.slice v.num.a v.num.n v.num.c)).setCell ⟨G, 2, none⟩ (.bool v.den.g)).setCell ⟨G, 3, none⟩ (.slice v.den.a v.den.n v.den.c)) := by
  have hb : Below W.heap.size W w3 := below_on h1 h2
  have bt : But G (G + 1) w3 ((((w3.setCell ⟨G, 0, none⟩ (.bool v.num.g)).setCell ⟨G, 1, none⟩ (.slice v.num.a v.num.n v.num.c)).setCell ⟨G, 2, none⟩ (.bool v.den.g)).setCell ⟨G, 3, none⟩ (.slice v.den.a v.den.n v.den.c)) := ((((But.refl _ _ _).set (p := ⟨G, 0, none⟩) (Nat.le_refl _) (Nat.lt_succ_self _) _).set (p := ⟨G, 1, none⟩) (Nat.le_refl _) (Nat.lt_succ_self _) _).set (p := ⟨G, 2, none⟩) (Nat.le_refl _) (Nat.lt_succ_self _) _).set (p := ⟨G, 3, none⟩) (Nat.le_refl _) (Nat.lt_succ_self _) _
  have bw : But G (G + 1) W ((((w3.setCell ⟨G, 0, none⟩ (.bool v.num.g)).setCell ⟨G, 1, none⟩ (.slice v.num.a v.num.n v.num.c)).setCell ⟨G, 2, none⟩ (.bool v.den.g)).setCell ⟨G, 3, none⟩ (.slice v.den.a v.den.n v.den.c)) := (But.of_below hb).trans bt
  have s2 := h1.size
  have sl := hi.lt
  refine ⟨bt.below (below_on hi.bel hb) (by omega) (by have := hi.bel.size; have := hb.size; omega), bw.cell hi.x0 (.inl (by omega)), bw.cell hi.x1 (.inl (by omega)), bw.cell hi.x2 (.inl (by omega)), bw.cell hi.x3 (.inl (by omega)), bw.cell hi.r0 (.inl (by omega)), bw.cell hi.r1 (.inl (by omega)), bw.cell hi.r2 (.inl (by omega)), bw.cell hi.r3 (.inl (by omega)), ?_, ?_, Nat.lt_of_lt_of_le hi.lt bw.size, ?_⟩
  · intro o
    exact (World.frozen?_of_block (a := ⟨w.heap.size + 1, o, none⟩) (bw.block _ (by show w.heap.size + 1 < _; omega) (.inl (by show w.heap.size + 1 < _; omega)))).trans (hi.rf o)
  · intro o
    simp only [World.frozen?_setCell]
    exact gfr o
  · exact ⟨v, w2.heap.size, w3.heap.size, by simp [go_sem, c0, c1, c2, c3], by simp [go_sem, c0, c1, c2, c3], by simp [go_sem, c0, c1, c2, c3], by simp [go_sem, c0, c1, c2, c3], by omega, bt.size, .inr (by omega), o1.but bt (.inr (by omega)), o2.but bt (.inr (by omega))⟩
theorem take_rev {X : Int × Int} {l : List (QV × QD)} {n j : Nat} (hl : l.length = n) (hj : j < n) : hv X ((l.reverse.take (j + 1)).map fun y => (nQ y.2, dQ y.2)) = hvF X (hv X ((l.reverse.take j).map fun y => (nQ y.2, dQ y.2))) (nQ (l[n - 1 - j]'(by omega)).2, dQ (l[n - 1 - j]'(by omega)).2) := by
  subst hl
  rw [← List.take_append_getElem (by simp; exact hj), List.map_append]
  simp only [List.map_cons, List.map_nil, List.getElem_reverse]
  exact hv_snoc _ _ _
set_option maxRecDepth 100000 in
set_option maxHeartbeats 8000000 in
theorem valueS (a : Option Addr) (n c : Nat) (l : List (QV × QD)) (x : QV) (X : Int × Int) (w : World) (h : PArQ w a n c l) (hg : ∀ y ∈ l, IsGood w y.1 y.2) (hn : n ≤ 7) (hx : IsQ w x X.1 X.2) (hX : Sm X) :
    Calls Try.prog 81 #[.slice a n c, .agg #[.bool x.num.g, .slice x.num.a x.num.n x.num.c, .bool x.den.g, .slice x.den.a x.den.n x.den.c]] w (OutQv w (hv X (l.reverse.map fun y => (nQ y.2, dQ y.2))).1 (hv X (l.reverse.map fun y => (nQ y.2, dQ y.2))).2) := by
  have hl := h.len
  have HP := hide h
  have HG := hide hg
  have IX := hide hx
  have HL := hide hl
  clear h hg hx
  obtain ⟨VF, hVF⟩ : ∃ VF, VF = hv X (l.reverse.map fun y => (nQ y.2, dQ y.2)) := ⟨_, rfl⟩
  rw [← hVF]
  have HVF := hide hVF
  clear hVF
  have B0 := hide (show Below w.heap.size w ((w.alloc (.cells #[.bool x.num.g, .slice x.num.a x.num.n x.num.c, .bool x.den.g, .slice x.den.a x.den.n x.den.c] 33)).alloc (.cells #[.bool false, .slice none 0 0, .bool false, .slice none 0 0] 33)) from ((Below.refl _ _).alloc (by simp) _).alloc (by simp) _)
  go_enter Try.func81, Try.ntmps81
  go_wp2_with fail
  refine (wholeS 0 _ (by omega) (by omega)).mono ?_
  rintro e w1 ⟨q0, zs0, us0, rfl, hb1, o1, a1, m1, m2⟩
  have s1 : w.heap.size + 2 ≤ w1.heap.size := by have := hb1.size; simp at this; omega
  replace o1 := o1.wide (lo' := w.heap.size + 2) (by simp) (Nat.le_refl _)
  have HB1 := hide (below_on (unhide B0) hb1)
  have OW := hide (And.intro (show Ow (w.heap.size + 2) w1.heap.size w1 q0.num 0 from ⟨zs0, ⟨fun p hp => o1.own p (by simp at hp ⊢; exact .inl hp), List.pairwise_singleton _ _⟩, fun p hp => a1 p (by simp at hp ⊢; exact .inl hp), m1⟩) (show Ow (w.heap.size + 2) w1.heap.size w1 q0.den 1 from ⟨us0, ⟨fun p hp => o1.own p (by simp at hp ⊢; exact .inr hp), List.pairwise_singleton _ _⟩, fun p hp => a1 p (by simp at hp ⊢; exact .inr hp), m2⟩))
  have X0 : Hid (w1.cell? ⟨w.heap.size, 0, none⟩ = some (.bool x.num.g)) := hide (cell_later hb1 (by simp [go_sem]))
  have X1 : Hid (w1.cell? ⟨w.heap.size, 1, none⟩ = some (.slice x.num.a x.num.n x.num.c)) := hide (cell_later hb1 (by simp [go_sem]))
  have X2 : Hid (w1.cell? ⟨w.heap.size, 2, none⟩ = some (.bool x.den.g)) := hide (cell_later hb1 (by simp [go_sem]))
  have X3 : Hid (w1.cell? ⟨w.heap.size, 3, none⟩ = some (.slice x.den.a x.den.n x.den.c)) := hide (cell_later hb1 (by simp [go_sem]))
  have R0 : Hid (w1.cell? ⟨w.heap.size + 1, 0, none⟩ = some (.bool false)) := hide (cell_later hb1 (by simp [go_sem]))
  have R1 : Hid (w1.cell? ⟨w.heap.size + 1, 1, none⟩ = some (.slice none 0 0)) := hide (cell_later hb1 (by simp [go_sem]))
  have R2 : Hid (w1.cell? ⟨w.heap.size + 1, 2, none⟩ = some (.bool false)) := hide (cell_later hb1 (by simp [go_sem]))
  have R3 : Hid (w1.cell? ⟨w.heap.size + 1, 3, none⟩ = some (.slice none 0 0)) := hide (cell_later hb1 (by simp [go_sem]))
  have RF : Hid (∀ o, w1.frozen? ⟨w.heap.size + 1, o, none⟩ = false) := hide (fun o => frozen_later hb1 (by simp) (by simp [go_sem]))
  clear hb1 o1 a1 m1 m2 B0
  go_wp2
  go_loopw [6] (fun iv wr => ∃ j : Nat, j ≤ n ∧ iv = .int .i64 ((n : Int) - 1 - j) ∧ Hid (EvS w x (hv X ((l.reverse.take j).map fun y => (nQ y.2, dQ y.2))) w1.heap.size wr)) (fun iv _ => (intOf iv + 1).toNat)
  case atStart =>
    have hbz : Below w1.heap.size w1 (w1.alloc (.cells #[.bool q0.num.g, .slice q0.num.a q0.num.n q0.num.c, .bool q0.den.g, .slice q0.den.a q0.den.n q0.den.c] 33)) := (Below.refl _ _).alloc (Nat.le_refl _) _
    exact ⟨0, Nat.zero_le _, by simp, hide ⟨below_on (unhide HB1) hbz, cell_later hbz (unhide X0), cell_later hbz (unhide X1), cell_later hbz (unhide X2), cell_later hbz (unhide X3), cell_later hbz (unhide R0), cell_later hbz (unhide R1), cell_later hbz (unhide R2), cell_later hbz (unhide R3), fun o => frozen_later hbz (by omega) ((unhide RF) o), fun o => by simp [go_sem], by simp, ⟨q0, w.heap.size + 2, w1.heap.size, by simp [go_sem], by simp [go_sem], by simp [go_sem], by simp [go_sem], Nat.le_refl _, by simp, .inl (Nat.le_refl _), (unhide OW).1.later hbz, (unhide OW).2.later hbz⟩⟩⟩
  case round =>
    clear X0 X1 X2 X3 R0 R1 R2 R3 RF OW HB1
    obtain ⟨j, hj, rfl, HI⟩ := hrel
    by_cases hlt : j < n
    · have i0 : (0 : Int) ≤ (n : Int) - 1 - j := by omega
      have i1 : (n : Int) - 1 - j < (n : Int) := by omega
      have i2 : ((n : Int) - 1 - j).toNat = n - 1 - j := by omega
      rcases (unhide HP).at_ with e | ⟨b, off, ea, hb, hc⟩
      · exact absurd hl (by rw [e]; simp; omega)
      subst ea
      have e0 := hc (n - 1 - j) (by omega)
      have MY : Hid (l[n - 1 - j]'(by omega) ∈ l) := hide (List.getElem_mem _)
      have CP := hide (take_rev (X := X) hl hlt)
      have VG : Hid (∃ k, k ≤ 7 ∧ Vg k (hv X ((l.reverse.take j).map fun y => (nQ y.2, dQ y.2)))) := hide ⟨_, by rw [List.length_map, List.length_take, List.length_reverse]; omega, vg_all hX _ (fun d hd => by
        obtain ⟨y, hy, rfl⟩ := List.mem_map.1 hd
        have q := (unhide HG) y (List.mem_reverse.1 (List.mem_of_mem_take hy))
        exact ⟨q.pos, q.kn, q.kd⟩)⟩
      obtain ⟨V2, hV2⟩ : ∃ V2, V2 = hv X ((l.reverse.take (j + 1)).map fun y => (nQ y.2, dQ y.2)) := ⟨_, rfl⟩
      rw [← hV2] at CP
      have HV2 := hide hV2
      clear hV2 hc
      generalize l[n - 1 - j]'(by omega) = y at *
      generalize hv X ((l.reverse.take j).map fun y => (nQ y.2, dQ y.2)) = V at *
      have E0 : wr.cell? ⟨b, off + (n - 1 - j) * 4, none⟩ = some (.bool y.1.num.g) := ((unhide HI).bel.cell (p := ⟨b, off + (n - 1 - j) * 4, none⟩) hb).trans (e0.1)
      have E1 : wr.cell? ⟨b, off + (n - 1 - j) * 4 + 1, none⟩ = some (.slice y.1.num.a y.1.num.n y.1.num.c) := ((unhide HI).bel.cell (p := ⟨b, off + (n - 1 - j) * 4 + 1, none⟩) hb).trans (e0.2.1)
      have E2 : wr.cell? ⟨b, off + (n - 1 - j) * 4 + 2, none⟩ = some (.bool y.1.den.g) := ((unhide HI).bel.cell (p := ⟨b, off + (n - 1 - j) * 4 + 2, none⟩) hb).trans (e0.2.2.1)
      have E3 : wr.cell? ⟨b, off + (n - 1 - j) * 4 + 3, none⟩ = some (.slice y.1.den.a y.1.den.n y.1.den.c) := ((unhide HI).bel.cell (p := ⟨b, off + (n - 1 - j) * 4 + 3, none⟩) hb).trans (e0.2.2.2)
      have x0 := (unhide HI).x0
      have x1 := (unhide HI).x1
      have x2 := (unhide HI).x2
      have x3 := (unhide HI).x3
      have gfr := (unhide HI).gf
      obtain ⟨u, lo, hi, c0, c1, c2, c3, g1, g2, g3, g4, g5⟩ := (unhide HI).val
      obtain ⟨k, hk, hvg⟩ := unhide VG
      have IU : Hid (IsQ wr u V.1 V.2) := hide ⟨g4.is, g5.is⟩
      have IXW := hide ((unhide IX).later (unhide HI).bel)
      have IY := hide (((unhide HG) y (unhide MY)).later (unhide HI).bel)
      have VJ := hide hvg
      have VM := hide (vg_mid hvg hX)
      clear g1 g2 g3 g4 g5 hvg VG e0 hl
      go_upto_region 5 with fail
      go_region_with (first
        | (go_at_call 73; refine (mulQS u x V.1 V.2 X.1 X.2 _ ?_ ?_ (ne_of_pos (unhide VJ).low.pos hX.pos) ((unhide VJ).kn.mono (by omega)) ((unhide VJ).kd.mono (by omega)) (hX.kn.mono (by omega)) (hX.kd.mono (by omega))).mono ?_; exact (unhide IU).drew; exact (unhide IXW).drew; rintro e w2 ⟨mm, rfl, hb1, o2, o2'⟩; have hbx := below_of_drew hb1; have sz2 := hbx.size; have IM : Hid (IsQ w2 mm (lowN (V.1 * X.1) (V.2 * X.2)) (lowD (V.1 * X.1) (V.2 * X.2))) := hide ⟨o2.is, o2'.is⟩; replace E0 := cell_later hbx E0; replace E1 := cell_later hbx E1; replace E2 := cell_later hbx E2; replace E3 := cell_later hbx E3; replace gfr := fun o => frozen_later hbx (World.block_lt_of_cell? _ _ c0) (gfr o); replace c0 := cell_later hbx c0; replace c1 := cell_later hbx c1; replace c2 := cell_later hbx c2; replace c3 := cell_later hbx c3; replace IY := hide ((unhide IY).later hbx); have HB1 := hide hbx; clear hbx hb1 o2 o2' x0 x1 x2 x3)
        | (go_at_call 65; refine (addQS mm y.1 (lowN (V.1 * X.1) (V.2 * X.2)) (lowD (V.1 * X.1) (V.2 * X.2)) (nQ y.2) (dQ y.2) _ (unhide IM) (unhide IY).is (ne_of_pos (unhide VM).1 (unhide IY).pos) ((unhide VM).2.1.mono (by omega)) ((unhide VM).2.2.mono (by omega)) ((unhide IY).kn.mono (by omega)) ((unhide IY).kd.mono (by omega))).mono ?_; rintro e w3 ⟨v, rfl, hb2, o3, o3'⟩; have O3 := hide o3; have O3' := hide o3'; replace gfr := fun o => frozen_later hb2 (World.block_lt_of_cell? _ _ c0) (gfr o); replace c0 := cell_later hb2 c0; replace c1 := cell_later hb2 c1; replace c2 := cell_later hb2 c2; replace c3 := cell_later hb2 c3; have HB2 := hide hb2; clear hb2 o3 o3' E0 E1 E2 E3))
      all_goals clear IM IY
      all_goals go_wp2
      all_goals go_roundw
      all_goals (first | (simp [intOf]; omega; done) | skip)
      all_goals
        have q3 := evS_set (V2 := hvF X V (nQ y.2, dQ y.2)) (unhide HI) (unhide HB1) (unhide HB2) c0 c1 c2 c3 gfr (unhide O3) (unhide O3') (by omega)
        refine ⟨j + 1, by omega, by go_num, hide ?_⟩
        rw [← unhide HV2, unhide CP]
        exact q3
    · obtain rfl : j = n := by omega
      have i0 : ¬ ((0 : Int) ≤ (j : Int) - 1 - j) := by omega
      have EV : Hid (l.reverse.take j = l.reverse) := hide (List.take_of_length_le (by simp; omega))
      rw [unhide EV, ← unhide HVF] at HI
      have r0 := (unhide HI).r0
      have r1 := (unhide HI).r1
      have r2 := (unhide HI).r2
      have r3 := (unhide HI).r3
      have rf := (unhide HI).rf
      obtain ⟨u, lo, hi, c0, c1, c2, c3, g1, g2, g3, g4, g5⟩ := (unhide HI).val
      have G4 := hide g4
      have G5 := hide g5
      clear g4 g5 hl
      go_wp2
      refine bodyPost_ret (v := .agg #[.bool u.num.g, .slice u.num.a u.num.n u.num.c, .bool u.den.g, .slice u.den.a u.den.n u.den.c]) (by simp [results, Try.results81, go_sem, r0, r1, r2, r3]) rfl ?_
      have bt : But (w.heap.size + 1) (w.heap.size + 1 + 1) wr ((((wr.setCell ⟨w.heap.size + 1, 0, none⟩ (.bool u.num.g)).setCell ⟨w.heap.size + 1, 1, none⟩ (.slice u.num.a u.num.n u.num.c)).setCell ⟨w.heap.size + 1, 2, none⟩ (.bool u.den.g)).setCell ⟨w.heap.size + 1, 3, none⟩ (.slice u.den.a u.den.n u.den.c)) := metQ_but (w5 := wr) (v := u) (G := w.heap.size + 1)
      exact ⟨u, rfl, bt.below (unhide HI).bel (by omega) (unhide HI).bel.size, ((unhide G4).but bt (.inr (by omega))).wide (by omega) (by have := bt.size; omega), ((unhide G5).but bt (.inr (by omega))).wide (by omega) (by have := bt.size; omega)⟩
end Go.Proofs.Ytliaddmkomcmnaa
namespace Go.Proofs.Ytliaddmkomcmnaa
open Go.RowKit
set_option linter.unusedVariables false
set_option maxRecDepth 100000
set_option linter.unusedSimpArgs false

/-- At most one limb each; at most four. -/
def sm1 (d : QD) : Bool := decide (d.num.xs.length ≤ 1) && decide (d.den.xs.length ≤ 1)
def sm4 (d : QD) : Bool := decide (d.num.xs.length ≤ 4) && decide (d.den.xs.length ≤ 4)
def pl (d : QD) : Bool := sm4 d && gQ d
def rP (l : List QD) : Bool := ((decide (2 ≤ l.length) && decide (l.length ≤ 5)) && l.all sm1) && gP l
theorem longRI (q : QV) (d : QD) (w : World) (h : AllAr w [(q.num, d.num), (q.den, d.den)]) : Calls Try.prog 93 #[.agg #[.bool q.num.g, .slice q.num.a q.num.n q.num.c, .bool q.den.g, .slice q.den.a q.den.n q.den.c]] w fun e w' => e = .returned (.bool (!sm1 d)) ∧ Below w.heap.size w w' := by
  have CC := hide (fun w1 => inL q 1 w1)
  rw [show (decide (q.num.n ≤ 1) && decide (q.den.n ≤ 1)) = sm1 d from by unfold sm1; rw [h.head.ar.len, h.tail.head.ar.len]] at CC
  clear h
  have B0 := hide (show Below w.heap.size w (w.alloc (.cells #[.bool q.num.g, .slice q.num.a q.num.n q.num.c, .bool q.den.g, .slice q.den.a q.den.n q.den.c] 33)) from ((Below.refl _ _).alloc (by simp) _))
  go_enter Try.func93, Try.ntmps93
  go_wp2_with fail
  refine (unhide CC _).mono ?_
  rintro e w1 ⟨rfl, hb⟩
  have HB := hide (below_on (unhide B0) hb)
  clear hb
  go_wp2
  go_ret
  exact ⟨rfl, unhide HB⟩

set_option maxHeartbeats 2000000 in
theorem indexLongR (a : Option Addr) (n c : Nat) (l : List (QV × QD)) (w : World) (h : PArQ w a n c l) :
    Calls Try.prog 138 #[.slice a n c, .func (Fn.func 93) #[] #[]] w fun e w' => ∃ r : Int, e = .returned (.int .i64 r) ∧ Below w.heap.size w w' ∧ decide (0 ≤ r) = (l.map Prod.snd).any (fun d => !sm1 d) ∧ -1 ≤ r ∧ r ≤ 9223372036854775807 := by
  have HS := hide h
  have HN := hide h.len
  have hm : n ≤ maxLen := Nat.le_trans h.cap h.top
  clear h
  unfold maxLen at hm
  go_enter Try.func138, Try.ntmps138
  go_wp2
  go_loopw [8] (fun iv wr => ∃ (i : Nat), i ≤ n ∧ iv = .int .i64 i ∧ Hid (((l.take i).map Prod.snd).any (fun d => !sm1 d) = false) ∧ Hid (Below w.heap.size w wr)) (fun iv _ => n - (intOf iv).toNat)
  case atStart => exact ⟨0, Nat.zero_le _, rfl, hide (by simp), hide (Below.refl _ _)⟩
  case round =>
    obtain ⟨i, hi, rfl, EA, HB⟩ := hrel
    by_cases hlt : i < n
    · have hlt' : (i : Int) < (n : Int) := by omega
      rcases (unhide HS).at_ with e | ⟨b, off, rfl, hb, hc⟩
      · exact absurd (unhide HN) (by rw [e]; simp; omega)
      have e0 := hc i (by rw [unhide HN]; exact hlt)
      obtain ⟨y, hy⟩ : ∃ y, y = l[i]'(by rw [unhide HN]; exact hlt) := ⟨_, rfl⟩
      rw [← hy] at e0
      have MY : Hid (y ∈ l) := hide (by rw [hy]; exact List.getElem_mem _)
      have EY := hide hy
      clear hy
      have E0 : wr.cell? ⟨b, off + i * 4, none⟩ = some (.bool y.1.num.g) := ((unhide HB).cell (p := ⟨b, off + i * 4, none⟩) hb).trans (e0.1)
      have E1 : wr.cell? ⟨b, off + i * 4 + 1, none⟩ = some (.slice y.1.num.a y.1.num.n y.1.num.c) := ((unhide HB).cell (p := ⟨b, off + i * 4 + 1, none⟩) hb).trans (e0.2.1)
      have E2 : wr.cell? ⟨b, off + i * 4 + 2, none⟩ = some (.bool y.1.den.g) := ((unhide HB).cell (p := ⟨b, off + i * 4 + 2, none⟩) hb).trans (e0.2.2.1)
      have E3 : wr.cell? ⟨b, off + i * 4 + 3, none⟩ = some (.slice y.1.den.a y.1.den.n y.1.den.c) := ((unhide HB).cell (p := ⟨b, off + i * 4 + 3, none⟩) hb).trans (e0.2.2.2)
      clear e0 hc
      have TK : Hid (l.take (i + 1) = l.take i ++ [y]) := hide (by have h := take_succQ (l := l) (i := i) (by rw [unhide HN]; exact hlt); rw [← unhide EY] at h; exact h)
      have R1 := hide (((unhide HS).rd y (unhide MY)).later (unhide HB))
      have CC := hide (fun w1 (k : AllAr w1 [(y.1.num, y.2.num), (y.1.den, y.2.den)]) => longRI y.1 y.2 w1 k)
      cases hp : (fun d => !sm1 d) y.2
      · have hp' : (!sm1 y.2) = false := hp
        rw [hp'] at CC
        go_wp2_with fail
        refine (unhide CC _ (unhide R1)).mono ?_
        rintro e w1 ⟨rfl, hb1⟩
        have HB1 := hide (below_on (unhide HB) hb1)
        clear hb1 E0 E1 E2 E3 CC
        go_wp2
        go_roundw
        case rel => exact ⟨i + 1, by omega, by go_num, hide (by rw [unhide TK, List.map_append, List.any_append, unhide EA]; simp only [List.map_cons, List.map_nil, List.any_cons, List.any_nil]; rw [hp']; rfl), HB1⟩
        case measure => simp [intOf]; omega
      · have hp' : (!sm1 y.2) = true := hp
        rw [hp'] at CC
        have AN := hide (show (l.map Prod.snd).any (fun d => !sm1 d) = true from List.any_eq_true.2 ⟨y.2, List.mem_map.2 ⟨y, unhide MY, rfl⟩, hp'⟩)
        go_wp2_with fail
        refine (unhide CC _ (unhide R1)).mono ?_
        rintro e w1 ⟨rfl, hb1⟩
        have HB1 := hide (below_on (unhide HB) hb1)
        clear hb1 E0 E1 E2 E3 CC
        go_wp2
        go_ret
        exact ⟨_, rfl, unhide HB1, by rw [unhide AN]; exact decide_eq_true (by omega), by omega, by omega⟩
    · obtain rfl : i = n := by omega
      have EL := hide (show (l.map Prod.snd).any (fun d => !sm1 d) = false from by have := unhide EA; rw [← unhide HN, List.take_length] at this; exact this)
      go_wp2
      go_ret
      exact ⟨_, rfl, unhide HB, by rw [unhide EL]; rfl, by omega, by omega⟩
theorem containsLongR (a : Option Addr) (n c : Nat) (l : List (QV × QD)) (w : World) (h : PArQ w a n c l) :
    Calls Try.prog 92 #[.slice a n c, .func (Fn.func 93) #[] #[]] w fun e w' => e = .returned (.bool ((l.map Prod.snd).any (fun d => !sm1 d))) ∧ Below w.heap.size w w' := by
  have HS := hide h
  clear h
  go_enter Try.func92, Try.ntmps92
  go_wp2_with fail
  refine (indexLongR a n c l _ (unhide HS)).mono ?_
  rintro e w1 ⟨r, rfl, hb1, hr, r0, r1⟩
  have HB1 := hide hb1
  have HR := hide hr
  clear hb1 hr
  go_wp2
  go_ret
  exact ⟨by rw [← unhide HR]; rfl, unhide HB1⟩

set_option maxHeartbeats 4000000 in
theorem RootsPI (a : Option Addr) (n c : Nat) (l : List (QV × QD)) (w : World) (h : PArQ w a n c l) :
    Calls Try.prog 44 #[.slice a n c] w fun e w' => e = .returned (.bool (rP (l.map Prod.snd))) ∧ Below w.heap.size w w' := by
  unfold rP
  rw [List.length_map, h.len]
  have hm : n ≤ maxLen := Nat.le_trans h.cap h.top
  unfold maxLen at hm
  have HS := hide h
  clear h
  have CC := hide (fun w1 (k : PArQ w1 a n c l) => containsLongR a n c l w1 k)
  rw [any_not_all] at CC
  have GG := hide (fun w1 (k : PArQ w1 a n c l) => GoodPI a n c l w1 k)
  by_cases h2 : 2 ≤ n
  · have b2 : ¬ ((n : Int) < 2) := by omega
    rw [decide_eq_true h2, Bool.true_and]
    by_cases h5 : n ≤ 5
    · have b5 : ¬ ((5 : Int) < (n : Int)) := by omega
      rw [decide_eq_true h5, Bool.true_and]
      cases hA : (l.map Prod.snd).all sm1
      · rw [hA] at CC
        rw [Bool.false_and]
        go_enter Try.func44, Try.ntmps44
        go_wp2_with fail
        refine (unhide CC _ (unhide HS)).mono ?_
        rintro e w1 ⟨rfl, hb1⟩
        have HB1 := hide hb1
        clear hb1 CC GG
        go_wp2
        go_ret
        exact ⟨rfl, unhide HB1⟩
      · rw [hA] at CC
        rw [Bool.true_and]
        go_enter Try.func44, Try.ntmps44
        go_wp2_with fail
        refine (unhide CC _ (unhide HS)).mono ?_
        rintro e w1 ⟨rfl, hb1⟩
        have HB1 := hide hb1
        clear hb1 CC
        go_wp2_with fail
        refine (unhide GG _ ((unhide HS).later (unhide HB1))).mono ?_
        rintro e w2 ⟨rfl, hb2⟩
        have HB2 := hide (below_on (unhide HB1) hb2)
        clear hb2 GG
        go_wp2
        go_ret
        exact ⟨rfl, unhide HB2⟩
    · have b5 : (5 : Int) < (n : Int) := by omega
      rw [decide_eq_false h5, Bool.false_and, Bool.false_and]
      go_enter Try.func44, Try.ntmps44
      go_wp2
      go_ret
      exact ⟨rfl, Below.refl _ _⟩
  · have b2 : (n : Int) < 2 := by omega
    rw [decide_eq_false h2, Bool.false_and, Bool.false_and, Bool.false_and]
    go_enter Try.func44, Try.ntmps44
    go_wp2
    go_ret
    exact ⟨rfl, Below.refl _ _⟩
theorem in_ok2 (n lo hi : Int) (w : World) (b : Bool) (h : b = decide (lo ≤ n ∧ n ≤ hi)) : Calls Try.prog 64 #[.int .i64 n, .int .i64 lo, .int .i64 hi] w fun e w' => e = .returned (.bool b) ∧ w' = w := by
  subst h
  by_cases h1 : lo ≤ n
  · by_cases h2 : n ≤ hi
    · rw [show decide (lo ≤ n ∧ n ≤ hi) = true from decide_eq_true ⟨h1, h2⟩]
      go_enter Try.func64, Try.ntmps64
      go_wp2
      go_ret
      exact ⟨rfl, rfl⟩
    · rw [show decide (lo ≤ n ∧ n ≤ hi) = false from decide_eq_false (fun h => h2 h.2)]
      go_enter Try.func64, Try.ntmps64
      go_wp2
      go_ret
      exact ⟨rfl, rfl⟩
  · rw [show decide (lo ≤ n ∧ n ≤ hi) = false from decide_eq_false (fun h => h1 h.1)]
    go_enter Try.func64, Try.ntmps64
    go_wp2
    go_ret
    exact ⟨rfl, rfl⟩

set_option maxHeartbeats 4000000 in
theorem RootsPS (a : Option Addr) (n c : Nat) (l : List (QV × QD)) (w : World) (h : PArQ w a n c l) :
    Calls Try.prog 43 #[.slice a n c] w fun e w' => e = .returned (.bool (rP (l.map Prod.snd))) ∧ Below w.heap.size w w' := by
  have HS := hide h
  have HN := hide h.len
  have hm : n ≤ maxLen := Nat.le_trans h.cap h.top
  clear h
  unfold maxLen at hm
  go_enter Try.func43, Try.ntmps43
  go_wp2
  go_loopw [7] (fun iv wr => ∃ (i : Nat), i ≤ n ∧ iv = .int .i64 i ∧ Hid (((l.take i).map Prod.snd).all sm1 = true) ∧ Hid (Below w.heap.size w wr)) (fun iv _ => n - (intOf iv).toNat)
  case atStart => exact ⟨0, Nat.zero_le _, rfl, hide (by simp), hide (Below.refl _ _)⟩
  case round =>
    obtain ⟨i, hi, rfl, EA, HB⟩ := hrel
    by_cases hlt : i < n
    · have hlt' : (i : Int) < (n : Int) := by omega
      rcases (unhide HS).at_ with e | ⟨b, off, rfl, hb, hc⟩
      · exact absurd (unhide HN) (by rw [e]; simp; omega)
      have e0 := hc i (by rw [unhide HN]; exact hlt)
      obtain ⟨y, hy⟩ : ∃ y, y = l[i]'(by rw [unhide HN]; exact hlt) := ⟨_, rfl⟩
      rw [← hy] at e0
      have MY : Hid (y ∈ l) := hide (by rw [hy]; exact List.getElem_mem _)
      have EY := hide hy
      clear hy
      have E0 : wr.cell? ⟨b, off + i * 4, none⟩ = some (.bool y.1.num.g) := ((unhide HB).cell (p := ⟨b, off + i * 4, none⟩) hb).trans (e0.1)
      have E1 : wr.cell? ⟨b, off + i * 4 + 1, none⟩ = some (.slice y.1.num.a y.1.num.n y.1.num.c) := ((unhide HB).cell (p := ⟨b, off + i * 4 + 1, none⟩) hb).trans (e0.2.1)
      have E2 : wr.cell? ⟨b, off + i * 4 + 2, none⟩ = some (.bool y.1.den.g) := ((unhide HB).cell (p := ⟨b, off + i * 4 + 2, none⟩) hb).trans (e0.2.2.1)
      have E3 : wr.cell? ⟨b, off + i * 4 + 3, none⟩ = some (.slice y.1.den.a y.1.den.n y.1.den.c) := ((unhide HB).cell (p := ⟨b, off + i * 4 + 3, none⟩) hb).trans (e0.2.2.2)
      clear e0 hc
      have TK : Hid (l.take (i + 1) = l.take i ++ [y]) := hide (by have h := take_succQ (l := l) (i := i) (by rw [unhide HN]; exact hlt); rw [← unhide EY] at h; exact h)
      have e1 := ((unhide HS).rd y (unhide MY)).head.ar.len
      have e2 := ((unhide HS).rd y (unhide MY)).tail.head.ar.len
      by_cases k1 : y.1.num.n ≤ 1
      · by_cases k2 : y.1.den.n ≤ 1
        · have S1 : Hid (sm1 y.2 = true) := hide (by unfold sm1; rw [e1, e2]; simp; omega)
          have b1 : ¬ ((1 : Int) < (y.1.num.n : Int)) := by omega
          have b2 : ¬ ((1 : Int) < (y.1.den.n : Int)) := by omega
          clear e1 e2
          go_wp2
          go_roundw
          case rel => exact ⟨i + 1, by omega, by go_num, hide (by rw [unhide TK, List.map_append, List.all_append, unhide EA]; simp only [List.map_cons, List.map_nil, List.all_cons, List.all_nil]; rw [unhide S1]; rfl), hide (below_on (unhide HB) ((Below.refl _ _).alloc (Nat.le_refl _) _))⟩
          case measure => simp [intOf]; omega
        · have S1 : Hid (sm1 y.2 = false) := hide (by unfold sm1; rw [e1, e2]; simp; omega)
          have b1 : ¬ ((1 : Int) < (y.1.num.n : Int)) := by omega
          have b2 : (1 : Int) < (y.1.den.n : Int) := by omega
          have AN := hide (show rP (l.map Prod.snd) = false from by
            have ha : (l.map Prod.snd).all sm1 = false := by
              apply Bool.eq_false_iff.2
              intro h
              have h2 := List.all_eq_true.1 h y.2 (List.mem_map.2 ⟨y, unhide MY, rfl⟩)
              rw [unhide S1] at h2
              cases h2
            unfold rP
            rw [ha, Bool.and_false, Bool.false_and])
          clear e1 e2
          go_wp2
          go_ret
          exact ⟨by rw [unhide AN]; rfl, below_on (unhide HB) ((Below.refl _ _).alloc (Nat.le_refl _) _)⟩
      · have S1 : Hid (sm1 y.2 = false) := hide (by unfold sm1; rw [e1, e2]; simp; omega)
        have b1 : (1 : Int) < (y.1.num.n : Int) := by omega
        have AN := hide (show rP (l.map Prod.snd) = false from by
          have ha : (l.map Prod.snd).all sm1 = false := by
            apply Bool.eq_false_iff.2
            intro h
            have h2 := List.all_eq_true.1 h y.2 (List.mem_map.2 ⟨y, unhide MY, rfl⟩)
            rw [unhide S1] at h2
            cases h2
          unfold rP
          rw [ha, Bool.and_false, Bool.false_and])
        clear e1 e2
        go_wp2
        go_ret
        exact ⟨by rw [unhide AN]; rfl, below_on (unhide HB) ((Below.refl _ _).alloc (Nat.le_refl _) _)⟩
    · obtain rfl : i = n := by omega
      have RP : Hid (rP (l.map Prod.snd) = (gP (l.map Prod.snd) && decide ((2 : Int) ≤ (i : Int) ∧ (i : Int) ≤ 5))) := hide (by
        have EL : (l.map Prod.snd).all sm1 = true := by have := unhide EA; rw [← unhide HN, List.take_length] at this; exact this
        unfold rP
        rw [EL, List.length_map, unhide HN, Bool.and_true, Bool.and_comm, ← Bool.decide_and]
        congr 1
        exact decide_eq_decide.2 ⟨fun h => by omega, fun h => by omega⟩)
      have GG := hide (fun w1 (k : PArQ w1 a i c l) => GoodPS a i c l w1 k)
      clear EA
      cases hg : gP (l.map Prod.snd)
      · rw [hg] at GG RP
        go_wp2_with fail
        refine (unhide GG _ ((unhide HS).later (unhide HB))).mono ?_
        rintro e w1 ⟨rfl, hb1⟩
        have HB1 := hide (below_on (unhide HB) hb1)
        clear hb1 GG
        go_wp2
        go_ret
        exact ⟨by rw [unhide RP]; rfl, unhide HB1⟩
      · rw [hg] at GG RP
        go_wp2_with fail
        refine (unhide GG _ ((unhide HS).later (unhide HB))).mono ?_
        rintro e w1 ⟨rfl, hb1⟩
        have HB1 := hide (below_on (unhide HB) hb1)
        clear hb1 GG
        go_wp2_with fail
        refine (in_ok2 i 2 5 _ _ rfl).mono ?_
        rintro e w2 ⟨rfl, rfl⟩
        rw [Bool.true_and] at RP
        generalize decide ((2 : Int) ≤ (i : Int) ∧ (i : Int) ≤ 5) = bb at *
        go_wp2
        go_ret
        exact ⟨by rw [unhide RP]; rfl, unhide HB1⟩

set_option maxHeartbeats 2000000 in
theorem placeI (q : QV) (d : QD) (w : World) (h : AllAr w [(q.num, d.num), (q.den, d.den)]) : Calls Try.prog 96 #[.agg #[.bool q.num.g, .slice q.num.a q.num.n q.num.c, .bool q.den.g, .slice q.den.a q.den.n q.den.c]] w fun e w' => e = .returned (.bool (pl d)) ∧ Below w.heap.size w w' := by
  have CC := hide (fun w1 => inL q 4 w1)
  rw [show (decide (q.num.n ≤ 4) && decide (q.den.n ≤ 4)) = sm4 d from by unfold sm4; rw [h.head.ar.len, h.tail.head.ar.len]] at CC
  unfold pl
  cases hs : sm4 d
  · rw [hs] at CC
    rw [Bool.false_and]
    have H1 := hide h
    clear h
    have B0 := hide (show Below w.heap.size w (w.alloc (.cells #[.bool q.num.g, .slice q.num.a q.num.n q.num.c, .bool q.den.g, .slice q.den.a q.den.n q.den.c] 33)) from ((Below.refl _ _).alloc (by simp) _))
    go_enter Try.func96, Try.ntmps96
    go_wp2_with fail
    refine (unhide CC _).mono ?_
    rintro e w1 ⟨rfl, hb⟩
    have HB := hide (below_on (unhide B0) hb)
    clear hb
    go_wp2
    go_ret
    exact ⟨rfl, unhide HB⟩
  · rw [hs] at CC
    rw [Bool.true_and]
    have H1 := hide h
    clear h
    have B0 := hide (show Below w.heap.size w (w.alloc (.cells #[.bool q.num.g, .slice q.num.a q.num.n q.num.c, .bool q.den.g, .slice q.den.a q.den.n q.den.c] 33)) from ((Below.refl _ _).alloc (by simp) _))
    go_enter Try.func96, Try.ntmps96
    go_wp2_with fail
    refine (unhide CC _).mono ?_
    rintro e w1 ⟨rfl, hb⟩
    have k0_0 : w1.cell? ⟨w.heap.size, 0, none⟩ = some (.bool q.num.g) := cell_later hb (by simp [go_sem])
    have k0_1 : w1.cell? ⟨w.heap.size, 1, none⟩ = some (.slice q.num.a q.num.n q.num.c) := cell_later hb (by simp [go_sem])
    have k0_2 : w1.cell? ⟨w.heap.size, 2, none⟩ = some (.bool q.den.g) := cell_later hb (by simp [go_sem])
    have k0_3 : w1.cell? ⟨w.heap.size, 3, none⟩ = some (.slice q.den.a q.den.n q.den.c) := cell_later hb (by simp [go_sem])
    have HB := hide (below_on (unhide B0) hb)
    clear hb
    go_wp2_with fail
    refine (goodQI q d _ ((unhide H1).later (unhide HB))).mono ?_
    rintro e w2 ⟨rfl, hb⟩
    clear k0_0 k0_1 k0_2 k0_3
    replace HB := hide (below_on (unhide HB) hb)
    clear hb
    go_wp2
    go_ret
    exact ⟨rfl, unhide HB⟩

set_option maxHeartbeats 2000000 in
theorem placeSp (q : QV) (d : QD) (w : World) (h : AllAr w [(q.num, d.num), (q.den, d.den)]) : Calls Try.prog 94 #[.agg #[.bool q.num.g, .slice q.num.a q.num.n q.num.c, .bool q.den.g, .slice q.den.a q.den.n q.den.c]] w fun e w' => e = .returned (.bool (pl d)) ∧ Below w.heap.size w w' := by
  have e1 := h.head.ar.len
  have e2 := h.tail.head.ar.len
  unfold pl
  by_cases k1 : q.num.n ≤ 4
  · by_cases k2 : q.den.n ≤ 4
    · have S1 : Hid (sm4 d = true) := hide (by unfold sm4; rw [e1, e2]; simp; omega)
      have b1 : (q.num.n : Int) ≤ 4 := by omega
      have b2 : (q.den.n : Int) ≤ 4 := by omega
      have H1 := hide h
      clear h e1 e2
      rw [unhide S1]
      rw [Bool.true_and]
      have B0 := hide (show Below w.heap.size w (w.alloc (.cells #[.bool q.num.g, .slice q.num.a q.num.n q.num.c, .bool q.den.g, .slice q.den.a q.den.n q.den.c] 33)) from ((Below.refl _ _).alloc (by simp) _))
      go_enter Try.func94, Try.ntmps94
      go_wp2_with fail
      refine (goodQS q d _ ((unhide H1).later (unhide B0))).mono ?_
      rintro e w1 ⟨rfl, hb⟩
      have HB := hide (below_on (unhide B0) hb)
      clear hb
      go_wp2
      go_ret
      exact ⟨rfl, unhide HB⟩
    · have S1 : Hid (sm4 d = false) := hide (by unfold sm4; rw [e1, e2]; simp; omega)
      have b1 : (q.num.n : Int) ≤ 4 := by omega
      have b2 : ¬ ((q.den.n : Int) ≤ 4) := by omega
      have H1 := hide h
      clear h e1 e2
      rw [unhide S1]
      rw [Bool.false_and]
      have B0 := hide (show Below w.heap.size w (w.alloc (.cells #[.bool q.num.g, .slice q.num.a q.num.n q.num.c, .bool q.den.g, .slice q.den.a q.den.n q.den.c] 33)) from ((Below.refl _ _).alloc (by simp) _))
      go_enter Try.func94, Try.ntmps94
      go_wp2
      go_ret
      exact ⟨rfl, unhide B0⟩
  · have S1 : Hid (sm4 d = false) := hide (by unfold sm4; rw [e1, e2]; simp; omega)
    have b1 : ¬ ((q.num.n : Int) ≤ 4) := by omega
    have H1 := hide h
    clear h e1 e2
    rw [unhide S1]
    rw [Bool.false_and]
    have B0 := hide (show Below w.heap.size w (w.alloc (.cells #[.bool q.num.g, .slice q.num.a q.num.n q.num.c, .bool q.den.g, .slice q.den.a q.den.n q.den.c] 33)) from ((Below.refl _ _).alloc (by simp) _))
    go_enter Try.func94, Try.ntmps94
    go_wp2
    go_ret
    exact ⟨rfl, unhide B0⟩
end Go.Proofs.Ytliaddmkomcmnaa
namespace Go.Proofs.Ytliaddmkomcmnaa
open Go.RowKit
set_option linter.unusedVariables false
set_option maxRecDepth 100000
set_option linter.unusedSimpArgs false

theorem gP_mem2 {ds : List QD} (h : gP ds = true) : ds.length ≤ 7 ∧ ∀ d ∈ ds, gQ d = true := by
  unfold gP at h
  simp only [Bool.and_eq_true, decide_eq_true_eq] at h
  refine ⟨h.1.1, fun d hd => ?_⟩
  have h2 := List.all_eq_true.1 h.1.2 d hd
  unfold gC at h2
  simp only [Bool.and_eq_true] at h2
  exact h2.2
theorem goods_of {w : World} {a : Option Addr} {n c : Nat} {l : List (QV × QD)} (h : PArQ w a n c l) (hg : gP (l.map Prod.snd) = true) : n ≤ 7 ∧ ∀ y ∈ l, IsGood w y.1 y.2 := by
  have h2 := gP_mem2 hg
  rw [List.length_map, h.len] at h2
  exact ⟨h2.1, fun y hy => isGood_of (h.rd y hy) (h2.2 y.2 (List.mem_map.2 ⟨y, hy, rfl⟩))⟩
theorem IsGood.sm {w : World} {q : QV} {d : QD} (h : IsGood w q d) : Sm (nQ d, dQ d) := ⟨h.pos, h.kn, h.kd⟩
/-- The value of a polynomial at a fraction. -/
def hvd (ds : List QD) (d : QD) : Int × Int := hv (nQ d, dQ d) (ds.reverse.map fun e => (nQ e, dQ e))
theorem hvd_eq (l : List (QV × QD)) (d : QD) : hv (nQ d, dQ d) (l.reverse.map fun y => (nQ y.2, dQ y.2)) = hvd (l.map Prod.snd) d := by
  unfold hvd
  rw [← List.map_reverse, List.map_map]
  rfl
def hasR (ds : List QD) (d : QD) : Bool := (rP ds && pl d) && decide ((hvd ds d).1 = 0)
theorem nm_dec {zs : List Int} {N : Int} (h : Nm zs N.natAbs) : decide (zs.length = 0) = decide (N = 0) := by
  have k := h.nil_iff
  rw [← List.length_eq_zero_iff] at k
  exact decide_eq_decide.2 (k.trans (by omega))
set_option maxHeartbeats 4000000 in
theorem HasRI (a : Option Addr) (n c : Nat) (l : List (QV × QD)) (x : QV) (d : QD) (w : World) (h : PArQ w a n c l) (hx : AllAr w [(x.num, d.num), (x.den, d.den)]) :
    Calls Try.prog 46 #[.slice a n c, .agg #[.bool x.num.g, .slice x.num.a x.num.n x.num.c, .bool x.den.g, .slice x.den.a x.den.n x.den.c]] w fun e w' => e = .returned (.tuple #[.bool (hasR (l.map Prod.snd) d), .bool (rP (l.map Prod.snd) && pl d)]) ∧ Below w.heap.size w w' := by
  have CR := hide (fun w1 (k : PArQ w1 a n c l) => RootsPI a n c l w1 k)
  have CP := hide (fun w1 (k : AllAr w1 [(x.num, d.num), (x.den, d.den)]) => placeI x d w1 k)
  unfold hasR
  cases hr : rP (l.map Prod.snd)
  · rw [hr] at CR
    rw [Bool.false_and, Bool.false_and]
    have H0 := hide h
    have H1 := hide hx
    clear h hx
    have B0 := hide (show Below w.heap.size w (w.alloc (.cells #[.bool x.num.g, .slice x.num.a x.num.n x.num.c, .bool x.den.g, .slice x.den.a x.den.n x.den.c] 33)) from ((Below.refl _ _).alloc (by simp) _))
    go_enter Try.func46, Try.ntmps46
    go_wp2_with fail
    refine (unhide CR _ ((unhide H0).later (unhide B0))).mono ?_
    rintro e w1 ⟨rfl, hb⟩
    have HB := hide (below_on (unhide B0) hb)
    clear hb
    go_wp2
    go_ret2
    exact ⟨rfl, unhide HB⟩
  · rw [hr] at CR
    rw [Bool.true_and]
    cases hp : pl d
    · rw [hp] at CP
      rw [Bool.false_and]
      have H0 := hide h
      have H1 := hide hx
      clear h hx
      have B0 := hide (show Below w.heap.size w (w.alloc (.cells #[.bool x.num.g, .slice x.num.a x.num.n x.num.c, .bool x.den.g, .slice x.den.a x.den.n x.den.c] 33)) from ((Below.refl _ _).alloc (by simp) _))
      go_enter Try.func46, Try.ntmps46
      go_wp2_with fail
      refine (unhide CR _ ((unhide H0).later (unhide B0))).mono ?_
      rintro e w1 ⟨rfl, hb⟩
      have k0_0 : w1.cell? ⟨w.heap.size, 0, none⟩ = some (.bool x.num.g) := cell_later hb (by simp [go_sem])
      have k0_1 : w1.cell? ⟨w.heap.size, 1, none⟩ = some (.slice x.num.a x.num.n x.num.c) := cell_later hb (by simp [go_sem])
      have k0_2 : w1.cell? ⟨w.heap.size, 2, none⟩ = some (.bool x.den.g) := cell_later hb (by simp [go_sem])
      have k0_3 : w1.cell? ⟨w.heap.size, 3, none⟩ = some (.slice x.den.a x.den.n x.den.c) := cell_later hb (by simp [go_sem])
      have HB := hide (below_on (unhide B0) hb)
      clear hb
      go_wp2_with fail
      refine (unhide CP _ ((unhide H1).later (unhide HB))).mono ?_
      rintro e w2 ⟨rfl, hb⟩
      clear k0_0 k0_1 k0_2 k0_3
      replace HB := hide (below_on (unhide HB) hb)
      clear hb
      go_wp2
      go_ret2
      exact ⟨rfl, unhide HB⟩
    · rw [hp] at CP
      rw [Bool.true_and]
      obtain ⟨rb, HRES⟩ : ∃ rb, Hid (decide ((hvd (l.map Prod.snd) d).1 = 0) = rb) := ⟨_, hide rfl⟩
      rw [unhide HRES]
      have gp : gP (l.map Prod.snd) = true := by unfold rP at hr; simp only [Bool.and_eq_true] at hr; exact hr.2
      obtain ⟨hn7, hgs⟩ := goods_of h gp
      have gx : IsGood w x d := isGood_of hx (by unfold pl at hp; simp only [Bool.and_eq_true] at hp; exact hp.2)
      have HGS := hide hgs
      have GX := hide gx
      clear gp hgs gx
      have H0 := hide h
      have H1 := hide hx
      clear h hx
      have B0 := hide (show Below w.heap.size w (w.alloc (.cells #[.bool x.num.g, .slice x.num.a x.num.n x.num.c, .bool x.den.g, .slice x.den.a x.den.n x.den.c] 33)) from ((Below.refl _ _).alloc (by simp) _))
      go_enter Try.func46, Try.ntmps46
      go_wp2_with fail
      refine (unhide CR _ ((unhide H0).later (unhide B0))).mono ?_
      rintro e w1 ⟨rfl, hb⟩
      have k0_0 : w1.cell? ⟨w.heap.size, 0, none⟩ = some (.bool x.num.g) := cell_later hb (by simp [go_sem])
      have k0_1 : w1.cell? ⟨w.heap.size, 1, none⟩ = some (.slice x.num.a x.num.n x.num.c) := cell_later hb (by simp [go_sem])
      have k0_2 : w1.cell? ⟨w.heap.size, 2, none⟩ = some (.bool x.den.g) := cell_later hb (by simp [go_sem])
      have k0_3 : w1.cell? ⟨w.heap.size, 3, none⟩ = some (.slice x.den.a x.den.n x.den.c) := cell_later hb (by simp [go_sem])
      have HB := hide (below_on (unhide B0) hb)
      clear hb
      go_wp2_with fail
      refine (unhide CP _ ((unhide H1).later (unhide HB))).mono ?_
      rintro e w2 ⟨rfl, hb⟩
      replace k0_0 := cell_later hb k0_0
      replace k0_1 := cell_later hb k0_1
      replace k0_2 := cell_later hb k0_2
      replace k0_3 := cell_later hb k0_3
      replace HB := hide (below_on (unhide HB) hb)
      clear hb
      go_wp2_with fail
      refine (valueI a n c l x (nQ d, dQ d) _ ((unhide H0).later (unhide HB)) (fun y hy => ((unhide HGS) y hy).later (unhide HB)) hn7 ((unhide GX).is.later (unhide HB)) (unhide GX).sm).mono ?_
      rintro e w3 ⟨u, zs, us, rfl, hb, ow, ar, m1, m2⟩
      have NZ := hide (nm_dec m1)
      clear k0_0 k0_1 k0_2 k0_3
      have AU := hide (ar)
      replace HB := hide (below_on (unhide HB) hb)
      clear hb
      clear ow ar m1 m2
      go_wp2_with fail
      refine (noughtI u ⟨⟨_, zs⟩, ⟨_, us⟩⟩ _ (unhide AU)).mono ?_
      rintro e w4 ⟨rfl, hb⟩
      replace AU := hide ((unhide AU).later hb)
      replace HB := hide (below_on (unhide HB) hb)
      clear hb
      have RS := hide (show nz ⟨⟨decide ((hv (nQ d, dQ d) (l.reverse.map fun y => (nQ y.2, dQ y.2))).1 < 0), zs⟩, ⟨decide ((hv (nQ d, dQ d) (l.reverse.map fun y => (nQ y.2, dQ y.2))).2 < 0), us⟩⟩ = decide ((hvd (l.map Prod.snd) d).1 = 0) from by unfold nz; rw [← hvd_eq]; exact unhide NZ)
      rw [unhide RS]
      generalize decide ((hvd (l.map Prod.snd) d).1 = 0) = bb at *
      go_wp2
      go_ret2
      exact ⟨by rw [← unhide HRES]; rfl, unhide HB⟩
set_option maxHeartbeats 4000000 in
theorem HasRS (a : Option Addr) (n c : Nat) (l : List (QV × QD)) (x : QV) (d : QD) (w : World) (h : PArQ w a n c l) (hx : AllAr w [(x.num, d.num), (x.den, d.den)]) :
    Calls Try.prog 45 #[.slice a n c, .agg #[.bool x.num.g, .slice x.num.a x.num.n x.num.c, .bool x.den.g, .slice x.den.a x.den.n x.den.c]] w fun e w' => e = .returned (.tuple #[.bool (hasR (l.map Prod.snd) d), .bool (rP (l.map Prod.snd) && pl d)]) ∧ Below w.heap.size w w' := by
  have CR := hide (fun w1 (k : PArQ w1 a n c l) => RootsPS a n c l w1 k)
  have CP := hide (fun w1 (k : AllAr w1 [(x.num, d.num), (x.den, d.den)]) => placeSp x d w1 k)
  unfold hasR
  cases hr : rP (l.map Prod.snd)
  · rw [hr] at CR
    rw [Bool.false_and, Bool.false_and]
    have H0 := hide h
    have H1 := hide hx
    clear h hx
    have B0 := hide (show Below w.heap.size w (w.alloc (.cells #[.bool x.num.g, .slice x.num.a x.num.n x.num.c, .bool x.den.g, .slice x.den.a x.den.n x.den.c] 33)) from ((Below.refl _ _).alloc (by simp) _))
    go_enter Try.func45, Try.ntmps45
    go_wp2_with fail
    refine (unhide CR _ ((unhide H0).later (unhide B0))).mono ?_
    rintro e w1 ⟨rfl, hb⟩
    have HB := hide (below_on (unhide B0) hb)
    clear hb
    go_wp2
    go_ret2
    exact ⟨rfl, unhide HB⟩
  · rw [hr] at CR
    rw [Bool.true_and]
    cases hp : pl d
    · rw [hp] at CP
      rw [Bool.false_and]
      have H0 := hide h
      have H1 := hide hx
      clear h hx
      have B0 := hide (show Below w.heap.size w (w.alloc (.cells #[.bool x.num.g, .slice x.num.a x.num.n x.num.c, .bool x.den.g, .slice x.den.a x.den.n x.den.c] 33)) from ((Below.refl _ _).alloc (by simp) _))
      go_enter Try.func45, Try.ntmps45
      go_wp2_with fail
      refine (unhide CR _ ((unhide H0).later (unhide B0))).mono ?_
      rintro e w1 ⟨rfl, hb⟩
      have k0_0 : w1.cell? ⟨w.heap.size, 0, none⟩ = some (.bool x.num.g) := cell_later hb (by simp [go_sem])
      have k0_1 : w1.cell? ⟨w.heap.size, 1, none⟩ = some (.slice x.num.a x.num.n x.num.c) := cell_later hb (by simp [go_sem])
      have k0_2 : w1.cell? ⟨w.heap.size, 2, none⟩ = some (.bool x.den.g) := cell_later hb (by simp [go_sem])
      have k0_3 : w1.cell? ⟨w.heap.size, 3, none⟩ = some (.slice x.den.a x.den.n x.den.c) := cell_later hb (by simp [go_sem])
      have HB := hide (below_on (unhide B0) hb)
      clear hb
      go_wp2_with fail
      refine (unhide CP _ ((unhide H1).later (unhide HB))).mono ?_
      rintro e w2 ⟨rfl, hb⟩
      clear k0_0 k0_1 k0_2 k0_3
      replace HB := hide (below_on (unhide HB) hb)
      clear hb
      go_wp2
      go_ret2
      exact ⟨rfl, unhide HB⟩
    · rw [hp] at CP
      rw [Bool.true_and]
      obtain ⟨rb, HRES⟩ : ∃ rb, Hid (decide ((hvd (l.map Prod.snd) d).1 = 0) = rb) := ⟨_, hide rfl⟩
      rw [unhide HRES]
      have gp : gP (l.map Prod.snd) = true := by unfold rP at hr; simp only [Bool.and_eq_true] at hr; exact hr.2
      obtain ⟨hn7, hgs⟩ := goods_of h gp
      have gx : IsGood w x d := isGood_of hx (by unfold pl at hp; simp only [Bool.and_eq_true] at hp; exact hp.2)
      have HGS := hide hgs
      have GX := hide gx
      clear gp hgs gx
      have H0 := hide h
      have H1 := hide hx
      clear h hx
      have B0 := hide (show Below w.heap.size w (w.alloc (.cells #[.bool x.num.g, .slice x.num.a x.num.n x.num.c, .bool x.den.g, .slice x.den.a x.den.n x.den.c] 33)) from ((Below.refl _ _).alloc (by simp) _))
      go_enter Try.func45, Try.ntmps45
      go_wp2_with fail
      refine (unhide CR _ ((unhide H0).later (unhide B0))).mono ?_
      rintro e w1 ⟨rfl, hb⟩
      have k0_0 : w1.cell? ⟨w.heap.size, 0, none⟩ = some (.bool x.num.g) := cell_later hb (by simp [go_sem])
      have k0_1 : w1.cell? ⟨w.heap.size, 1, none⟩ = some (.slice x.num.a x.num.n x.num.c) := cell_later hb (by simp [go_sem])
      have k0_2 : w1.cell? ⟨w.heap.size, 2, none⟩ = some (.bool x.den.g) := cell_later hb (by simp [go_sem])
      have k0_3 : w1.cell? ⟨w.heap.size, 3, none⟩ = some (.slice x.den.a x.den.n x.den.c) := cell_later hb (by simp [go_sem])
      have HB := hide (below_on (unhide B0) hb)
      clear hb
      go_wp2_with fail
      refine (unhide CP _ ((unhide H1).later (unhide HB))).mono ?_
      rintro e w2 ⟨rfl, hb⟩
      replace k0_0 := cell_later hb k0_0
      replace k0_1 := cell_later hb k0_1
      replace k0_2 := cell_later hb k0_2
      replace k0_3 := cell_later hb k0_3
      replace HB := hide (below_on (unhide HB) hb)
      clear hb
      go_wp2_with fail
      refine (valueS a n c l x (nQ d, dQ d) _ ((unhide H0).later (unhide HB)) (fun y hy => ((unhide HGS) y hy).later (unhide HB)) hn7 ((unhide GX).is.later (unhide HB)) (unhide GX).sm).mono ?_
      rintro e w3 ⟨u, rfl, hb, ⟨zs, ow, ar, m1⟩, ⟨us, ow2, ar2, m2⟩⟩
      have NZ := hide (nm_dec m1)
      clear k0_0 k0_1 k0_2 k0_3
      have AU := hide (show AllAr w3 [(u.num, ⟨_, zs⟩), (u.den, ⟨_, us⟩)] from ar.append ar2)
      replace HB := hide (below_on (unhide HB) hb)
      clear hb
      clear ow ar m1 ow2 ar2 m2
      go_wp2_with fail
      refine (zeroSq u ⟨⟨_, zs⟩, ⟨_, us⟩⟩ _ (unhide AU)).mono ?_
      rintro e w4 ⟨rfl, hb⟩
      replace AU := hide ((unhide AU).later hb)
      replace HB := hide (below_on (unhide HB) hb)
      clear hb
      have RS := hide (show nz ⟨⟨decide ((hv (nQ d, dQ d) (l.reverse.map fun y => (nQ y.2, dQ y.2))).1 < 0), zs⟩, ⟨decide ((hv (nQ d, dQ d) (l.reverse.map fun y => (nQ y.2, dQ y.2))).2 < 0), us⟩⟩ = decide ((hvd (l.map Prod.snd) d).1 = 0) from by unfold nz; rw [← hvd_eq]; exact unhide NZ)
      rw [unhide RS]
      generalize decide ((hvd (l.map Prod.snd) d).1 = 0) = bb at *
      go_wp2
      go_ret2
      exact ⟨by rw [← unhide HRES]; rfl, unhide HB⟩
end Go.Proofs.Ytliaddmkomcmnaa
