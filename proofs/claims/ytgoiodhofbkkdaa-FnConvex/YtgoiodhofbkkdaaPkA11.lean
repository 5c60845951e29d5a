/- Chapter 10 of the program: leftTurns. No condition beyond those typed. No condition beyond those typed. Written by mklt10.py. -/
import Derived.Test.YtgoiodhofbkkdaaSo10
import Derived.Test.YtgoiodhofbkkdaaLe10
import Derived.Laws.CopyOwn
import Derived.Lib.Overlaps
import Derived.Lib.AppendZerosOnto
import Derived.Lib.AppendZeros
import Derived.Deep.RegionLaw
namespace Go.Proofs.Ytgoiodhofbkkdaa
open Go.RowKit
set_option linter.unusedVariables false
set_option maxRecDepth 100000
set_option linter.unusedSimpArgs false

/-- copy over elements of several cells, into a row that is known whole. -/
theorem run_copyN {P : Program} (w : World) (dT sT ty elem : TypeId) (sz g o dLen dCap : Nat) (a : Addr) (sLen sCap : Nat) (cur : List Value) (t : TypeId) (cs : List Value)
    (hu : P.underlying dT = some (.slice elem)) (hs : (P.info? elem).map (·.size) = some sz)
    (hg : w.heap[g]? = some (.cells cur.toArray t (0, 0))) (hn : cs.length = Nat.min sLen dLen * sz)
    (hsrc : ∀ j v, cs[j]? = some v → w.cell? (a.add j) = some v) (hfit : o + cs.length ≤ cur.length) (h1 : ∀ v ∈ cs, v.oneCell' = true) :
    (Builtin.copy_ #[dT, sT] ty #[.slice (some ⟨g, o, none⟩) dLen dCap, .slice (some a) sLen sCap]).run P w =
      .ok (goInt (Nat.min sLen dLen)) (w.setRow g (splice cur o cs).toArray) := by
  have hl := run_loadCells_list (P := P) w a cs hsrc
  have hst := run_storeCells_at P g o t cs 0 cur.toArray w hg (by simpa using hfit) h1
  cases hq : P.info? elem with
  | none => simp [hq] at hs
  | some i =>
    have hi : i.size = sz := by simpa [hq] using hs
    simp [Builtin.copy_, run_underlying hu, Builtin.lenOf, Builtin.firstCells, sizeOf, typeInfo, hq, hi, ← hn, hl, hst, splice]
theorem grown_setRow {w : World} {g : Nat} {cs : Array Value} : w.grownBy (w.setRow g cs) (some g) :=
  ⟨rfl, rfl, rfl, by simp [World.setRow], fun k _ hne => setRow_other w g k cs (fun e => hne (by rw [e]))⟩
theorem wpList_copyN {P : Program} {w : World} {ops : Array Oper} {rest : List Oper} {o : Oper} {a : Act} {Q : Exit → Act → World → Prop} (hgd : o.guard = none) (d s : Operand) (dT sT : TypeId)
    (ho : o.op = .call { callee := .builtin .copy, args := #[d, s], argTypes := #[dT, sT] }) (elem : TypeId) (sz : Nat) (hu : P.underlying dT = some (.slice elem)) (hsz : (P.info? elem).map (·.size) = some sz)
    (g off dLen dCap : Nat) (ad : Addr) (sLen sCap : Nat) (hd : a.eval d = .slice (some ⟨g, off, none⟩) dLen dCap) (hs : a.eval s = .slice (some ad) sLen sCap)
    (cur : List Value) (t : TypeId) (hg : w.heap[g]? = some (.cells cur.toArray t (0, 0))) (cs : List Value) (hn : cs.length = Nat.min sLen dLen * sz)
    (hsrc : ∀ j v, cs[j]? = some v → w.cell? (ad.add j) = some v) (hfit : off + cs.length ≤ cur.length) (h1 : ∀ v ∈ cs, v.oneCell' = true)
    (h : ∀ w', Hid (w'.heap[g]? = some (.cells (splice cur off cs).toArray t (0, 0))) → w.grownBy w' (some g) → wpList P ops Q rest (a.put o.dst (goInt (Nat.min sLen dLen))) w') : wpList P ops Q (o :: rest) a w := by
  refine wpList_plain hgd fun K hK => ?_
  have hrun := run_copyN (P := P) w dT sT o.type elem sz g off dLen dCap ad sLen sCap cur t cs hu hsz hg hn hsrc hfit h1
  unfold Oper.wp
  simp [execOp, ho, resolve, invoke, builtin, hd, hs, hrun, Result.andThen]
  exact hK _ _ (h _ (hide (setRow_heap w g _ _ t _ hg)) grown_setRow)
theorem step_copyN {P : Program} {ops : Array Oper} {o : Oper} {a : Act} {w : World} {K : Act → World → Prop} {Q : Exit → Act → World → Prop} {E : Prop} (hgd : o.guard = none) (d s : Operand) (dT sT : TypeId)
    (ho : o.op = .call { callee := .builtin .copy, args := #[d, s], argTypes := #[dT, sT] }) (elem : TypeId) (sz : Nat) (hu : P.underlying dT = some (.slice elem)) (hsz : (P.info? elem).map (·.size) = some sz)
    (g off dLen dCap : Nat) (ad : Addr) (sLen sCap : Nat) (hd : a.eval d = .slice (some ⟨g, off, none⟩) dLen dCap) (hs : a.eval s = .slice (some ad) sLen sCap)
    (cur : List Value) (t : TypeId) (hg : w.heap[g]? = some (.cells cur.toArray t (0, 0))) (cs : List Value) (hn : cs.length = Nat.min sLen dLen * sz)
    (hsrc : ∀ j v, cs[j]? = some v → w.cell? (ad.add j) = some v) (hfit : off + cs.length ≤ cur.length) (h1 : ∀ v ∈ cs, v.oneCell' = true)
    (h : ∀ w', Hid (w'.heap[g]? = some (.cells (splice cur off cs).toArray t (0, 0))) → w.grownBy w' (some g) → K (a.put o.dst (goInt (Nat.min sLen dLen))) w') :
    if Region.wanted o (yielded ops a.tmps) = true then Oper.wp P o a w K Q else E := by
  have hw : Region.wanted o (yielded ops a.tmps) = true := by simp [Region.wanted, hgd]
  rw [if_pos hw]
  have hrun := run_copyN (P := P) w dT sT o.type elem sz g off dLen dCap ad sLen sCap cur t cs hu hsz hg hn hsrc hfit h1
  unfold Oper.wp
  simp [execOp, ho, resolve, invoke, builtin, hd, hs, hrun, Result.andThen]
  exact h _ (hide (setRow_heap w g _ _ t _ hg)) grown_setRow
theorem grown_trans {w w1 w2 : World} {r : Option Nat} (h : w.grownBy w1 r) (k : w1.grownBy w2 r) : w.grownBy w2 r :=
  ⟨k.os.trans h.os, k.tape.trans h.tape, k.output.trans h.output, Nat.le_trans h.size k.size, fun j hj hne => (k.block j (Nat.lt_of_lt_of_le hj h.size) hne).trans (h.block j hj hne)⟩
theorem grown_drew {w : World} {r : Option Nat} : w.grownBy w.drew r := ⟨rfl, rfl, rfl, Nat.le_refl _, fun _ _ _ => rfl⟩
theorem grown_below {w w' : World} (h : Below w.heap.size w w') (r : Option Nat) : w.grownBy w' r := ⟨h.os, h.tape, h.output, h.size, fun k hk _ => h.block k hk⟩
theorem grown_any {w w' : World} {g : Nat} (h : w.grownBy w' (some g)) (hg : w.heap.size ≤ g) (r : Option Nat) : w.grownBy w' r := ⟨h.os, h.tape, h.output, h.size, fun k hk _ => h.block k hk (fun e => by cases e; omega)⟩
theorem overI (w : World) (vb vc g o lb cb : Nat) (X Y : Array Value) (hne : vb ≠ g) (hv : w.heap[vb]? = some (.cells X 31 (0, 0))) (hg : w.heap[g]? = some (.cells Y 31 (0, 0))) (hy : Y.size ≠ 0) :
    (callFunc 105 #[.slice (some ⟨vb, 0, none⟩) 1 vc, .slice (some ⟨g, o, none⟩) lb cb]).run Try.prog w = .ok (.value (.bool false)) w := by
  have hsz : ∀ w, (Go.sizeOf 31).run Try.prog w = .ok 2 w := fun w => by
    obtain ⟨i0, hi, hz0, hz1, hz2⟩ := info_parts infoPt
    simp [sizeOf, typeInfo, hi, hz1]
  rw [run_callFunc_extern Try.func105 (by kernel_rfl) (by kernel_rfl) (by kernel_rfl) (e := Extern.SlicesOverlaps.overlaps #[23, 23] #[4]) (by kernel_rfl),
    Lib.run_overlaps_apart w 23 4 31 Try.underlying23 2 hsz ⟨vb, 0, none⟩ ⟨g, o, none⟩ 1 vc lb cb hne 31 31 X.size Y.size (by simp [World.shape?, hv]) (by simp [World.shape?, hg]) hy (by simp [World.frozen?, hv]) (by simp [World.frozen?, hv])]
  rfl
theorem RwP.raw {B g n c : Nat} {w : World} {L : List (Int × Int)} (h : RwP B w (.slice (some ⟨g, 0, none⟩) n c) L) : L.length = n ∧ B ≤ g ∧ ∃ cur : List Value, w.heap[g]? = some (.cells cur.toArray 31 (0, 0)) ∧ n ≤ c ∧ c ≤ maxLen ∧ cur.length = c * 2 ∧ cur.take (n * 2) = flatP L := by
  rcases h.row.2 with ⟨h', _⟩ | ⟨g', c', cur, hv, h1, hg, h2, h3, h4, h5⟩
  · cases h'
  · simp only [Value.slice.injEq, Option.some.injEq, Addr.mk.injEq, and_true, true_and] at hv
    obtain ⟨rfl, e, rfl⟩ := hv
    exact ⟨e.symm, h1, cur.toList, by simpa using hg, by omega, h3, by simpa using h4, by rw [e]; exact h5⟩
theorem flat_drop : ∀ (L : List (Int × Int)) (k : Nat), flatP (L.drop k) = (flatP L).drop (k * 2)
  | [], k => by simp [flatP]
  | p :: L, 0 => by simp [flatP]
  | p :: L, k + 1 => by
    rw [List.drop_succ_cons, flat_drop L k, show flatP (p :: L) = .int .i64 p.1 :: .int .i64 p.2 :: flatP L by simp [flatP], show (k + 1) * 2 = k * 2 + 1 + 1 by omega, List.drop_succ_cons, List.drop_succ_cons]
theorem flat_one' : ∀ (L : List (Int × Int)), ∀ v ∈ flatP L, v.oneCell' = true := fun L v hv => by
  unfold flatP at hv
  rw [List.mem_flatMap] at hv
  obtain ⟨x, _, hx⟩ := hv
  simp at hx
  rcases hx with rfl | rfl <;> rfl
/-- A point's cells. -/
def pcs (p : Int × Int) : List Value := [.int .i64 p.1, .int .i64 p.2]
theorem pcs_len (p : Int × Int) : (pcs p).length = 2 := rfl
theorem pcs_one (p : Int × Int) : ∀ v ∈ pcs p, v.oneCell' = true := fun v hv => by
  unfold pcs at hv
  simp at hv
  rcases hv with rfl | rfl <;> rfl
theorem put_flat (L : List (Int × Int)) (p : Int × Int) (i : Nat) : flatP (L.take i ++ p :: L.drop i) = flatP (L.take i) ++ (pcs p ++ flatP (L.drop i)) := by
  rw [flatP_append, show flatP (p :: L.drop i) = pcs p ++ flatP (L.drop i) by simp [flatP, pcs]]
theorem put_row {B g n c i : Nat} {w : World} {L : List (Int × Int)} {p : Int × Int} {Z : List Value} (hB : B ≤ g) (hL : L.length = n) (hi : i ≤ n) (hc : n + 1 ≤ c) (hm : c ≤ maxLen)
    (hg : w.heap[g]? = some (.cells (flatP (L.take i) ++ (pcs p ++ (flatP (L.drop i) ++ Z))).toArray 31 (0, 0))) (hz : (flatP (L.take i) ++ (pcs p ++ (flatP (L.drop i) ++ Z))).length = c * 2) :
    RwP B w (.slice (some ⟨g, 0, none⟩) (n + 1) c) (L.take i ++ p :: L.drop i) := by
  have hl : (L.take i ++ p :: L.drop i).length = n + 1 := by simp; omega
  refine ⟨?_⟩
  rw [hl]
  refine ⟨by rw [flat_len, hl], .inr ⟨g, c, _, rfl, hB, hg, by omega, hm, by simpa using hz, ?_⟩⟩
  have hq : (flatP (L.take i ++ p :: L.drop i)).length = (n + 1) * 2 := by rw [flat_len, hl]
  rw [put_flat] at hq ⊢
  have e : flatP (L.take i) ++ (pcs p ++ (flatP (L.drop i) ++ Z)) = (flatP (L.take i) ++ (pcs p ++ flatP (L.drop i))) ++ Z := by simp
  rw [e, List.take_append_of_le_length (by omega), List.take_of_length_le (by omega)]
theorem shift_rows {cur : List Value} {L : List (Int × Int)} {p : Int × Int} {n c i : Nat} (hL : L.length = n) (hc : cur.length = c * 2) (ht : cur.take (n * 2) = flatP L) (hi : i < n) (hr : n + 1 ≤ c) :
    splice (splice cur ((i + 1) * 2) (flatP (L.drop i))) (i * 2) (pcs p) = flatP (L.take i) ++ (pcs p ++ (flatP (L.drop i) ++ cur.drop ((i + 1) * 2 + (n - i) * 2))) := by
  have hd : (flatP (L.drop i)).length = (n - i) * 2 := by rw [flat_len]; simp; omega
  have h1 : (splice cur ((i + 1) * 2) (flatP (L.drop i))).take (i * 2) = flatP (L.take i) := by
    unfold splice
    rw [List.take_append_of_le_length (by simp; omega), List.take_take, flat_take, ← ht, List.take_take]
    congr 1
    omega
  have h2 : (splice cur ((i + 1) * 2) (flatP (L.drop i))).drop (i * 2 + 2) = flatP (L.drop i) ++ cur.drop ((i + 1) * 2 + (n - i) * 2) := by
    unfold splice
    rw [List.drop_append_of_le_length (by simp; omega), List.drop_take, show (i + 1) * 2 - (i * 2 + 2) = 0 by omega, List.take_zero, List.nil_append, hd]
  rw [show splice (splice cur ((i + 1) * 2) (flatP (L.drop i))) (i * 2) (pcs p) = (splice cur ((i + 1) * 2) (flatP (L.drop i))).take (i * 2) ++ (pcs p ++ (splice cur ((i + 1) * 2) (flatP (L.drop i))).drop (i * 2 + 2)) from rfl, h1, h2]
theorem grow_rows {row : List Value} {L : List (Int × Int)} {p : Int × Int} {n i : Nat} (hL : L.length = n) (ht : row.take (i * 2) = flatP (L.take i)) (hi : i < n) (hr : (n + 1) * 2 ≤ row.length) :
    splice (splice row (i * 2) (pcs p)) ((i + 1) * 2) (flatP (L.drop i)) = flatP (L.take i) ++ (pcs p ++ (flatP (L.drop i) ++ row.drop ((i + 1) * 2 + (n - i) * 2))) := by
  have hd : (flatP (L.drop i)).length = (n - i) * 2 := by rw [flat_len]; simp; omega
  have hq : (flatP (L.take i)).length = i * 2 := by rw [flat_len]; simp; omega
  have e : splice row (i * 2) (pcs p) = (flatP (L.take i) ++ pcs p) ++ row.drop ((i + 1) * 2) := by
    show row.take (i * 2) ++ (pcs p ++ row.drop (i * 2 + 2)) = _
    rw [ht, List.append_assoc, show (i + 1) * 2 = i * 2 + 2 by omega]
  have hq2 : (flatP (L.take i) ++ pcs p).length = (i + 1) * 2 := by rw [List.length_append, hq, pcs_len]; omega
  rw [e]
  unfold splice
  rw [List.take_append_of_le_length (by omega), List.take_of_length_le (by omega), hd, List.drop_append, List.drop_of_length_le (l := flatP (L.take i) ++ pcs p) (by omega), List.nil_append, hq2, List.drop_drop, List.append_assoc]
  congr 4
  omega
set_option maxHeartbeats 4000000 in
theorem insShift (B g n c i vb : Nat) (L : List (Int × Int)) (p : Int × Int) (w : World) (h : RwP B w (.slice (some ⟨g, 0, none⟩) n c) L) (hi : i < n) (hroom : n + 1 ≤ c) (hl : n ≤ 100) (hv : w.heap[vb]? = some (.cells #[.int .i64 p.1, .int .i64 p.2] 31 (0, 0))) (hvb : vb ≠ g) :
    Calls Try.prog 99 #[.slice (some ⟨g, 0, none⟩) n c, .int .i64 i, .slice (some ⟨vb, 0, none⟩) 1 1] w fun e w' =>
      e = .returned (.slice (some ⟨g, 0, none⟩) (n + 1) c) ∧ RwP B w' (.slice (some ⟨g, 0, none⟩) (n + 1) c) (L.take i ++ p :: L.drop i) ∧ w.grownBy w' (some g) := by
  obtain ⟨i0, hi0, hz0, hz1, hz2⟩ := info_parts infoPt
  have hsz : (Try.prog.info? 31).map (·.size) = some 2 := by rw [hi0]; simp [hz1]
  obtain ⟨hL, hB, cur, hg, hnc, hcm, hcl, ht⟩ := h.raw
  have hov : ∀ lb cb, (callFunc 105 #[.slice (some ⟨vb, 0, none⟩) 1 1, .slice (some ⟨g, (i + 1) * 2, none⟩) lb cb]).run Try.prog w = .ok (.value (.bool false)) w := fun lb cb => overI w vb 1 g ((i + 1) * 2) lb cb _ _ hvb hv hg (by rw [List.size_toArray, hcl]; omega)
  have hw1 : IntKind.i64.wrap ((i : Int) + 1) = (i : Int) + 1 := by rw [IntKind.wrap_i64]; omega
  have hw2 : IntKind.i64.wrap ((n : Int) + 1) = (n : Int) + 1 := by rw [IntKind.wrap_i64]; omega
  have hb1 : (0 : Int) ≤ (i : Int) + 1 := by omega
  have htn : ((i : Int) + 1).toNat = i + 1 := by omega
  have htm : ((n : Int) + 1).toNat = n + 1 := by omega
  have hin : i ≤ n := by omega
  have hb2 : ¬ (c = i + 1) := by omega
  have hb3 : (i : Int) ≤ (n : Int) + 1 := by omega
  have hb4 : ¬ (c = i) := by omega
  have hb5 : (n : Int) + 1 ≤ (c : Int) := by omega
  have hb6 : ¬ ((c : Int) < (n : Int) + 1) := by omega
  have hz2' : ¬ ((i : Int) = (n : Int)) := by omega
  unfold maxLen at hcm
  have HG := hide hg
  have HV := hide hv
  have HH := hide (And.intro hL (And.intro hB (And.intro hcl ht)))
  have HD : Hid ((flatP (L.drop i)).length = Nat.min (n + 1 - i) (n + 1 - (i + 1)) * 2 ∧ (∀ j v, (flatP (L.drop i))[j]? = some v → w.drew.cell? ((⟨g, i * 2, none⟩ : Addr).add j) = some v) ∧ (i + 1) * 2 + (flatP (L.drop i)).length ≤ cur.length ∧ True) := hide ⟨by rw [flat_len, List.length_drop, hL, show Nat.min (n + 1 - i) (n + 1 - (i + 1)) = n - i by show min _ _ = _; omega], fun j v hj => by
      have := h.news i (n - i) (by omega) j v (by rw [List.take_of_length_le (by rw [List.length_drop]; omega)]; exact hj)
      exact this, by rw [flat_len, List.length_drop, hL, hcl]; omega, trivial⟩
  clear hg hv h hL hB hcl ht
  go_enter Try.func99, Try.ntmps99
  go_wp2_with (simp only [hov])
  go_region_law (refine step_copyN rfl (.tmp 73) (.tmp 76) 23 23 rfl 31 2 Try.underlying23 hsz g ((i + 1) * 2) (n + 1 - (i + 1)) (c - (i + 1)) ⟨g, i * 2, none⟩ (n + 1 - i) (c - i) (by simp [Act.eval, Act.put]) (by simp [Act.eval, Act.put]) cur 31 (unhide HG) (flatP (L.drop i)) (unhide HD).1 (unhide HD).2.1 (unhide HD).2.2.1 (flat_one' _) (fun w2 g2 r2 => ?_))
  have HV2 : Hid (∀ j v, (pcs p)[j]? = some v → w2.cell? ((⟨vb, 0, none⟩ : Addr).add j) = some v) := hide (fun j v hj => by
    have k := unhide HV
    have e : w2.heap[vb]? = some (.cells #[.int .i64 p.1, .int .i64 p.2] 31 (0, 0)) := by rw [r2.block vb (Array.getElem?_eq_some_iff.1 k).1 (fun e => hvb (by cases e; rfl))]; exact k
    match j, hj with
    | 0, hj => simp [pcs] at hj; subst hj; simp [World.cell?, Addr.add, e]
    | 1, hj => simp [pcs] at hj; subst hj; simp [World.cell?, Addr.add, e]
    | j + 2, hj => simp [pcs] at hj)
  have HD2 : Hid ((pcs p).length = Nat.min 1 (n + 1 - i) * 2 ∧ i * 2 + (pcs p).length ≤ (splice cur ((i + 1) * 2) (flatP (L.drop i))).length) := hide ⟨by rw [pcs_len, show Nat.min 1 (n + 1 - i) = 1 by show min _ _ = _; omega], by rw [length_splice _ _ _ (unhide HD).2.2.1, pcs_len]; have := (unhide HD).2.2.1; rw [flat_len] at this; omega⟩
  have R2 := hide (grown_trans grown_drew r2)
  have ES : Hid (splice (splice cur ((i + 1) * 2) (flatP (L.drop i))) (i * 2) (pcs p) = flatP (L.take i) ++ (pcs p ++ (flatP (L.drop i) ++ cur.drop ((i + 1) * 2 + (n - i) * 2)))) := hide (shift_rows (unhide HH).1 (unhide HH).2.2.1 (unhide HH).2.2.2 hi hroom)
  have EZ : Hid ((splice (splice cur ((i + 1) * 2) (flatP (L.drop i))) (i * 2) (pcs p)).length = c * 2) := hide (by rw [length_splice _ _ _ (unhide HD2).2, length_splice _ _ _ (unhide HD).2.2.1]; exact (unhide HH).2.2.1)
  clear r2 HD
  generalize splice cur ((i + 1) * 2) (flatP (L.drop i)) = S1 at *
  go_wp2_with fail
  rw [run_copyN w2 23 23 _ 31 2 g (i * 2) (n + 1 - i) (c - i) ⟨vb, 0, none⟩ 1 1 S1 31 (pcs p) Try.underlying23 hsz (unhide g2) (unhide HD2).1 (unhide HV2) (unhide HD2).2 (pcs_one p)]
  have g3 := hide (setRow_heap w2 g _ (splice S1 (i * 2) (pcs p)).toArray 31 _ (unhide g2))
  have r3 : w2.grownBy (w2.setRow g (splice S1 (i * 2) (pcs p)).toArray) (some g) := grown_setRow
  generalize w2.setRow g (splice S1 (i * 2) (pcs p)).toArray = w3 at *
  have R3 := hide (grown_trans (unhide R2) r3)
  rw [unhide ES] at g3 EZ
  clear r3
  go_wp2
  go_ret
  exact ⟨rfl, put_row (unhide HH).2.1 (unhide HH).1 (by omega) hroom (by unfold maxLen; omega) (unhide g3) (unhide EZ), unhide R3⟩
theorem zero_len (k : Nat) : (Builtin.zeroCells (Value.agg #[.int .i64 0, .int .i64 0]).cells k).size = k * 2 := by simp [Builtin.zeroCells, Value.cells]
theorem vb_cells {w : World} {vb : Nat} {p : Int × Int} (e : w.heap[vb]? = some (.cells #[.int .i64 p.1, .int .i64 p.2] 31 (0, 0))) : ∀ j v, (pcs p)[j]? = some v → w.cell? ((⟨vb, 0, none⟩ : Addr).add j) = some v := fun j v hj => by
  match j, hj with
  | 0, hj => simp [pcs] at hj; subst hj; simp [World.cell?, Addr.add, e]
  | 1, hj => simp [pcs] at hj; subst hj; simp [World.cell?, Addr.add, e]
  | j + 2, hj => simp [pcs] at hj
set_option maxHeartbeats 4000000 in
theorem insGrow (B g n c i vb : Nat) (L : List (Int × Int)) (p : Int × Int) (w : World) (h : RwP B w (.slice (some ⟨g, 0, none⟩) n c) L) (hi : i < n) (hroom : c < n + 1) (hl : n ≤ 100) (hv : w.heap[vb]? = some (.cells #[.int .i64 p.1, .int .i64 p.2] 31 (0, 0))) :
    Calls Try.prog 99 #[.slice (some ⟨g, 0, none⟩) n c, .int .i64 i, .slice (some ⟨vb, 0, none⟩) 1 1] w fun e w' =>
      ∃ G, e = .returned (.slice (some ⟨w.heap.size, 0, none⟩) (n + 1) G) ∧ RwP B w' (.slice (some ⟨w.heap.size, 0, none⟩) (n + 1) G) (L.take i ++ p :: L.drop i) ∧ Below w.heap.size w w' := by
  obtain ⟨i0, hi0, hz0, hz1, hz2⟩ := info_parts infoPt
  have hsz : (Try.prog.info? 31).map (·.size) = some 2 := by rw [hi0]; simp [hz1]
  obtain ⟨hL, hB, cur, hg, hnc, hcm, hcl, ht⟩ := h.raw
  have hgw : g < w.heap.size := (Array.getElem?_eq_some_iff.1 hg).1
  have hvw : vb < w.heap.size := (Array.getElem?_eq_some_iff.1 hv).1
  have hik : i + (n + 1 - i) = n + 1 := by omega
  have hold : (Builtin.firstCells i0.size i (.slice (some ⟨g, 0, none⟩) i c)).run Try.prog w.drew = .ok (flatP (L.take i)).toArray w.drew := by
    rw [hz1]
    refine run_firstCells_some w.drew 2 i ⟨g, 0, none⟩ i c (flatP (L.take i)) (by rw [flat_len]; simp; omega) (fun j v hj => ?_)
    have := h.news 0 i (by omega) j v (by simpa using hj)
    simpa using this
  have hrz : ∀ ty, (Builtin.append_ #[23, 3] ty #[.slice (some ⟨g, 0, none⟩) i c, .int .i64 (((n + 1 - i : Nat) : Int))]).run Try.prog w = _ := fun ty => Lib.run_append_grow_zeros w 23 3 ty 31 i0 _ .i64 .i64 Try.underlying23 Try.underlying3 hi0 hz0 (some ⟨g, 0, none⟩) i c (flatP (L.take i)) hold (n + 1 - i) (by omega) (by omega) (by omega) (by omega) (by rw [hz2]; omega) (by rw [hz2, hik]; exact growslice_fits (by omega) (by omega))
  rw [hik] at hrz
  have hGn := grownCap_ge w (n + 1) c 31
  have hGm := grownCap_le_maxLen w (n + 1) c 31 (by unfold maxLen; omega)
  generalize grownCap w (n + 1) c 31 = G at *
  have HROW : Hid (∃ ROW : List Value, (flatP (L.take i)).toArray ++ Builtin.zeroCells (Value.agg #[.int .i64 0, .int .i64 0]).cells (n + 1 - i) ++ Builtin.zeroCells (Value.agg #[.int .i64 0, .int .i64 0]).cells (G - (n + 1)) = ROW.toArray ∧ ROW.take (i * 2) = flatP (L.take i) ∧ ROW.length = G * 2) := hide ⟨flatP (L.take i) ++ (Builtin.zeroCells (Value.agg #[.int .i64 0, .int .i64 0]).cells (n + 1 - i)).toList ++ (Builtin.zeroCells (Value.agg #[.int .i64 0, .int .i64 0]).cells (G - (n + 1))).toList, by simp, by
    have hq : (flatP (L.take i)).length = i * 2 := by rw [flat_len]; simp; omega
    rw [List.append_assoc, List.take_append_of_le_length (by omega), List.take_of_length_le (by omega)], by
    have hq : (flatP (L.take i)).length = i * 2 := by rw [flat_len]; simp; omega
    simp only [List.length_append, Array.length_toList, zero_len, hq]; omega⟩
  obtain ⟨ROW, eR, hR1, hR2⟩ := unhide HROW
  rw [eR] at hrz
  clear HROW eR hold
  have HR := hide (And.intro hR1 hR2)
  have W1c : Hid ((w.drew.alloc (.cells ROW.toArray 31)).heap[w.heap.size]? = some (.cells ROW.toArray 31 (0, 0)) ∧ Below w.heap.size w (w.drew.alloc (.cells ROW.toArray 31))) := hide ⟨heap_alloc_new w.drew _, (Below.refl _ _).drew.alloc (Nat.le_refl _) _⟩
  generalize w.drew.alloc (.cells ROW.toArray 31) = W1 at *
  have hkk : (n : Int) + 1 - (i : Int) = ((n + 1 - i : Nat) : Int) := by omega
  rw [← hkk] at hrz
  clear hkk
  have hw0 : IntKind.i64.wrap ((n : Int) + 1 - (i : Int)) = (n : Int) + 1 - (i : Int) := by rw [IntKind.wrap_i64]; omega
  have hw1 : IntKind.i64.wrap ((i : Int) + 1) = (i : Int) + 1 := by rw [IntKind.wrap_i64]; omega
  have hw2 : IntKind.i64.wrap ((n : Int) + 1) = (n : Int) + 1 := by rw [IntKind.wrap_i64]; omega
  have hb1 : (0 : Int) ≤ (i : Int) + 1 := by omega
  have htn : ((i : Int) + 1).toNat = i + 1 := by omega
  have hin : i ≤ n := by omega
  have hb3 : (i : Int) ≤ (n : Int) + 1 := by omega
  have hb4 : ¬ (c = i) := by omega
  have hb6 : (c : Int) < (n : Int) + 1 := by omega
  have hb7 : ¬ (G = i) := by omega
  have hb8 : ¬ (G = i + 1) := by omega
  have hb9 : (i : Int) ≤ (c : Int) := by omega
  have hbA : (i : Int) ≤ (n : Int) := by omega
  have hz2' : ¬ ((i : Int) = (n : Int)) := by omega
  have HD : Hid ((flatP (L.drop i)).length = Nat.min (n - i) (n + 1 - (i + 1)) * 2 ∧ (∀ j v, (flatP (L.drop i))[j]? = some v → w.cell? ((⟨g, i * 2, none⟩ : Addr).add j) = some v) ∧ (i + 1) * 2 + (flatP (L.drop i)).length ≤ ROW.length ∧ i * 2 + (pcs p).length ≤ ROW.length ∧ (pcs p).length = Nat.min 1 (n + 1 - i) * 2) := hide ⟨by rw [flat_len, List.length_drop, hL, show Nat.min (n - i) (n + 1 - (i + 1)) = n - i by show min _ _ = _; omega], fun j v hj => by
      have := h.news i (n - i) (by omega) j v (by rw [List.take_of_length_le (by rw [List.length_drop]; omega)]; exact hj)
      exact this, by rw [flat_len, List.length_drop, hL, hR2]; omega, by rw [pcs_len, hR2]; omega, by rw [pcs_len, show Nat.min 1 (n + 1 - i) = 1 by show min _ _ = _; omega]⟩
  unfold maxLen at hcm hGm
  have HV := hide hv
  have HH := hide (And.intro hL (And.intro hB (And.intro hcl ht)))
  clear hg hv h hL hB hcl ht hR1 hR2
  go_enter Try.func99, Try.ntmps99
  go_wp2_with (at_builtin; refine Lib.wpList_append_run _ rfl _ _ _ _ rfl _ _ rfl rfl _ _ (hrz _) ?_)
  have hvs : Hid (∀ j v, (pcs p)[j]? = some v → W1.cell? ((⟨vb, 0, none⟩ : Addr).add j) = some v) := hide (vb_cells (by rw [(unhide W1c).2.block vb hvw]; exact unhide HV))
  rw [run_copyN W1 23 23 _ 31 2 w.heap.size (i * 2) (n + 1 - i) (G - i) ⟨vb, 0, none⟩ 1 1 ROW 31 (pcs p) Try.underlying23 hsz (unhide W1c).1 (unhide HD).2.2.2.2 (unhide hvs) (unhide HD).2.2.2.1 (pcs_one p)]
  have g2 := hide (setRow_heap W1 w.heap.size _ (splice ROW (i * 2) (pcs p)).toArray 31 _ (unhide W1c).1)
  have r2 : Hid (Below w.heap.size w (W1.setRow w.heap.size (splice ROW (i * 2) (pcs p)).toArray)) := hide (below_setRow (unhide W1c).2 (Nat.le_refl _) _)
  generalize W1.setRow w.heap.size (splice ROW (i * 2) (pcs p)).toArray = W2 at *
  have HS2 : Hid (∀ j v, (flatP (L.drop i))[j]? = some v → W2.cell? ((⟨g, i * 2, none⟩ : Addr).add j) = some v) := hide (fun j v hj => by
    have k := (unhide HD).2.1 j v hj
    rw [Addr.add_lit] at k ⊢
    rw [(unhide r2).cell (p := ⟨g, i * 2 + j, none⟩) hgw]
    exact k)
  have ES : Hid (splice (splice ROW (i * 2) (pcs p)) ((i + 1) * 2) (flatP (L.drop i)) = flatP (L.take i) ++ (pcs p ++ (flatP (L.drop i) ++ ROW.drop ((i + 1) * 2 + (n - i) * 2)))) := hide (grow_rows (unhide HH).1 (unhide HR).1 hi (by rw [(unhide HR).2]; omega))
  have LE : Hid ((i + 1) * 2 + (flatP (L.drop i)).length ≤ (splice ROW (i * 2) (pcs p)).length) := hide (by rw [length_splice _ _ _ (unhide HD).2.2.2.1]; exact (unhide HD).2.2.1)
  have EZ : Hid ((splice (splice ROW (i * 2) (pcs p)) ((i + 1) * 2) (flatP (L.drop i))).length = G * 2) := hide (by rw [length_splice _ _ _ (unhide LE), length_splice _ _ _ (unhide HD).2.2.2.1]; exact (unhide HR).2)
  have HD1 : Hid ((flatP (L.drop i)).length = Nat.min (n - i) (n + 1 - (i + 1)) * 2) := hide (unhide HD).1
  clear W1c hvs HD hrz HV
  generalize splice ROW (i * 2) (pcs p) = S1 at *
  go_wp2
  go_region_law (refine step_copyN rfl (.tmp 50) (.tmp 53) 23 23 rfl 31 2 Try.underlying23 hsz w.heap.size ((i + 1) * 2) (n + 1 - (i + 1)) (G - (i + 1)) ⟨g, i * 2, none⟩ (n - i) (c - i) (by simp [Act.eval, Act.put]) (by simp [Act.eval, Act.put]) S1 31 (unhide g2) (flatP (L.drop i)) (unhide HD1) (unhide HS2) (unhide LE) (flat_one' _) (fun W3 g3 r3 => ?_))
  rw [unhide ES] at g3 EZ
  have R3 : Hid (Below w.heap.size w W3) := hide ⟨r3.os.trans (unhide r2).os, r3.tape.trans (unhide r2).tape, r3.output.trans (unhide r2).output, Nat.le_trans (unhide r2).size r3.size, fun k hk => (r3.block k (Nat.lt_of_lt_of_le hk (unhide r2).size) (fun e => by cases e; omega)).trans ((unhide r2).block k hk)⟩
  clear r3 r2
  go_wp2
  go_ret
  exact ⟨G, rfl, put_row (Nat.le_trans (unhide HH).2.1 (Nat.le_of_lt hgw)) (unhide HH).1 (by omega) hGn (by unfold maxLen; omega) (unhide g3) (unhide EZ), unhide R3⟩
set_option maxHeartbeats 4000000 in
theorem insEnd (B n vb : Nat) (a : Option Addr) (c : Nat) (L : List (Int × Int)) (p : Int × Int) (w : World) (h : RwP B w (.slice a n c) L) (hL : L.length = n) (hnc : n ≤ c) (hl : n ≤ 100) (hc : c ≤ maxLen) (hB : B ≤ w.heap.size) (hv : w.heap[vb]? = some (.cells #[.int .i64 p.1, .int .i64 p.2] 31 (0, 0))) :
    Calls Try.prog 99 #[.slice a n c, .int .i64 n, .slice (some ⟨vb, 0, none⟩) 1 1] w fun e w' =>
      ∃ v', e = .returned v' ∧ RwP B w' v' (L ++ [p]) ∧ w.grownBy w' (Value.slice a n c).ownBlock := by
  obtain ⟨i0, hi, hz0, hz1, hz2⟩ := info_parts infoPt
  unfold maxLen at hc
  have HW := hide h
  have HL := hide hL
  have HV := hide (vb_cells hv)
  clear h hL hv
  by_cases hcn : c = n
  · subst hcn
    go_enter Try.func99, Try.ntmps99
    go_wp2_with (at_builtin; refine wpList_append_own _ rfl (.tmp 23) (.tmp 24) 23 rfl B 31 i0 (.agg #[.int .i64 0, .int .i64 0]) 2 16 Try.underlying23 hi hz0 hz1 hz2 rfl (by decide) _ _ _ rfl (unhide HW).row ⟨vb, 0, none⟩ 1 1 (pcs p) rfl (pcs_len p) (unhide HV) (pcs_one p) (by rw [unhide HL]; unfold maxLen; omega) (by rw [unhide HL]; omega) hB ?_)
    intro v' w6 hown hgr _
    have X := hide (RwP.snoc hown)
    have HGR := hide hgr
    clear hown hgr
    go_wp2
    go_ret
    exact ⟨_, rfl, unhide X, unhide HGR⟩
  · have hb4 : ¬ ((c : Int) = (n : Int)) := by omega
    have hb5 : ¬ (c - n = 0) := by omega
    go_enter Try.func99, Try.ntmps99
    go_wp2_with (at_builtin; refine wpList_append_own _ rfl (.tmp 23) (.tmp 24) 23 rfl B 31 i0 (.agg #[.int .i64 0, .int .i64 0]) 2 16 Try.underlying23 hi hz0 hz1 hz2 rfl (by decide) _ _ _ rfl (unhide HW).row ⟨vb, 0, none⟩ 1 1 (pcs p) rfl (pcs_len p) (unhide HV) (pcs_one p) (by rw [unhide HL]; unfold maxLen; omega) (by rw [unhide HL]; omega) hB ?_)
    intro v' w6 hown hgr _
    have X := hide (RwP.snoc hown)
    have HGR := hide hgr
    clear hown hgr
    go_wp2
    go_ret
    exact ⟨_, rfl, unhide X, unhide HGR⟩
theorem insI (B i vb : Nat) (v : Value) (L : List (Int × Int)) (p : Int × Int) (w : World) (h : RwP B w v L) (hi : i ≤ L.length) (hl : L.length ≤ 100) (hB : B ≤ w.heap.size) (hv : w.heap[vb]? = some (.cells #[.int .i64 p.1, .int .i64 p.2] 31 (0, 0))) (hvb : v.ownBlock ≠ some vb) :
    Calls Try.prog 99 #[v, .int .i64 i, .slice (some ⟨vb, 0, none⟩) 1 1] w fun e w' =>
      ∃ v', e = .returned v' ∧ RwP B w' v' (L.take i ++ p :: L.drop i) ∧ w.grownBy w' v.ownBlock := by
  rcases h.open with ⟨rfl, rfl⟩ | ⟨g, c, rfl, h1, h2, h3, h4, h5⟩
  · obtain rfl : i = 0 := by simpa using hi
    exact insEnd B 0 vb none 0 [] p w h rfl (by omega) (by omega) (by unfold maxLen; omega) hB hv
  · by_cases e : i = L.length
    · subst e
      refine (insEnd B _ vb _ c L p w h rfl h3 hl h4 hB hv).mono ?_
      rintro e w' ⟨v', he, hr, hg⟩
      exact ⟨v', he, by simpa using hr, hg⟩
    · by_cases hroom : L.length + 1 ≤ c
      · refine (insShift B g _ c i vb L p w h (by omega) hroom hl hv (fun e => hvb (by rw [e]; rfl))).mono ?_
        rintro e w' ⟨he, hr, hg⟩
        exact ⟨_, he, hr, hg⟩
      · refine (insGrow B g _ c i vb L p w h (by omega) (by omega) hl hv).mono ?_
        rintro e w' ⟨G, he, hr, hg⟩
        exact ⟨_, he, hr, grown_below hg _⟩
end Go.Proofs.Ytgoiodhofbkkdaa
namespace Go.Proofs.Ytgoiodhofbkkdaa
open Go.RowKit
set_option linter.unusedVariables false
set_option maxRecDepth 100000
set_option linter.unusedSimpArgs false

def fnd (L : List (Int × Int)) (p : Int × Int) : Bool := decide (posP L p < L.length) && decide (L.getD (posP L p) (0, 0) = p)
theorem rise_get {L : List (Int × Int)} (h : Rise L) {i j : Nat} (hij : i < j) (hj : j < L.length) : ltP (L.getD i (0, 0)) (L.getD j (0, 0)) = true := by
  rw [getD_gt (by omega), getD_gt hj]
  exact List.pairwise_iff_getElem.1 h i j (by omega) hj hij
theorem low_side {L : List (Int × Int)} {p : Int × Int} (h : Rise L) {m : Nat} (hm : m < L.length) (hl : ltP (L.getD m (0, 0)) p = true) : ∀ k, k < m + 1 → ltP (L.getD k (0, 0)) p = true := fun k hk => by
  by_cases e : k = m
  · rw [e]; exact hl
  · exact ltP_trans (rise_get h (by omega) hm) hl
theorem high_side {L : List (Int × Int)} {p : Int × Int} (h : Rise L) {m : Nat} (hl : ltP (L.getD m (0, 0)) p = false) : ∀ k, m ≤ k → k < L.length → ltP (L.getD k (0, 0)) p = false := fun k hk hkl => by
  by_cases e : k = m
  · rw [e]; exact hl
  · cases hx : ltP (L.getD k (0, 0)) p
    · rfl
    · rw [ltP_trans (rise_get h (by omega) hkl) hx] at hl; cases hl
set_option maxHeartbeats 8000000 in
theorem bsI (a : Option Addr) (n c : Nat) (L : List (Int × Int)) (p : Int × Int) (w : World) (h : SlP w a L) (hn : L.length = n) (h1 : n ≤ 100) (hr : Rise L) :
    Calls Try.prog 98 #[.slice a n c, .agg #[.int .i64 p.1, .int .i64 p.2], .func (Fn.func 75) #[] #[]] w fun e w' => e = .returned (.tuple #[.int .i64 (posP L p), .bool (fnd L p)]) ∧ Below w.heap.size w w' := by
  have HS := hide h
  have HN := hide hn
  have HR := hide hr
  have KP : Hid ((w.alloc (.cells #[.int .i64 p.1, .int .i64 p.2] 31)).cell? ⟨w.heap.size, 0, none⟩ = some (.int .i64 p.1) ∧ (w.alloc (.cells #[.int .i64 p.1, .int .i64 p.2] 31)).cell? ⟨w.heap.size, 1, none⟩ = some (.int .i64 p.2)) := hide (by simp [go_sem])
  have ltX : w.heap.size < (w.alloc (.cells #[.int .i64 p.1, .int .i64 p.2] 31)).heap.size := by simp
  have HB0 : Hid (Below w.heap.size w (w.alloc (.cells #[.int .i64 p.1, .int .i64 p.2] 31))) := hide ((Below.refl _ _).alloc (Nat.le_refl _) _)
  clear h hn hr
  go_enter Try.func98, Try.ntmps98
  go_upto_region 1 with fail
  generalize w.alloc (.cells #[.int .i64 p.1, .int .i64 p.2] 31) = w2 at *
  generalize hPX : w.heap.size = PX at *
  replace HB0 : Hid (Below w.heap.size w w2) := hide (by rw [hPX]; exact unhide HB0)
  clear hPX
  go_wp2
  go_loopw [9, 10] (fun iv jv wr => ∃ i j : Nat, i ≤ j ∧ j ≤ n ∧ iv = .int .i64 i ∧ jv = .int .i64 j ∧ Hid ((∀ k, k < i → ltP (L.getD k (0, 0)) p = true) ∧ (∀ k, j ≤ k → k < L.length → ltP (L.getD k (0, 0)) p = false)) ∧ Hid (Below w2.heap.size w2 wr)) (fun iv jv _ => (intOf jv - intOf iv).toNat)
  case atStart => exact ⟨0, n, Nat.zero_le _, Nat.le_refl _, rfl, rfl, hide ⟨fun k hk => absurd hk (by omega), fun k hk hl => absurd hl (by rw [unhide HN]; omega)⟩, hide (Below.refl _ _)⟩
  case round =>
    obtain ⟨i, j, hij, hjn, rfl, rfl, HI, HB⟩ := hrel
    have e0 : wr.cell? ⟨PX, 0, none⟩ = some (.int .i64 p.1) := ((unhide HB).cell (p := ⟨PX, 0, none⟩) ltX).trans (unhide KP).1
    have e1 : wr.cell? ⟨PX, 1, none⟩ = some (.int .i64 p.2) := ((unhide HB).cell (p := ⟨PX, 1, none⟩) ltX).trans (unhide KP).2
    by_cases hlt : i < j
    · have hlt' : (i : Int) < (j : Int) := by omega
      rcases (unhide HS) with e | ⟨b, off, rfl, hb, hc⟩
      · exact absurd (unhide HN) (by rw [e]; simp; omega)
      obtain ⟨m, hm⟩ : ∃ m, m = (i + j) / 2 := ⟨_, rfl⟩
      have mi : i ≤ m := by omega
      have mj : m < j := by omega
      have ml : m < L.length := by rw [unhide HN]; omega
      have mn : (m : Int) < (n : Int) := by omega
      have EM : Hid (((i : Int) + (j : Int)) / 2 = (m : Int)) := hide (by omega)
      clear hm
      have u1 : IntKind.i64.wrap ((i : Int) + (j : Int)) = ((i + j : Nat) : Int) := by rw [IntKind.wrap_i64]; omega
      have c0 := (hc m ml).1
      have c1 := (hc m ml).2
      rw [← getD_gt ml] at c0 c1
      have bw : b < w2.heap.size := Nat.lt_of_lt_of_le hb (unhide HB0).size
      replace c0 := ((unhide HB).cell (p := ⟨b, off + m * 2, none⟩) bw).trans (((unhide HB0).cell (p := ⟨b, off + m * 2, none⟩) hb).trans c0)
      replace c1 := ((unhide HB).cell (p := ⟨b, off + m * 2 + 1, none⟩) bw).trans (((unhide HB0).cell (p := ⟨b, off + m * 2 + 1, none⟩) hb).trans c1)
      have CC := hide (fun w => cmpPI (L.getD m (0, 0)) p w)
      have EL := hide (cmP_lt (L.getD m (0, 0)) p)
      have LO := hide (fun h => low_side (p := p) (unhide HR) ml h)
      have HO := hide (fun h => high_side (p := p) (unhide HR) (m := m) h)
      generalize L.getD m (0, 0) = q at *
      generalize cmP q p = k at *
      clear hc
      go_upto_region 5 with fail
      rw [unhide EM]
      have HX0 : Hid True := hide trivial
      go_region_held3 (fun w' => w'.cell? ⟨b, off + m * 2, none⟩ = some (.int .i64 q.1) ∧ w'.cell? ⟨b, off + m * 2 + 1, none⟩ = some (.int .i64 q.2) ∧ w'.cell? ⟨PX, 0, none⟩ = some (.int .i64 p.1) ∧ w'.cell? ⟨PX, 1, none⟩ = some (.int .i64 p.2))
        (with_reducible (first | exact ⟨c0, c1, e0, e1⟩ | exact ⟨cdP c0, cdP c1, cdP e0, cdP e1⟩ | fail))
        (first
        | (have chk := HX0; refine (unhide CC _).mono ?_; rintro e w5 ⟨rfl, hb1⟩; have hbx := below_of_drew hb1; replace c0 := cell_later hbx c0; replace c1 := cell_later hbx c1; replace e0 := cell_later hbx e0; replace e1 := cell_later hbx e1; replace HB := hide (below_on (unhide HB) hbx); clear hb1 hbx HX0 chk)
        | fail)
      clear c0 c1 e0 e1 CC
      cases hq : ltP q p
      · have dk : ¬ k < 0 := of_decide_eq_false ((unhide EL).trans hq)
        have HQ := hide hq
        clear hq
        go_wp2
        go_roundw
        case rel => exact ⟨i, m, mi, by omega, rfl, rfl, hide ⟨(unhide HI).1, unhide HO (unhide HQ)⟩, HB⟩
        case measure => simp [intOf]; omega
      · have dk : k < 0 := of_decide_eq_true ((unhide EL).trans hq)
        have HQ := hide hq
        clear hq
        go_wp2
        go_roundw
        case rel => exact ⟨m + 1, j, by omega, hjn, by go_num, rfl, hide ⟨unhide LO (unhide HQ), (unhide HI).2⟩, HB⟩
        case measure => simp [intOf]; omega
    · obtain rfl : j = i := by omega
      have EP : Hid (posP L p = j) := hide (pos_eq (unhide HI).1 (by rw [unhide HN]; exact hjn) (by
        by_cases e : j = L.length
        · exact .inl e
        · exact .inr ((unhide HI).2 j (Nat.le_refl _) (by rw [unhide HN] at e ⊢; omega))))
      have EF : Hid (fnd L p = (decide (j < n) && decide (L.getD j (0, 0) = p))) := hide (by unfold fnd; rw [unhide EP, unhide HN])
      have CQ := hide (cmP_eq (L.getD j (0, 0)) p)
      have HBW := hide (below_on (unhide HB0) (unhide HB))
      by_cases hjl : j < n
      · have jl : j < L.length := by rw [unhide HN]; exact hjl
        have jn : (j : Int) < (n : Int) := by omega
        rcases (unhide HS) with e | ⟨b, off, rfl, hb, hc⟩
        · exact absurd (unhide HN) (by rw [e]; simp; omega)
        have c0 := (hc j jl).1
        have c1 := (hc j jl).2
        rw [← getD_gt jl] at c0 c1
        have bw : b < w2.heap.size := Nat.lt_of_lt_of_le hb (unhide HB0).size
        replace c0 := ((unhide HB).cell (p := ⟨b, off + j * 2, none⟩) bw).trans (((unhide HB0).cell (p := ⟨b, off + j * 2, none⟩) hb).trans c0)
        replace c1 := ((unhide HB).cell (p := ⟨b, off + j * 2 + 1, none⟩) bw).trans (((unhide HB0).cell (p := ⟨b, off + j * 2 + 1, none⟩) hb).trans c1)
        have CC := hide (fun w => cmpPI (L.getD j (0, 0)) p w)
        rw [decide_eq_true hjl, Bool.true_and] at EF
        generalize L.getD j (0, 0) = q at *
        generalize cmP q p = k at *
        clear hc
        have djn : decide ((j : Int) < (n : Int)) = true := decide_eq_true jn
        have djn2 : decide (j < n) = true := decide_eq_true hjl
        cases hq : decide (q = p)
        · rw [hq] at CQ EF
          have kz : (k == 0) = false := by have := of_decide_eq_false (unhide CQ); simp [this]
          have CQ2 := CQ
          clear hq CQ
          go_upto_region 8 with fail
          have HX0 : Hid True := hide trivial
          go_region_held3 (fun w' => w'.cell? ⟨b, off + j * 2, none⟩ = some (.int .i64 q.1) ∧ w'.cell? ⟨b, off + j * 2 + 1, none⟩ = some (.int .i64 q.2) ∧ w'.cell? ⟨PX, 0, none⟩ = some (.int .i64 p.1) ∧ w'.cell? ⟨PX, 1, none⟩ = some (.int .i64 p.2))
            (with_reducible (first | exact ⟨c0, c1, e0, e1⟩ | exact ⟨cdP c0, cdP c1, cdP e0, cdP e1⟩ | fail))
            (first
            | (have chk := HX0; refine (unhide CC _).mono ?_; rintro e w5 ⟨rfl, hb1⟩; have hbx := below_of_drew hb1; replace c0 := cell_later hbx c0; replace c1 := cell_later hbx c1; replace e0 := cell_later hbx e0; replace e1 := cell_later hbx e1; replace HBW := hide (below_on (unhide HBW) hbx); clear hb1 hbx HX0 chk)
            | fail)
          clear c0 c1 e0 e1 CC
          go_wp2
          go_ret2
          exact ⟨by rw [unhide EP, unhide EF]; rfl, unhide HBW⟩
        · rw [hq] at CQ EF
          have kz : (k == 0) = true := by have := of_decide_eq_true (unhide CQ); simp [this]
          have CQ2 := CQ
          clear hq CQ
          go_upto_region 8 with fail
          have HX0 : Hid True := hide trivial
          go_region_held3 (fun w' => w'.cell? ⟨b, off + j * 2, none⟩ = some (.int .i64 q.1) ∧ w'.cell? ⟨b, off + j * 2 + 1, none⟩ = some (.int .i64 q.2) ∧ w'.cell? ⟨PX, 0, none⟩ = some (.int .i64 p.1) ∧ w'.cell? ⟨PX, 1, none⟩ = some (.int .i64 p.2))
            (with_reducible (first | exact ⟨c0, c1, e0, e1⟩ | exact ⟨cdP c0, cdP c1, cdP e0, cdP e1⟩ | fail))
            (first
            | (have chk := HX0; refine (unhide CC _).mono ?_; rintro e w5 ⟨rfl, hb1⟩; have hbx := below_of_drew hb1; replace c0 := cell_later hbx c0; replace c1 := cell_later hbx c1; replace e0 := cell_later hbx e0; replace e1 := cell_later hbx e1; replace HBW := hide (below_on (unhide HBW) hbx); clear hb1 hbx HX0 chk)
            | fail)
          clear c0 c1 e0 e1 CC
          go_wp2
          go_ret2
          exact ⟨by rw [unhide EP, unhide EF]; rfl, unhide HBW⟩
      · obtain rfl : j = n := by omega
        rw [decide_eq_false (by omega), Bool.false_and] at EF
        clear CQ
        go_upto_region 8 with fail
        refine wp_region_held_drew (S := fun w' => w'.cell? ⟨PX, 0, none⟩ = some (.int .i64 p.1) ∧ w'.cell? ⟨PX, 1, none⟩ = some (.int .i64 p.2)) (by kernel_rfl) ⟨e0, e1⟩ (fun hHeld => ?_)
        simp only [List.size_toArray, List.length_cons, List.length_nil, Nat.reduceAdd, Array.replicate_succ, Array.replicate_zero, List.push_toArray, List.nil_append, List.cons_append]
        refine wpAnyH_take (i := 0) (v := .int .i64 (j : Int)) rfl (by kernel_rfl) (by kernel_rfl) (by kernel_rfl) (fun _ _ _ h => h) (Or.inl ⟨by rfl, by intro w hSw; (try dsimp only at hSw); go_simp⟩) hHeld ?_
        simp only [List.getElem_toArray, List.getElem_cons_zero, List.getElem_cons_succ, Act.put, List.setIfInBounds_toArray, List.set_cons_zero, List.set_cons_succ]
        refine wpAnyH_take (i := 1) (v := .int .i64 (j : Int)) rfl (by kernel_rfl) (by kernel_rfl) (by kernel_rfl) (fun _ _ _ h => h) (Or.inl ⟨by rfl, by intro w hSw; (try dsimp only at hSw); go_simp⟩) hHeld ?_
        simp only [List.getElem_toArray, List.getElem_cons_zero, List.getElem_cons_succ, Act.put, List.setIfInBounds_toArray, List.set_cons_zero, List.set_cons_succ]
        refine wpAnyH_take (i := 2) (v := .int .i64 (j : Int)) rfl (by kernel_rfl) (by kernel_rfl) (by kernel_rfl) (fun _ _ _ h => h) (Or.inl ⟨by rfl, by intro w hSw; (try dsimp only at hSw); go_simp⟩) hHeld ?_
        simp only [List.getElem_toArray, List.getElem_cons_zero, List.getElem_cons_succ, Act.put, List.setIfInBounds_toArray, List.set_cons_zero, List.set_cons_succ]
        refine wpAnyH_take (i := 3) (v := .bool false) rfl (by kernel_rfl) (by kernel_rfl) (by kernel_rfl) (fun _ _ _ h => h) (Or.inl ⟨by rfl, by intro w hSw; (try dsimp only at hSw); go_simp⟩) hHeld ?_
        simp only [List.getElem_toArray, List.getElem_cons_zero, List.getElem_cons_succ, Act.put, List.setIfInBounds_toArray, List.set_cons_zero, List.set_cons_succ]
        refine wpAnyH_take (i := 4) (v := .bool false) rfl (by kernel_rfl) (by kernel_rfl) (by kernel_rfl) (fun _ _ _ h => h) (Or.inl ⟨by rfl, by intro w hSw; (try dsimp only at hSw); go_simp⟩) hHeld ?_
        simp only [List.getElem_toArray, List.getElem_cons_zero, List.getElem_cons_succ, Act.put, List.setIfInBounds_toArray, List.set_cons_zero, List.set_cons_succ]
        refine wpAnyH_take (i := 5) (v := undef) rfl (by kernel_rfl) (by kernel_rfl) (by kernel_rfl) (fun _ _ _ h => h) (Or.inr ⟨by kernel_rfl, rfl⟩) hHeld ?_
        simp only [List.getElem_toArray, List.getElem_cons_zero, List.getElem_cons_succ, Act.put, List.setIfInBounds_toArray, List.set_cons_zero, List.set_cons_succ]
        refine wpAnyH_take (i := 6) (v := undef) rfl (by kernel_rfl) (by kernel_rfl) (by kernel_rfl) (fun _ _ _ h => h) (Or.inr ⟨by kernel_rfl, rfl⟩) hHeld ?_
        simp only [List.getElem_toArray, List.getElem_cons_zero, List.getElem_cons_succ, Act.put, List.setIfInBounds_toArray, List.set_cons_zero, List.set_cons_succ]
        refine wpAnyH_take (i := 7) (v := undef) rfl (by kernel_rfl) (by kernel_rfl) (by kernel_rfl) (fun _ _ _ h => h) (Or.inr ⟨by kernel_rfl, rfl⟩) hHeld ?_
        simp only [List.getElem_toArray, List.getElem_cons_zero, List.getElem_cons_succ, Act.put, List.setIfInBounds_toArray, List.set_cons_zero, List.set_cons_succ]
        refine wpAnyH_take (i := 8) (v := undef) rfl (by kernel_rfl) (by kernel_rfl) (by kernel_rfl) (fun _ _ _ h => h) (Or.inr ⟨by kernel_rfl, rfl⟩) hHeld ?_
        simp only [List.getElem_toArray, List.getElem_cons_zero, List.getElem_cons_succ, Act.put, List.setIfInBounds_toArray, List.set_cons_zero, List.set_cons_succ]
        refine wpAnyH_take (i := 9) (v := undef) rfl (by kernel_rfl) (by kernel_rfl) (by kernel_rfl) (fun _ _ _ h => h) (Or.inr ⟨by kernel_rfl, rfl⟩) hHeld ?_
        simp only [List.getElem_toArray, List.getElem_cons_zero, List.getElem_cons_succ, Act.put, List.setIfInBounds_toArray, List.set_cons_zero, List.set_cons_succ]
        refine wpAnyH_take (i := 10) (v := undef) rfl (by kernel_rfl) (by kernel_rfl) (by kernel_rfl) (fun _ _ _ h => h) (Or.inr ⟨by kernel_rfl, rfl⟩) hHeld ?_
        simp only [List.getElem_toArray, List.getElem_cons_zero, List.getElem_cons_succ, Act.put, List.setIfInBounds_toArray, List.set_cons_zero, List.set_cons_succ]
        refine wpAnyH_take (i := 11) (v := undef) rfl (by kernel_rfl) (by kernel_rfl) (by kernel_rfl) (fun _ _ _ h => h) (Or.inr ⟨by kernel_rfl, rfl⟩) hHeld ?_
        simp only [List.getElem_toArray, List.getElem_cons_zero, List.getElem_cons_succ, Act.put, List.setIfInBounds_toArray, List.set_cons_zero, List.set_cons_succ]
        refine wpAnyH_take (i := 12) (v := undef) rfl (by kernel_rfl) (by kernel_rfl) (by kernel_rfl) (fun _ _ _ h => h) (Or.inr ⟨by kernel_rfl, rfl⟩) hHeld ?_
        simp only [List.getElem_toArray, List.getElem_cons_zero, List.getElem_cons_succ, Act.put, List.setIfInBounds_toArray, List.set_cons_zero, List.set_cons_succ]
        refine wpAnyH_take (i := 13) (v := .bool false) rfl (by kernel_rfl) (by kernel_rfl) (by kernel_rfl) (fun _ _ _ h => h) (Or.inl ⟨by rfl, by intro w hSw; (try dsimp only at hSw); go_simp⟩) hHeld ?_
        simp only [List.getElem_toArray, List.getElem_cons_zero, List.getElem_cons_succ, Act.put, List.setIfInBounds_toArray, List.set_cons_zero, List.set_cons_succ]
        refine wpAnyH_take (i := 14) (v := .int .i64 (j : Int)) rfl (by kernel_rfl) (by kernel_rfl) (by kernel_rfl) (fun _ _ _ h => h) (Or.inl ⟨by rfl, by intro w hSw; (try dsimp only at hSw); go_simp⟩) hHeld ?_
        simp only [List.getElem_toArray, List.getElem_cons_zero, List.getElem_cons_succ, Act.put, List.setIfInBounds_toArray, List.set_cons_zero, List.set_cons_succ]
        refine wpAnyH_take (i := 15) (v := .bool false) rfl (by kernel_rfl) (by kernel_rfl) (by kernel_rfl) (fun _ _ _ h => h) (Or.inl ⟨by rfl, by intro w hSw; (try dsimp only at hSw); go_simp⟩) hHeld ?_
        simp only [List.getElem_toArray, List.getElem_cons_zero, List.getElem_cons_succ, Act.put, List.setIfInBounds_toArray, List.set_cons_zero, List.set_cons_succ]
        refine wpAnyH_done (by kernel_rfl) ?_ _
        clear hHeld
        replace HBW := hide (unhide HBW).drew
        generalize wr.drew = w5 at *
        go_wp2
        go_ret2
        exact ⟨by rw [unhide EP, unhide EF]; rfl, unhide HBW⟩
end Go.Proofs.Ytgoiodhofbkkdaa
namespace Go.Proofs.Ytgoiodhofbkkdaa
open Go.RowKit
set_option linter.unusedVariables false
set_option maxRecDepth 100000
set_option linter.unusedSimpArgs false

theorem RwP.other {B : Nat} {w w' : World} {v : Value} {L : List (Int × Int)} (h : RwP B w v L) (hb : ∀ g, B ≤ g → w'.heap[g]? = w.heap[g]?) : RwP B w' v L := by
  refine ⟨h.row.1, ?_⟩
  rcases h.row.2 with h' | ⟨g', cap, cur, hv, h1, hg, r⟩
  · exact .inl h'
  · exact .inr ⟨g', cap, cur, hv, h1, by rw [hb g' h1]; exact hg, r⟩
theorem set_other {w : World} {s k g : Nat} {x : Value} (hne : g ≠ s) : (w.setCell ⟨s, k, none⟩ x).heap[g]? = w.heap[g]? := by
  have hs : (w.setCell ⟨s, k, none⟩ x).heap.size = w.heap.size := by simp [World.setCell]
  have := (But.refl (s) (s + 1) w).set (p := ⟨s, k, none⟩) (Nat.le_refl s) (Nat.lt_succ_self s) x
  by_cases h : g < w.heap.size
  · exact this.block g h (by omega)
  · rw [Array.getElem?_eq_none (xs := w.heap) (by omega), Array.getElem?_eq_none (by omega)]
theorem ins_fnd {L : List (Int × Int)} {p : Int × Int} (h : fnd L p = true) : insP L p = L := by
  unfold fnd at h
  rw [Bool.and_eq_true, decide_eq_true_eq, decide_eq_true_eq] at h
  rw [ins_at, if_pos h]
theorem ins_put {L : List (Int × Int)} {p : Int × Int} (h : fnd L p = false) : insP L p = L.take (posP L p) ++ p :: L.drop (posP L p) := by
  rw [ins_at, if_neg]
  rintro ⟨h1, h2⟩
  unfold fnd at h
  rw [decide_eq_true h1, decide_eq_true h2] at h
  cases h
theorem pos_le (L : List (Int × Int)) (p : Int × Int) : posP L p ≤ L.length := by
  unfold posP
  exact (List.takeWhile_prefix _).length_le
theorem RwP.sl_at {B : Nat} {w : World} {a : Option Addr} {c n : Nat} {L : List (Int × Int)} (h : RwP B w (.slice a n c) L) : SlP w a L := by
  obtain ⟨a2, c2, e, hs⟩ := h.sl
  cases e
  exact hs
theorem sc_other {w : World} {s k j : Nat} {x v : Value} (h : w.cell? ⟨s, j, none⟩ = some v) (hne : k ≠ j) : (w.setCell ⟨s, k, none⟩ x).cell? ⟨s, j, none⟩ = some v := by
  rw [World.cell?_setCell_other]
  · exact h
  · intro e
    cases e
    exact hne rfl
theorem sc_same {w : World} {s k : Nat} {x v : Value} (h : w.cell? ⟨s, k, none⟩ = some v) : (w.setCell ⟨s, k, none⟩ x).cell? ⟨s, k, none⟩ = some x := by
  apply World.cell?_setCell_same
  exact h
theorem below_of_grown {B : Nat} {w0 w w' : World} {r : Option Nat} (h : Below w0.heap.size w0 w) (hg : w.grownBy w' r) (hr : ∀ k, r = some k → B ≤ k) (hB : B ≤ w0.heap.size) : Below B w0 w' :=
  ⟨hg.os.trans h.os, hg.tape.trans h.tape, hg.output.trans h.output, Nat.le_trans h.size hg.size, fun k hk => (hg.block k (by have := h.size; omega) (fun e => by have := hr k e.symm; omega)).trans (h.block k (by omega))⟩
theorem own_lt {B : Nat} {w : World} {v : Value} {L : List (Int × Int)} (h : RwP B w v L) : ∀ k, v.ownBlock = some k → B ≤ k ∧ k < w.heap.size := h.row.lt
set_option maxHeartbeats 4000000 in
theorem putI (B SB : Nat) (v : Value) (L : List (Int × Int)) (p : Int × Int) (w : World) (h : RwP B w v L) (hr : Rise L) (hl : L.length ≤ 99) (hSB : SB < B) (hB : B ≤ w.heap.size)
    (f0 : w.cell? ⟨SB, 0, none⟩ = some (.func (Fn.func 75) #[] #[])) (f1 : w.cell? ⟨SB, 1, none⟩ = some v) (ff : w.frozen? ⟨SB, 1, none⟩ = false) :
    Calls Try.prog 84 #[.pointer (some ⟨SB, 0, none⟩), .agg #[.int .i64 p.1, .int .i64 p.2]] w fun e w' => (∃ r, e = .returned r) ∧ ∃ v', RwP B w' v' (insP L p) ∧ w'.cell? ⟨SB, 0, none⟩ = some (.func (Fn.func 75) #[] #[]) ∧ w'.cell? ⟨SB, 1, none⟩ = some v' ∧ w'.frozen? ⟨SB, 1, none⟩ = false ∧ Below SB w w' := by
  obtain ⟨a, c, rfl, hsl⟩ := h.sl
  have al : Below w.heap.size w (w.alloc (.cells #[.int .i64 p.1, .int .i64 p.2] 31)) := (Below.refl _ _).alloc (Nat.le_refl _) _
  have KP : (w.alloc (.cells #[.int .i64 p.1, .int .i64 p.2] 31)).cell? ⟨w.heap.size, 0, none⟩ = some (.int .i64 p.1) ∧ (w.alloc (.cells #[.int .i64 p.1, .int .i64 p.2] 31)).cell? ⟨w.heap.size, 1, none⟩ = some (.int .i64 p.2) := by simp [go_sem]
  have e0 := KP.1
  have e1 := KP.2
  replace f0 := cell_later al f0
  replace f1 := cell_later al f1
  have sbw : SB < w.heap.size := by omega
  replace ff : (w.alloc (.cells #[.int .i64 p.1, .int .i64 p.2] 31)).frozen? ⟨SB, 1, none⟩ = false := (al.frozen (p := ⟨SB, 1, none⟩) sbw).trans ff
  have HB := hide al
  have RW := hide (h.later al)
  have CB := hide (fun w (k : SlP w a L) => bsI a L.length c L p w k rfl (by omega) hr)
  have PL := hide (pos_le L p)
  clear KP al h hsl hr
  have LL : Hid (L.length ≤ 99) := hide hl
  have BW : B ≤ (w.alloc (.cells #[.int .i64 p.1, .int .i64 p.2] 31)).heap.size := by simp; omega
  have ltX : w.heap.size < (w.alloc (.cells #[.int .i64 p.1, .int .i64 p.2] 31)).heap.size := by simp
  have sb2 : SB < (w.alloc (.cells #[.int .i64 p.1, .int .i64 p.2] 31)).heap.size := by simp; omega
  cases hf : fnd L p
  · rw [hf] at CB
    have EI := hide (ins_put hf)
    clear hf
    go_enter Try.func84, Try.ntmps84
    go_upto_region 1 with fail
    generalize hX : w.heap.size = PX at *
    generalize w.alloc (.cells #[.int .i64 p.1, .int .i64 p.2] 31) = w2 at *
    replace HB : Hid (Below w.heap.size w w2) := hide (by rw [hX]; exact unhide HB)
    have HX := hide hX
    clear hX
    have HX0 : Hid True := hide trivial
    go_region_held3 (fun w' => w'.cell? ⟨SB, 0, none⟩ = some (.func (Fn.func 75) #[] #[]) ∧ w'.cell? ⟨SB, 1, none⟩ = some (.slice a L.length c) ∧ w'.cell? ⟨PX, 0, none⟩ = some (.int .i64 p.1) ∧ w'.cell? ⟨PX, 1, none⟩ = some (.int .i64 p.2))
      (with_reducible (first | exact ⟨f0, f1, e0, e1⟩ | exact ⟨cdP f0, cdP f1, cdP e0, cdP e1⟩ | fail))
      (first
      | (have chk := HX0; go_at_call 98; refine (unhide CB _ ((unhide RW).sl_at.later (Below.refl _ _).drew)).mono ?_; rintro e w5 ⟨rfl, hb1⟩; have hbx := below_of_drew hb1; replace f0 := cell_later hbx f0; replace f1 := cell_later hbx f1; replace e0 := cell_later hbx e0; replace e1 := cell_later hbx e1; replace ff := (hbx.frozen (p := ⟨SB, 1, none⟩) sb2).trans ff; replace sb2 := Nat.lt_of_lt_of_le sb2 hbx.size; replace RW := hide ((unhide RW).later hbx); replace BW := Nat.le_trans BW hbx.size; replace ltX := Nat.lt_of_lt_of_le ltX hbx.size; replace HB := hide (below_on (unhide HB) hbx); clear hb1 hbx HX0 chk)
      | fail)
    generalize posP L p = k at *
    have al5 : Below w5.heap.size w5 ((w5.alloc (.cells #[.int .i64 p.1, .int .i64 p.2] 31)).drew) := ((Below.refl _ _).alloc (Nat.le_refl _) _).drew
    have RW6 := hide ((unhide RW).later al5)
    have V6 : Hid (((w5.alloc (.cells #[.int .i64 p.1, .int .i64 p.2] 31)).drew).heap[w5.heap.size]? = some (.cells #[.int .i64 p.1, .int .i64 p.2] 31 (0, 0))) := hide (heap_alloc_new w5 _)
    have NE : Hid ((Value.slice a L.length c).ownBlock ≠ some w5.heap.size) := hide (fun e => by have := (own_lt (unhide RW) _ e).2; omega)
    have NS : Hid (some SB ≠ (Value.slice a L.length c).ownBlock) := hide (fun e => by have := (own_lt (unhide RW) _ e.symm).1; omega)
    have CI := hide (insI B k w5.heap.size (.slice a L.length c) L p ((w5.alloc (.cells #[.int .i64 p.1, .int .i64 p.2] 31)).drew) (unhide RW6) (unhide PL) (by have := unhide LL; omega) (Nat.le_trans BW al5.size) (unhide V6) (unhide NE))
    have F6 : Hid (((w5.alloc (.cells #[.int .i64 p.1, .int .i64 p.2] 31)).drew).cell? ⟨SB, 0, none⟩ = some (.func (Fn.func 75) #[] #[]) ∧ ((w5.alloc (.cells #[.int .i64 p.1, .int .i64 p.2] 31)).drew).cell? ⟨SB, 1, none⟩ = some (.slice a L.length c) ∧ ((w5.alloc (.cells #[.int .i64 p.1, .int .i64 p.2] 31)).drew).frozen? ⟨SB, 1, none⟩ = false ∧ SB < ((w5.alloc (.cells #[.int .i64 p.1, .int .i64 p.2] 31)).drew).heap.size) := hide ⟨cell_later al5 f0, cell_later al5 f1, (al5.frozen (p := ⟨SB, 1, none⟩) sb2).trans ff, Nat.lt_of_lt_of_le sb2 al5.size⟩
    have HB6 := hide (below_on (unhide HB) al5)
    clear al5 V6 NE RW6
    go_upto_region 3 with fail
    go_region_with (first | (go_at_call 99; refine (unhide CI).mono ?_; rintro e w7 ⟨v', rfl, rn, gr⟩; rw [← unhide EI] at rn; obtain ⟨a', c', rfl, _⟩ := rn.sl; generalize (insP L p).length = n' at *; have RN := hide rn; have GR := hide gr; have t0 := gr.cell (unhide F6).1 (unhide NS); have t1 := gr.cell (unhide F6).2.1 (unhide NS); have t2 := (World.frozen?_of_block (a := ⟨SB, 1, none⟩) (gr.block SB (unhide F6).2.2.2 (unhide NS))).trans (unhide F6).2.2.1; clear rn gr) | fail)
    all_goals
      go_end0
      refine ⟨⟨_, rfl⟩, _, (unhide RN).other (fun g hg => set_other (by omega)), ?_, ?_, ?_, ?_⟩
      · exact sc_other t0 (by omega)
      · exact sc_same t1
      · rw [World.frozen?_setCell]; exact t2
      · exact ((below_of_grown (B := SB) (unhide HB6) (unhide GR) (fun k hk => by have := (own_lt (unhide RW) k hk).1; omega) (by rw [unhide HX]; omega)).setCell (Nat.le_refl _) _)
  · rw [hf] at CB
    have EI := hide (ins_fnd hf)
    clear hf
    go_enter Try.func84, Try.ntmps84
    go_upto_region 1 with fail
    generalize hX : w.heap.size = PX at *
    generalize w.alloc (.cells #[.int .i64 p.1, .int .i64 p.2] 31) = w2 at *
    replace HB : Hid (Below w.heap.size w w2) := hide (by rw [hX]; exact unhide HB)
    have HX := hide hX
    have HSB : Hid (SB < w.heap.size) := hide (by rw [hX]; exact sbw)
    clear hX
    have HX0 : Hid True := hide trivial
    go_region_held3 (fun w' => w'.cell? ⟨SB, 0, none⟩ = some (.func (Fn.func 75) #[] #[]) ∧ w'.cell? ⟨SB, 1, none⟩ = some (.slice a L.length c) ∧ w'.cell? ⟨PX, 0, none⟩ = some (.int .i64 p.1) ∧ w'.cell? ⟨PX, 1, none⟩ = some (.int .i64 p.2))
      (with_reducible (first | exact ⟨f0, f1, e0, e1⟩ | exact ⟨cdP f0, cdP f1, cdP e0, cdP e1⟩ | fail))
      (first
      | (have chk := HX0; go_at_call 98; refine (unhide CB _ ((unhide RW).sl_at.later (Below.refl _ _).drew)).mono ?_; rintro e w5 ⟨rfl, hb1⟩; have hbx := below_of_drew hb1; replace f0 := cell_later hbx f0; replace f1 := cell_later hbx f1; replace e0 := cell_later hbx e0; replace e1 := cell_later hbx e1; replace ff := (hbx.frozen (p := ⟨SB, 1, none⟩) sb2).trans ff; replace sb2 := Nat.lt_of_lt_of_le sb2 hbx.size; replace RW := hide ((unhide RW).later hbx); replace BW := Nat.le_trans BW hbx.size; replace ltX := Nat.lt_of_lt_of_le ltX hbx.size; replace HB := hide (below_on (unhide HB) hbx); clear hb1 hbx HX0 chk)
      | fail)
    have FF := hide (And.intro f0 (And.intro f1 ff))
    clear f0 f1 ff e0 e1
    go_wp2
    go_end0
    exact ⟨⟨_, rfl⟩, _, by rw [unhide EI]; exact unhide RW, (unhide FF).1, (unhide FF).2.1, (unhide FF).2.2, (unhide HB).mono (Nat.le_of_lt (unhide HSB))⟩
theorem fold_rise' (l : List (Int × Int)) : Rise (l.foldl insP []) := fold_rise (by simp [Rise])
theorem fold_len : ∀ (l m : List (Int × Int)), (l.foldl insP m).length ≤ m.length + l.length
  | [], m => by simp
  | p :: l, m => by
    have h1 := fold_len l (insP m p)
    have h2 := ins_len p m
    rw [List.foldl_cons]
    simp
    omega
theorem below_on' {w w1 w2 : World} {SB : Nat} (h : Below w.heap.size w w1) (e : w.heap.size = SB) (k : Below SB w1 w2) : Below w.heap.size w w2 := by
  subst e
  exact h.trans k
/-- The set in its block. -/
structure StP (SB : Nat) (w : World) (L : List (Int × Int)) : Prop where
  v : ∃ v, RwP (SB + 1) w v L ∧ w.cell? ⟨SB, 1, none⟩ = some v
  f : w.cell? ⟨SB, 0, none⟩ = some (.func (Fn.func 75) #[] #[])
  fr : w.frozen? ⟨SB, 1, none⟩ = false
  lt : SB < w.heap.size
theorem StP.later {SB : Nat} {w w' : World} {L : List (Int × Int)} (h : StP SB w L) (hb : Below w.heap.size w w') : StP SB w' L := by
  obtain ⟨v, h1, h2⟩ := h.v
  exact ⟨⟨v, h1.later hb, cell_later hb h2⟩, cell_later hb h.f, (hb.frozen (p := ⟨SB, 1, none⟩) h.lt).trans h.fr, Nat.lt_of_lt_of_le h.lt hb.size⟩
theorem putS (SB : Nat) (L : List (Int × Int)) (p : Int × Int) (w : World) (h : StP SB w L) (hr : Rise L) (hl : L.length ≤ 99) :
    Calls Try.prog 84 #[.pointer (some ⟨SB, 0, none⟩), .agg #[.int .i64 p.1, .int .i64 p.2]] w fun e w' => (∃ r, e = .returned r) ∧ StP SB w' (insP L p) ∧ Below SB w w' := by
  obtain ⟨v, h1, h2⟩ := h.v
  refine (putI (SB + 1) SB v L p w h1 hr hl (Nat.lt_succ_self _) h.lt h.f h2 h.fr).mono ?_
  rintro e w' ⟨he, v', r1, r2, r3, r4, r5⟩
  exact ⟨he, ⟨⟨v', r1, r3⟩, r2, r4, Nat.lt_of_lt_of_le h.lt r5.size⟩, r5⟩
set_option maxHeartbeats 4000000 in
theorem risingI (a : Option Addr) (n c : Nat) (l : List (Int × Int)) (w : World) (h : SlP w a l) (hn : l.length = n) (h1 : n ≤ 99) :
    Calls Try.prog 49 #[.slice a n c] w fun e w' => ∃ v, e = .returned v ∧ Below w.heap.size w w' ∧ RwP w.heap.size w' v (sortP l) := by
  have HS := hide h
  have HN := hide hn
  have hst : (store ⟨w.heap.size, 0, none⟩ (.func (Fn.func 75) #[] #[])).run Try.prog (w.alloc (.cells #[.nilFunc, .slice none 0 0] 88)) = .ok () ((w.alloc (.cells #[.nilFunc, .slice none 0 0] 88)).setCell ⟨w.heap.size, 0, none⟩ (.func (Fn.func 75) #[] #[])) := by
    rw [run_store Try.prog _ _ _ _ (by rfl)]
    simp [go_sem]
  have S0 : Hid (StP w.heap.size (w.alloc (.cells #[.func (Fn.func 75) #[] #[], .slice none 0 0] 88)) []) := hide ⟨⟨_, RwP.nil _ _, by simp [go_sem]⟩, by simp [go_sem], by simp [go_sem], by simp⟩
  have B0 : Hid (Below w.heap.size w (w.alloc (.cells #[.func (Fn.func 75) #[] #[], .slice none 0 0] 88))) := hide ((Below.refl _ _).alloc (Nat.le_refl _) _)
  clear h hn
  go_enter Try.func49, Try.ntmps49
  go_upto_region 2 with fail
  clear hst
  generalize w.alloc (.cells #[.func (Fn.func 75) #[] #[], .slice none 0 0] 88) = w1 at *
  generalize hSB : w.heap.size = SB at *
  have HSB := hide hSB
  replace B0 : Hid (Below w.heap.size w w1) := hide (by rw [hSB]; exact unhide B0)
  clear hSB
  go_wp2
  go_loopw [9] (fun iv wr => ∃ i : Nat, i ≤ n ∧ iv = .int .i64 i ∧ Hid (StP SB wr ((l.take i).foldl insP [])) ∧ Hid (Below SB w1 wr)) (fun iv _ => n - (intOf iv).toNat)
  case atStart => exact ⟨0, Nat.zero_le _, rfl, hide (by simpa using unhide S0), hide (Below.refl _ _)⟩
  case round =>
    clear S0
    obtain ⟨i, hi, rfl, HT, HB⟩ := hrel
    by_cases hlt : i < n
    · have hlt' : (i : Int) < (n : Int) := by omega
      rcases (unhide HS) with e | ⟨b, off, rfl, hb, hc⟩
      · exact absurd (unhide HN) (by rw [e]; simp; omega)
      have e0 := hc i (by rw [unhide HN]; exact hlt)
      have EC : Hid ((l.take (i + 1)).foldl insP [] = insP ((l.take i).foldl insP []) (l[i]'(by rw [unhide HN]; exact hlt))) := hide (by rw [List.take_succ_eq_append_getElem (by rw [unhide HN]; exact hlt), List.foldl_append]; rfl)
      have RS := hide (fold_rise' (l.take i))
      have LS : Hid (((l.take i).foldl insP []).length ≤ 99) := hide (by have := fold_len (l.take i) []; simp at this; omega)
      generalize l[i]'(by rw [unhide HN]; exact hlt) = p at *
      generalize (l.take i).foldl insP [] = S at *
      have bS : b < SB := by rw [← unhide HSB]; exact hb
      have E0 : wr.cell? ⟨b, off + i * 2, none⟩ = some (.int .i64 p.1) := ((unhide HB).cell (p := ⟨b, off + i * 2, none⟩) bS).trans (((unhide B0).cell (p := ⟨b, off + i * 2, none⟩) hb).trans e0.1)
      have E1 : wr.cell? ⟨b, off + i * 2 + 1, none⟩ = some (.int .i64 p.2) := ((unhide HB).cell (p := ⟨b, off + i * 2 + 1, none⟩) bS).trans (((unhide B0).cell (p := ⟨b, off + i * 2 + 1, none⟩) hb).trans e0.2)
      clear e0 hc
      have al : Below wr.heap.size wr (wr.alloc (.cells #[.int .i64 p.1, .int .i64 p.2] 31)) := (Below.refl _ _).alloc (Nat.le_refl _) _
      have HT2 := hide ((unhide HT).later al)
      have HB2 := hide ((unhide HB).trans (al.mono (Nat.le_of_lt (unhide HT).lt)))
      clear al HT HB
      have k0 : (wr.alloc (.cells #[.int .i64 p.1, .int .i64 p.2] 31)).cell? ⟨wr.heap.size, 0, none⟩ = some (.int .i64 p.1) := by simp [go_sem]
      have k1 : (wr.alloc (.cells #[.int .i64 p.1, .int .i64 p.2] 31)).cell? ⟨wr.heap.size, 1, none⟩ = some (.int .i64 p.2) := by simp [go_sem]
      go_upto_region 5 with fail
      clear E0 E1
      generalize wr.alloc (.cells #[.int .i64 p.1, .int .i64 p.2] 31) = w3 at *
      go_wp2_with fail
      refine (putS SB S p _ (unhide HT2) (unhide RS) (unhide LS)).mono ?_
      rintro e w4 ⟨⟨r, rfl⟩, ht, hb4⟩
      have HT3 := hide ht
      have HB3 := hide ((unhide HB2).trans hb4)
      clear ht hb4 k0 k1 HT2 HB2
      go_wp2
      go_roundw
      case rel => exact ⟨i + 1, by omega, by go_num, by rw [unhide EC]; exact HT3, HB3⟩
      case measure => simp [intOf]; omega
    · obtain rfl : i = n := by omega
      have EN : Hid ((l.take i).foldl insP [] = sortP l) := hide (by rw [← unhide HN, List.take_length]; rfl)
      rw [unhide EN] at HT
      obtain ⟨v, hv, hc⟩ := (unhide HT).v
      obtain ⟨a', c', rfl, _⟩ := hv.sl
      have HV := hide hv
      clear hv
      go_wp2
      go_ret
      exact ⟨_, rfl, below_on' (unhide B0) (unhide HSB) (unhide HB), by rw [unhide HSB]; exact (unhide HV).mono (Nat.le_succ _)⟩
end Go.Proofs.Ytgoiodhofbkkdaa
namespace Go.Proofs.Ytgoiodhofbkkdaa
open Go.RowKit
set_option linter.unusedVariables false
set_option maxRecDepth 100000
set_option linter.unusedSimpArgs false

set_option maxHeartbeats 4000000 in
theorem growI (m : Nat) (w : World) (hm : m ≤ 200) :
    Calls Try.prog 97 #[.slice none 0 0, .int .i64 m] w fun e w' => ∃ v, e = .returned v ∧ RwP w.heap.size w' v [] ∧ Below w.heap.size w w' := by
  obtain ⟨i0, hi0, hz0, hz1, hz2⟩ := info_parts infoPt
  by_cases h0 : m = 0
  · subst h0
    go_enter Try.func97, Try.ntmps97
    go_wp2
    go_ret
    exact ⟨_, rfl, RwP.nil _ _, Below.refl _ _⟩
  · have hold : (Builtin.firstCells i0.size 0 (.slice none 0 0)).run Try.prog w.drew = .ok ([] : List Value).toArray w.drew := rfl
    have hrz : ∀ ty, (Builtin.append_ #[23, 3] ty #[.slice none 0 0, .int .i64 (m : Int)]).run Try.prog w = _ := fun ty => Lib.run_append_grow_zeros w 23 3 ty 31 i0 _ .i64 .i64 Try.underlying23 Try.underlying3 hi0 hz0 none 0 0 [] hold m (by omega) (by omega) (by omega) (by omega) (by rw [hz2]; omega) (by rw [hz2]; exact growslice_fits (by omega) (by omega))
    rw [Nat.zero_add] at hrz
    have hGn := grownCap_ge w m 0 31
    have hGm := grownCap_le_maxLen w m 0 31 (by unfold maxLen; omega)
    generalize grownCap w m 0 31 = G at *
    have hsz : (([] : List Value).toArray ++ Builtin.zeroCells (Value.agg #[.int .i64 0, .int .i64 0]).cells m ++ Builtin.zeroCells (Value.agg #[.int .i64 0, .int .i64 0]).cells (G - m)).size = G * 2 := by simp only [Array.size_append, zero_len, List.size_toArray, List.length_nil]; omega
    generalize ([] : List Value).toArray ++ Builtin.zeroCells (Value.agg #[.int .i64 0, .int .i64 0]).cells m ++ Builtin.zeroCells (Value.agg #[.int .i64 0, .int .i64 0]).cells (G - m) = ROW at *
    have R1 : Hid (RwP w.heap.size (w.drew.alloc (.cells ROW 31)) (.slice (some ⟨w.heap.size, 0, none⟩) 0 G) []) := hide ⟨by simpa [flatP] using World.ownsRow_made (base := w.heap.size) (e := 31) (size := 2) w.drew ROW G (Nat.le_refl _) hGm hsz⟩
    have B1 : Hid (Below w.heap.size w (w.drew.alloc (.cells ROW 31))) := hide ((Below.refl _ _).drew.alloc (Nat.le_refl _) _)
    generalize w.drew.alloc (.cells ROW 31) = W1 at *
    clear hsz hold
    have p1 : (0 : Int) < (m : Int) := by omega
    have p2 : ¬ ((m : Int) < 0) := by omega
    have p3 : (0 : Int) ≤ (G : Int) := by omega
    have p4 : IntKind.i64.wrap (m : Int) = (m : Int) := by rw [IntKind.wrap_i64]; omega
    unfold maxLen at hGm
    go_enter Try.func97, Try.ntmps97
    go_wp2_with (at_builtin; refine Lib.wpList_append_run _ rfl _ _ _ _ rfl _ _ rfl rfl _ _ (hrz _) ?_)
    go_ret
    exact ⟨_, rfl, unhide R1, unhide B1⟩
set_option maxHeartbeats 4000000 in
theorem concatI (G : Nat) (A1 A2 : Addr) (n1 c1 n2 c2 : Nat) (L1 L2 : List (Int × Int)) (w : World) (g0 : w.cell? ⟨G, 0, none⟩ = some (.slice (some A1) n1 c1)) (g1 : w.cell? ⟨G, 1, none⟩ = some (.slice (some A2) n2 c2))
    (h1 : L1.length = n1) (h2 : L2.length = n2) (k1 : ∀ j u, (flatP L1)[j]? = some u → w.cell? (A1.add j) = some u) (k2 : ∀ j u, (flatP L2)[j]? = some u → w.cell? (A2.add j) = some u) (b1 : n1 ≤ 100) (b2 : n2 ≤ 100) :
    Calls Try.prog 81 #[.slice (some ⟨G, 0, none⟩) 2 2] w fun e w' => ∃ v, e = .returned v ∧ RwP w.heap.size w' v (L1 ++ L2) ∧ Below w.heap.size w w' := by
  obtain ⟨i0, hi, hz0, hz1, hz2⟩ := info_parts infoPt
  have HG := hide (And.intro g0 g1)
  have HK1 := hide k1
  have HK2 := hide k2
  have HL1 : Hid ((flatP L1).length = n1 * 2) := hide (by rw [flat_len, h1])
  have HL2 : Hid ((flatP L2).length = n2 * 2) := hide (by rw [flat_len, h2])
  have LN := hide (And.intro h1 h2)
  have CG := hide (fun w => growI (n1 + n2) w (by omega))
  clear k1 k2 h1 h2
  have a1 : IntKind.i64.wrap ((n1 : Int) + (n2 : Int)) = (n1 : Int) + (n2 : Int) := by rw [IntKind.wrap_i64]; omega
  have a2 : ¬ ((n1 : Int) < 0) := by omega
  have a3 : ¬ ((n1 : Int) + (n2 : Int) < 0) := by omega
  go_enter Try.func81, Try.ntmps81
  go_wp2
  go_loop [3, 11] (fun sv kv => ∃ k : Nat, k ≤ 2 ∧ kv = .int .i64 k ∧ Hid ((k = 0 → sv = .int .i64 0) ∧ (k = 1 → sv = .int .i64 n1) ∧ (k = 2 → sv = .int .i64 ((n1 : Int) + (n2 : Int))))) (fun _ kv => 2 - (intOf kv).toNat)
  case atStart => exact ⟨0, by omega, rfl, hide ⟨fun _ => rfl, fun h => absurd h (by omega), fun h => absurd h (by omega)⟩⟩
  case round =>
    obtain ⟨k, hk, rfl, HV⟩ := hrel
    match k, hk, HV with
    | 0, _, HV =>
      have e := (unhide HV).1 rfl
      subst e
      go_wp2
      go_round
      case rel => exact ⟨1, by omega, rfl, hide ⟨fun h => absurd h (by omega), fun _ => rfl, fun h => absurd h (by omega)⟩⟩
      case measure => simp [intOf]
    | 1, _, HV =>
      have e := (unhide HV).2.1 rfl
      subst e
      go_wp2
      go_round
      case rel => exact ⟨2, by omega, rfl, hide ⟨fun h => absurd h (by omega), fun h => absurd h (by omega), fun _ => rfl⟩⟩
      case measure => simp [intOf]
    | 2, _, HV =>
      have e := (unhide HV).2.2 rfl
      subst e
      have en : (n1 : Int) + (n2 : Int) = ((n1 + n2 : Nat) : Int) := by omega
      rw [en]
      clear g0 g1 en
      go_wp2_with fail
      refine (unhide CG _).mono ?_
      rintro e w1 ⟨v, rfl, rw1, hb⟩
      have RW0 := hide rw1
      have HB0 := hide hb
      have g0 := cell_later hb (unhide HG).1
      have g1 := cell_later hb (unhide HG).2
      clear rw1 hb CG
      go_wp2
      go_loopw [6, 27] (fun v kv wr => ∃ k : Nat, k ≤ 2 ∧ kv = .int .i64 k ∧ Hid (True ∧ (k = 0 → RwP w.heap.size wr v []) ∧ (k = 1 → RwP w.heap.size wr v L1) ∧ (k = 2 → RwP w.heap.size wr v (L1 ++ L2))) ∧ Hid (Below w.heap.size w wr)) (fun _ kv _ => 2 - (intOf kv).toNat)
      case atStart => exact ⟨0, by omega, rfl, hide ⟨trivial, fun _ => unhide RW0, fun h => absurd h (by omega), fun h => absurd h (by omega)⟩, HB0⟩
      case round =>
        clear RW0 HB0 g0 g1
        obtain ⟨k, hk, rfl, HV, HB⟩ := hrel
        have g0 := cell_later (unhide HB) (unhide HG).1
        have g1 := cell_later (unhide HB) (unhide HG).2
        match k, hk, HV with
        | 0, _, HV =>
          have rw1 := (unhide HV).2.1 rfl
          obtain ⟨a', c', rfl, _⟩ := rw1.sl
          have RW := hide rw1
          clear rw1 HV
          have K := hide (fun j u hu => cell_later (unhide HB) (unhide HK1 j u hu))
          go_wp2_with (at_builtin; refine wpList_append_own_at _ rfl (.tmp 31) (.tmp 32) 23 rfl w.heap.size 31 i0 (.agg #[.int .i64 0, .int .i64 0]) 2 16 Try.underlying23 hi hz0 hz1 hz2 rfl (by decide) _ _ _ rfl (unhide RW).row A1 n1 c1 (flatP L1) rfl (unhide HL1) (unhide K) (flat_one' _) (by have := unhide LN; simp only [List.length_nil, this.1]; unfold maxLen; omega) (by have := unhide LN; simp only [List.length_nil, this.1]; omega) (unhide HB).size ?_)
          intro v' w6 hown hgr _ _
          have X : Hid (RwP w.heap.size w6 v' ([] ++ L1)) := hide (RwP.join (n := n1) (by rw [List.length_nil, Nat.zero_add]; exact hown) (unhide LN).1)
          have HB6 := hide (grow_below (unhide HB) (unhide HB).size (unhide RW).blk hgr)
          clear hown hgr g0 g1
          go_wp2
          go_roundw
          case rel => exact ⟨1, by omega, rfl, hide ⟨trivial, fun h => absurd h (by omega), fun _ => by simpa using unhide X, fun h => absurd h (by omega)⟩, HB6⟩
          case measure => simp [intOf]
        | 1, _, HV =>
          have rw1 := (unhide HV).2.2.1 rfl
          obtain ⟨a', c', rfl, _⟩ := rw1.sl
          have RW := hide rw1
          clear rw1 HV
          have K := hide (fun j u hu => cell_later (unhide HB) (unhide HK2 j u hu))
          go_wp2_with (at_builtin; refine wpList_append_own_at _ rfl (.tmp 31) (.tmp 32) 23 rfl w.heap.size 31 i0 (.agg #[.int .i64 0, .int .i64 0]) 2 16 Try.underlying23 hi hz0 hz1 hz2 rfl (by decide) _ _ _ rfl (unhide RW).row A2 n2 c2 (flatP L2) rfl (unhide HL2) (unhide K) (flat_one' _) (by have := unhide LN; simp only [List.length_nil, this.1]; unfold maxLen; omega) (by have := unhide LN; simp only [List.length_nil, this.1]; omega) (unhide HB).size ?_)
          intro v' w6 hown hgr _ _
          have X : Hid (RwP w.heap.size w6 v' (L1 ++ L2)) := hide (RwP.join hown (unhide LN).2)
          have HB6 := hide (grow_below (unhide HB) (unhide HB).size (unhide RW).blk hgr)
          clear hown hgr g0 g1
          go_wp2
          go_roundw
          case rel => exact ⟨2, by omega, rfl, hide ⟨trivial, fun h => absurd h (by omega), fun h => absurd h (by omega), fun _ => unhide X⟩, HB6⟩
          case measure => simp [intOf]
        | 2, _, HV =>
          have rw1 := (unhide HV).2.2.2 rfl
          obtain ⟨a', c', rfl, _⟩ := rw1.sl
          have RW := hide rw1
          clear rw1 HV g0 g1
          go_wp2
          go_ret
          exact ⟨_, rfl, unhide RW, unhide HB⟩
end Go.Proofs.Ytgoiodhofbkkdaa
namespace Go.Proofs.Ytgoiodhofbkkdaa
open Go.RowKit
set_option linter.unusedVariables false
set_option maxRecDepth 100000
set_option linter.unusedSimpArgs false

theorem flat_set : ∀ (L : List (Int × Int)) (k : Nat) (q : Int × Int), flatP (L.set k q) = ((flatP L).set (k * 2) (.int .i64 q.1)).set (k * 2 + 1) (.int .i64 q.2)
  | [], k, q => by simp [flatP]
  | p :: L, 0, q => by simp [flatP]
  | p :: L, k + 1, q => by
    rw [List.set_cons_succ, show flatP (p :: L.set k q) = .int .i64 p.1 :: .int .i64 p.2 :: flatP (L.set k q) by simp [flatP], flat_set L k q, show flatP (p :: L) = .int .i64 p.1 :: .int .i64 p.2 :: flatP L by simp [flatP], show (k + 1) * 2 = k * 2 + 1 + 1 by omega]
    rfl
theorem RwP.put {B g n c : Nat} {w : World} {L : List (Int × Int)} (h : RwP B w (.slice (some ⟨g, 0, none⟩) n c) L) (k : Nat) (q : Int × Int) : RwP B ((w.setCell ⟨g, k * 2, none⟩ (.int .i64 q.1)).setCell ⟨g, k * 2 + 1, none⟩ (.int .i64 q.2)) (.slice (some ⟨g, 0, none⟩) n c) (L.set k q) := by
  obtain rfl : L.length = n := h.raw.1
  refine ⟨?_⟩
  rw [flat_set, List.length_set]
  exact (World.ownsRow.stored (World.ownsRow.stored h.row (k * 2) (.int .i64 q.1)).1 (k * 2 + 1) (.int .i64 q.2)).1
def swp (L : List (Int × Int)) (k : Nat) : List (Int × Int) := (L.set k (L.getD (L.length - 1 - k) (0, 0))).set (L.length - 1 - k) (L.getD k (0, 0))
def rvK (L : List (Int × Int)) : Nat → List (Int × Int)
  | 0 => L
  | k + 1 => swp (rvK L k) k
theorem swp_len (L : List (Int × Int)) (k : Nat) : (swp L k).length = L.length := by simp [swp]
theorem rvK_len (L : List (Int × Int)) : ∀ k, (rvK L k).length = L.length
  | 0 => rfl
  | k + 1 => by rw [rvK, swp_len, rvK_len L k]
theorem rvK_get (L : List (Int × Int)) : ∀ k, 2 * k ≤ L.length → ∀ x, x < L.length → (rvK L k).getD x (0, 0) = if x < k ∨ L.length - 1 - x < k then L.getD (L.length - 1 - x) (0, 0) else L.getD x (0, 0)
  | 0, _, x, hx => by simp [rvK]
  | k + 1, hk, x, hx => by
    have ih := rvK_get L k (by omega)
    have e1 := ih k (by omega)
    have e2 := ih (L.length - 1 - k) (by omega)
    have e3 := ih x hx
    rw [if_neg (by omega)] at e1
    rw [if_neg (by omega)] at e2
    unfold rvK swp
    rw [rvK_len, e1, e2]
    simp only [List.getD_eq_getElem?_getD, List.getElem?_set, List.length_set, rvK_len] at e3 ⊢
    by_cases h1 : L.length - 1 - k = x
    · rw [if_pos h1, if_pos (by omega), if_pos (by omega), show L.length - 1 - x = k by omega]; rfl
    · rw [if_neg h1]
      by_cases h2 : k = x
      · rw [if_pos h2, if_pos (by omega), if_pos (by omega), ← h2]; rfl
      · rw [if_neg h2, e3]
        by_cases h3 : x < k ∨ L.length - 1 - x < k
        · rw [if_pos h3, if_pos (by omega)]
        · rw [if_neg h3, if_neg (by omega)]
theorem rvK_all {L : List (Int × Int)} {k : Nat} (h1 : 2 * k ≤ L.length) (h2 : L.length ≤ 2 * k + 1) : rvK L k = L.reverse := by
  apply List.ext_getElem (by rw [rvK_len]; simp)
  intro x hx hy
  have hx' : x < L.length := by rw [rvK_len] at hx; exact hx
  have := rvK_get L k h1 x hx'
  rw [getD_gt hx] at this
  rw [this, List.getElem_reverse]
  split
  · rw [getD_gt (by omega)]
  · rw [getD_gt (by omega)]
    congr 1
    omega
theorem grown_setc {w : World} {g k : Nat} {x : Value} : w.grownBy (w.setCell ⟨g, k, none⟩ x) (some g) :=
  ⟨rfl, rfl, rfl, by simp [World.setCell], fun j _ hne => set_other (fun e => hne (by rw [e]))⟩
set_option maxHeartbeats 4000000 in
theorem revI (B g n c : Nat) (L : List (Int × Int)) (w : World) (h : RwP B w (.slice (some ⟨g, 0, none⟩) n c) L) (hl : n ≤ 100) :
    Calls Try.prog 80 #[.slice (some ⟨g, 0, none⟩) n c] w fun e w' => (∃ r, e = .returned r) ∧ RwP B w' (.slice (some ⟨g, 0, none⟩) n c) L.reverse ∧ w.grownBy w' (some g) := by
  have HW := hide h
  have HN := hide h.raw.1
  clear h
  have i0 : IntKind.i64.wrap ((n : Int) - 1) = (n : Int) - 1 := by rw [IntKind.wrap_i64]; omega
  go_enter Try.func80, Try.ntmps80
  go_wp2
  go_loopw [2, 3] (fun iv jv wr => ∃ k : Nat, 2 * k ≤ n ∧ iv = .int .i64 k ∧ jv = .int .i64 ((n : Int) - 1 - (k : Int)) ∧ Hid (RwP B wr (.slice (some ⟨g, 0, none⟩) n c) (rvK L k)) ∧ Hid (w.grownBy wr (some g))) (fun iv _ _ => n - (intOf iv).toNat)
  case atStart => exact ⟨0, by omega, rfl, by go_num, HW, hide (grown_below (Below.refl _ _) _)⟩
  case round =>
    obtain ⟨k, hk, rfl, rfl, HR, HG⟩ := hrel
    by_cases hlt : 2 * k + 1 < n
    · obtain ⟨j, hj⟩ : ∃ j : Nat, j = n - 1 - k := ⟨_, rfl⟩
      have hjI : (n : Int) - 1 - (k : Int) = (j : Int) := by omega
      have hkj : k < j := by omega
      have hjn : j < n := by omega
      rw [hjI]
      have ES : Hid (rvK L (k + 1) = ((rvK L k).set k ((rvK L k).getD j (0, 0))).set j ((rvK L k).getD k (0, 0))) := hide (by rw [rvK, swp, rvK_len, unhide HN, hj])
      have a0 := (unhide HR).at_ (i := k) (by rw [rvK_len, unhide HN]; omega)
      have b0 := (unhide HR).at_ (i := j) (by rw [rvK_len, unhide HN]; omega)
      have fr : ∀ o, wr.frozen? ⟨g, o, none⟩ = false := fun o => by have h := (unhide HR).row; rw [rvK_len, unhide HN] at h; exact h.frozenAt o
      have EJ : Hid ((j : Int) - 1 = (n : Int) - 1 - ((k + 1 : Nat) : Int)) := hide (by omega)
      clear hj hjI
      generalize (rvK L k).getD k (0, 0) = p at *
      generalize (rvK L k).getD j (0, 0) = q at *
      have c0 := a0.1
      have c1 := a0.2
      have d0 := b0.1
      have d1 := b0.2
      have lt1 : (k : Int) < (j : Int) := by omega
      have lt2 : (k : Int) < (n : Int) := by omega
      have lt3 : (j : Int) < (n : Int) := by omega
      have ne1 : ¬ (k * 2 = j * 2) := by omega
      have ne2 : ¬ (k * 2 + 1 = j * 2) := by omega
      have ne3 : ¬ (k * 2 = j * 2 + 1) := by omega
      have ne4 : ¬ (k * 2 + 1 = j * 2 + 1) := by omega
      have i1 : IntKind.i64.wrap ((j : Int) - 1) = (j : Int) - 1 := by rw [IntKind.wrap_i64]; omega
      clear a0 b0
      go_upto_region 3 with fail
      go_region
      have R1 := (unhide HR).put k q
      have R2 := R1.put j p
      have G1 : wr.grownBy (((((wr.setCell ⟨g, k * 2, none⟩ (.int .i64 q.1)).setCell ⟨g, k * 2 + 1, none⟩ (.int .i64 q.2)).setCell ⟨g, j * 2, none⟩ (.int .i64 p.1)).setCell ⟨g, j * 2 + 1, none⟩ (.int .i64 p.2)).drew) (some g) := grown_trans (grown_trans (grown_trans (grown_trans grown_setc grown_setc) grown_setc) grown_setc) grown_drew
      have HR2 := hide (R2.later (Below.refl _ _).drew)
      have HG2 := hide (grown_trans (unhide HG) G1)
      clear R1 R2 G1 HR HG c0 c1 d0 d1 fr
      generalize (((((wr.setCell ⟨g, k * 2, none⟩ (.int .i64 q.1)).setCell ⟨g, k * 2 + 1, none⟩ (.int .i64 q.2)).setCell ⟨g, j * 2, none⟩ (.int .i64 p.1)).setCell ⟨g, j * 2 + 1, none⟩ (.int .i64 p.2)).drew) = w4 at *
      go_wp2
      go_roundw
      case rel => exact ⟨k + 1, by omega, by go_num, by rw [← unhide EJ], by rw [unhide ES]; exact HR2, HG2⟩
      case measure => simp [intOf]; omega
    · have nl : ¬ ((k : Int) < (n : Int) - 1 - (k : Int)) := by omega
      have ER : Hid (rvK L k = L.reverse) := hide (rvK_all (by rw [unhide HN]; omega) (by rw [unhide HN]; omega))
      rw [unhide ER] at HR
      go_wp2
      go_end0
      exact ⟨⟨_, rfl⟩, unhide HR, unhide HG⟩
end Go.Proofs.Ytgoiodhofbkkdaa
namespace Go.Proofs.Ytgoiodhofbkkdaa
open Go.RowKit
set_option linter.unusedVariables false
set_option maxRecDepth 100000
set_option linter.unusedSimpArgs false

set_option maxHeartbeats 8000000 in
theorem turnsI (a : Option Addr) (n c : Nat) (l : List (Int × Int)) (w : World) (h : SlP w a l) (hn : l.length = n) (h1 : n ≤ 100) (hg : ∀ p ∈ l, Near p) :
    Calls Try.prog 79 #[.slice a n c] w fun e w' => ∃ v, e = .returned v ∧ Below w.heap.size w w' ∧ RwP w.heap.size w' v (chainP l) := by
  obtain ⟨i0, hi, hz0, hz1, hz2⟩ := info_parts infoPt
  have HS := hide h
  have HN := hide hn
  have HG := hide hg
  clear h hn hg
  go_enter Try.func79, Try.ntmps79
  go_wp2_with (at_make; refine wpList_make_own _ rfl _ _ 23 rfl w.heap.size 31 i0 (.agg #[.int .i64 0, .int .i64 0]) 2 Try.underlying23 hi hz0 hz1 .i64 .i64 _ n rfl rfl rfl ?c1 ?c2 ?c3 ?_)
  case c1 => rw [hz2]; omega
  case c2 => unfold maxLen; omega
  case c3 => exact Nat.le_refl _
  intro w0 hown hgrow
  have P0 : Hid (RwP w.heap.size w0 (.slice (some ⟨w.heap.size, 0, none⟩) 0 n) []) := hide ⟨by simpa [flatP] using hown⟩
  have B0 : Hid (Below w.heap.size w w0) := hide ((Below.refl _ _).grown hgrow (Nat.le_refl _) (fun k e => by cases e))
  clear hown hgrow
  go_wp2
  go_loopw [3, 11] (fun v iv wr => ∃ i : Nat, i ≤ n ∧ iv = .int .i64 i ∧ Hid (RwP w.heap.size wr v (chR (l.take i)).reverse ∧ (chR (l.take i)).length ≤ i) ∧ Hid (Below w.heap.size w wr)) (fun _ iv _ => n - (intOf iv).toNat)
  case atStart => exact ⟨0, Nat.zero_le _, rfl, hide ⟨by simpa [chR] using unhide P0, by simp [chR]⟩, B0⟩
  case round =>
    clear P0 B0
    obtain ⟨i, hi', rfl, HR, HB⟩ := hrel
    by_cases hlt : i < n
    · have hlt' : (i : Int) < (n : Int) := by omega
      rcases (unhide HS) with e | ⟨b, off, rfl, hb, hc⟩
      · exact absurd (unhide HN) (by rw [e]; simp; omega)
      have e0 := hc i (by rw [unhide HN]; exact hlt)
      have EC : Hid (chR (l.take (i + 1)) = l[i]'(by rw [unhide HN]; exact hlt) :: popP (l[i]'(by rw [unhide HN]; exact hlt)) (chR (l.take i))) := hide (by rw [List.take_succ_eq_append_getElem (by rw [unhide HN]; exact hlt), chR_snoc])
      have np := unhide HG _ (List.getElem_mem (l := l) (n := i) (by rw [unhide HN]; exact hlt))
      have HGS : Hid (∀ x ∈ chR (l.take i), Near x) := hide (fun x hx => by rcases chR_mem hx with h | h; exact absurd h (by simp); exact unhide HG x (List.mem_of_mem_take h))
      generalize l[i]'(by rw [unhide HN]; exact hlt) = p at *
      generalize chR (l.take i) = s0 at *
      have E0 : wr.cell? ⟨b, off + i * 2, none⟩ = some (.int .i64 p.1) := ((unhide HB).cell (p := ⟨b, off + i * 2, none⟩) hb).trans (e0.1)
      have E1 : wr.cell? ⟨b, off + i * 2 + 1, none⟩ = some (.int .i64 p.2) := ((unhide HB).cell (p := ⟨b, off + i * 2 + 1, none⟩) hb).trans (e0.2)
      clear e0 hc
      have NP := hide np
      clear np
      have al : Below wr.heap.size wr (wr.alloc (.cells #[.int .i64 p.1, .int .i64 p.2] 31)) := (Below.refl _ _).alloc (Nat.le_refl _) _
      have HR2 := hide (And.intro ((unhide HR).1.later al) (unhide HR).2)
      have HB2 := hide (below_on (unhide HB) al)
      have KP : Hid ((wr.alloc (.cells #[.int .i64 p.1, .int .i64 p.2] 31)).cell? ⟨wr.heap.size, 0, none⟩ = some (.int .i64 p.1) ∧ (wr.alloc (.cells #[.int .i64 p.1, .int .i64 p.2] 31)).cell? ⟨wr.heap.size, 1, none⟩ = some (.int .i64 p.2)) := hide (by simp [go_sem])
      have ltP : wr.heap.size < (wr.alloc (.cells #[.int .i64 p.1, .int .i64 p.2] 31)).heap.size := by simp
      have ltW : w.heap.size ≤ wr.heap.size := (unhide HB).size
      clear al HR HB
      have HLT : Hid (s0.length ≤ i) := hide (unhide HR2).2
      have HR3 := hide (unhide HR2).1
      clear HR2
      obtain ⟨wo, hwo⟩ : ∃ x, x = wr := ⟨_, rfl⟩
      subst hwo
      go_wp2
      clear E0 E1
      generalize wo.alloc (.cells #[.int .i64 p.1, .int .i64 p.2] 31) = w2 at *
      generalize wo.heap.size = PX at *
      go_loopw [3] (fun v wr => ∃ s, Hid (RwP w.heap.size wr v s.reverse) ∧ Hid (popP p s = popP p s0 ∧ (∀ x ∈ s, Near x) ∧ s.length ≤ s0.length) ∧ Hid (Below w2.heap.size w2 wr)) (fun v _ => slLen v)
      case atStart => exact ⟨s0, HR3, hide ⟨rfl, unhide HGS, Nat.le_refl _⟩, hide (Below.refl _ _)⟩
      case round =>
        clear HR3
        obtain ⟨s, RW, HP, HB⟩ := hrel
        have e0 : wr.cell? ⟨PX, 0, none⟩ = some (.int .i64 p.1) := ((unhide HB).cell (p := ⟨PX, 0, none⟩) ltP).trans (unhide KP).1
        have e1 : wr.cell? ⟨PX, 1, none⟩ = some (.int .i64 p.2) := ((unhide HB).cell (p := ⟨PX, 1, none⟩) ltP).trans (unhide KP).2
        match s, RW, HP with
        | q :: r :: t, RW, HP =>
          rcases (unhide RW).open with ⟨_, h⟩ | ⟨g, cp, rfl, hB, hg, hcp, hcm, hce⟩
          · simp at h
          · have f0 := hce t.length (by simp)
            have f1 := hce (t.length + 1) (by simp)
            rw [rev_last.1] at f0
            rw [rev_last.2] at f1
            have len : (q :: r :: t).reverse.length = t.length + 2 := by simp
            rw [len] at hcp ⊢
            have RW2 : Hid (RwP w.heap.size wr (.slice (some ⟨g, 0, none⟩) (t.length + 2) cp) (q :: r :: t).reverse) := hide (by have := unhide RW; rw [len] at this; exact this)
            have CO := hide (fun w => turnI r q p w ((unhide HP).2.1 r (by simp)) ((unhide HP).2.1 q (by simp)) (unhide NP))
            have EP : Hid (popP p (q :: r :: t) = if sgZ (crs r q p) ≤ 0 then popP p (r :: t) else q :: r :: t) := hide (by rw [popP])
            generalize sgZ (crs r q p) = sg at *
            have RC := hide ((unhide RW2).cut (k := t.length + 1) (by simp))
            rw [show ((q :: r :: t).reverse.take (t.length + 1)) = (r :: t).reverse from rev_take (q := q) (s := r :: t)] at RC
            have kb : t.length + 2 ≤ 100 := by have h3 := (unhide HP).2.2; rw [show (q :: r :: t).length = t.length + 2 from rfl] at h3; have h4 := unhide HLT; omega
            have m2 : 2 ≤ t.length + 2 := by omega
            have km : t.length < t.length + 2 := by omega
            have k1m : t.length + 1 < t.length + 2 := by omega
            have i1 : IntKind.i64.wrap (((t.length + 2 : Nat) : Int) - 2) = ((t.length : Nat) : Int) := by rw [IntKind.wrap_i64]; omega
            have i2 : IntKind.i64.wrap (((t.length + 2 : Nat) : Int) - 1) = ((t.length + 1 : Nat) : Int) := by rw [IntKind.wrap_i64]; omega
            clear hce len RW
            have c0 := f0.1
            have c1 := f0.2
            have c2 := f1.1
            have c3 := f1.2
            clear f0 f1
            generalize t.length + 2 = m at *
            generalize t.length + 1 = k1 at *
            generalize t.length = k at *
            have d2 : decide ((1 : Int) < (m : Int)) = true := decide_eq_true (by omega)
            have d3 : decide (1 < m) = true := decide_eq_true (by omega)
            have ltk : (k : Int) < (m : Int) := by omega
            have ltk2 : (k1 : Int) < (m : Int) := by omega
            have lcp : (k1 : Int) ≤ (cp : Int) := by omega
            by_cases hs : sg ≤ 0
            · have ds : decide (sg ≤ 0) = true := decide_eq_true hs
              have EP2 : Hid (popP p (q :: r :: t) = popP p (r :: t)) := hide (by rw [unhide EP, if_pos hs])
              clear EP hs
              go_upto_region 5 with fail
              have HX0 : Hid True := hide trivial
              go_region_held3 (fun w' => w'.cell? ⟨g, k * 2, none⟩ = some (.int .i64 r.1) ∧ w'.cell? ⟨g, k * 2 + 1, none⟩ = some (.int .i64 r.2) ∧ w'.cell? ⟨g, k1 * 2, none⟩ = some (.int .i64 q.1) ∧ w'.cell? ⟨g, k1 * 2 + 1, none⟩ = some (.int .i64 q.2) ∧ w'.cell? ⟨PX, 0, none⟩ = some (.int .i64 p.1) ∧ w'.cell? ⟨PX, 1, none⟩ = some (.int .i64 p.2))
                (with_reducible (first | exact ⟨c0, c1, c2, c3, e0, e1⟩ | exact ⟨cdP c0, cdP c1, cdP c2, cdP c3, cdP e0, cdP e1⟩ | fail))
                (first
                | (have chk := HX0; go_at_call 54; refine (unhide CO _).mono ?_; rintro e w5 ⟨rfl, hb1⟩; have hbx := below_of_drew hb1; replace c0 := cell_later hbx c0; replace c1 := cell_later hbx c1; replace c2 := cell_later hbx c2; replace c3 := cell_later hbx c3; replace e0 := cell_later hbx e0; replace e1 := cell_later hbx e1; replace RW2 := hide ((unhide RW2).later hbx); replace RC := hide ((unhide RC).later hbx); replace HB := hide (below_on (unhide HB) hbx); clear hb1 hbx; clear HX0 chk)
                | fail)
              clear c0 c1 c2 c3 e0 e1 CO
              go_wp2
              go_roundw
              case rel => exact ⟨r :: t, hide (unhide RC), hide ⟨by rw [← unhide EP2]; exact (unhide HP).1, fun x hx => (unhide HP).2.1 x (List.mem_cons_of_mem _ hx), by have := (unhide HP).2.2; simp at *; omega⟩, HB⟩
              case measure => simp only [slLen]; omega
            · have ds : decide (sg ≤ 0) = false := decide_eq_false hs
              replace EP : Hid (popP p (q :: r :: t) = q :: r :: t) := hide (by rw [unhide EP, if_neg hs])
              clear hs
              go_upto_region 5 with fail
              have HX0 : Hid True := hide trivial
              go_region_held3 (fun w' => w'.cell? ⟨g, k * 2, none⟩ = some (.int .i64 r.1) ∧ w'.cell? ⟨g, k * 2 + 1, none⟩ = some (.int .i64 r.2) ∧ w'.cell? ⟨g, k1 * 2, none⟩ = some (.int .i64 q.1) ∧ w'.cell? ⟨g, k1 * 2 + 1, none⟩ = some (.int .i64 q.2) ∧ w'.cell? ⟨PX, 0, none⟩ = some (.int .i64 p.1) ∧ w'.cell? ⟨PX, 1, none⟩ = some (.int .i64 p.2))
                (with_reducible (first | exact ⟨c0, c1, c2, c3, e0, e1⟩ | exact ⟨cdP c0, cdP c1, cdP c2, cdP c3, cdP e0, cdP e1⟩ | fail))
                (first
                | (have chk := HX0; go_at_call 54; refine (unhide CO _).mono ?_; rintro e w5 ⟨rfl, hb1⟩; have hbx := below_of_drew hb1; replace c0 := cell_later hbx c0; replace c1 := cell_later hbx c1; replace c2 := cell_later hbx c2; replace c3 := cell_later hbx c3; replace e0 := cell_later hbx e0; replace e1 := cell_later hbx e1; replace RW2 := hide ((unhide RW2).later hbx); replace RC := hide ((unhide RC).later hbx); replace HB := hide (below_on (unhide HB) hbx); clear hb1 hbx; clear HX0 chk)
                | fail)
              clear c0 c1 c2 c3 CO RC
              have LB : (q :: r :: t).reverse.length ≤ 100 := by have := (unhide HP).2.2; have := unhide HLT; simp at *; try omega
              have HBO := hide (below_on (unhide HB2) (unhide HB))
              have EL : Hid ((chR (l.take (i + 1))).reverse = (q :: r :: t).reverse ++ [p]) := hide (by rw [unhide EC, ← (unhide HP).1, unhide EP]; simp)
              have LL : Hid ((chR (l.take (i + 1))).length ≤ i + 1) := hide (by rw [unhide EC, ← (unhide HP).1, unhide EP]; have := (unhide HP).2.2; have := unhide HLT; simp at *; try omega)
              clear HP EP HB
              generalize (q :: r :: t).reverse = L at *
              go_wp2_with (at_builtin; refine wpList_append_own _ rfl (.tmp 40) (.tmp 42) 23 rfl w.heap.size 31 i0 (.agg #[.int .i64 0, .int .i64 0]) 2 16 Try.underlying23 hi hz0 hz1 hz2 rfl (by decide) _ _ _ rfl ((unhide RW2).row.alloc _) ⟨_, 0, none⟩ 1 1 [.int .i64 p.1, .int .i64 p.2] rfl rfl (new_cellP _ _ _) (fun u hu => by simp at hu; rcases hu with rfl | rfl <;> rfl) (by unfold maxLen; omega) (by omega) (by have := (unhide HBO).size; simp; omega) ?_)
              intro v' w6 hown hgr _
              have RN : Hid (RwP w.heap.size w6 v' (L ++ [p])) := hide ⟨by rw [flatP_append, show flatP [p] = [.int .i64 p.1, .int .i64 p.2] from flatP_one p.1 p.2, List.length_append]; exact hown⟩
              have HBN := hide (push_belowP (unhide HBO) (unhide HBO).size (unhide RW2).row hgr)
              clear hown hgr
              go_wp2
              go_roundw
              case rel => exact ⟨i + 1, by omega, by go_num, hide ⟨by rw [unhide EL]; exact unhide RN, unhide LL⟩, HBN⟩
              case measure => simp [intOf]; omega
        | [], RW, HP =>
          have EP : Hid (popP p [] = []) := hide (by rw [popP]; simp)
          rcases (unhide RW).open with ⟨rfl, h⟩ | ⟨g, cp, rfl, hB, hg, hcp, hcm, hce⟩
          · have RW2 := RW
            clear RW h
            go_upto_region 5 with fail
            refine wp_region_held_drew (S := fun w' => w'.cell? ⟨PX, 0, none⟩ = some (.int .i64 p.1) ∧ w'.cell? ⟨PX, 1, none⟩ = some (.int .i64 p.2)) (by kernel_rfl) ⟨e0, e1⟩ (fun hHeld => ?_)
            simp only [List.size_toArray, List.length_cons, List.length_nil, Nat.reduceAdd, Array.replicate_succ, Array.replicate_zero, List.push_toArray, List.nil_append, List.cons_append]
            refine wpAnyH_take (i := 0) (v := .slice none 0 0) rfl (by kernel_rfl) (by kernel_rfl) (by kernel_rfl) (fun _ _ _ h => h) (Or.inl ⟨by rfl, by intro w hSw; (try dsimp only at hSw); go_simp⟩) hHeld ?_
            simp only [List.getElem_toArray, List.getElem_cons_zero, List.getElem_cons_succ, Act.put, List.setIfInBounds_toArray, List.set_cons_zero, List.set_cons_succ]
            refine wpAnyH_take (i := 1) (v := .int .i64 0) rfl (by kernel_rfl) (by kernel_rfl) (by kernel_rfl) (fun _ _ _ h => h) (Or.inl ⟨by rfl, by intro w hSw; (try dsimp only at hSw); go_simp⟩) hHeld ?_
            simp only [List.getElem_toArray, List.getElem_cons_zero, List.getElem_cons_succ, Act.put, List.setIfInBounds_toArray, List.set_cons_zero, List.set_cons_succ]
            refine wpAnyH_take (i := 2) (v := .bool false) rfl (by kernel_rfl) (by kernel_rfl) (by kernel_rfl) (fun _ _ _ h => h) (Or.inl ⟨by rfl, by intro w hSw; (try dsimp only at hSw); go_simp⟩) hHeld ?_
            simp only [List.getElem_toArray, List.getElem_cons_zero, List.getElem_cons_succ, Act.put, List.setIfInBounds_toArray, List.set_cons_zero, List.set_cons_succ]
            refine wpAnyH_take (i := 3) (v := .bool false) rfl (by kernel_rfl) (by kernel_rfl) (by kernel_rfl) (fun _ _ _ h => h) (Or.inl ⟨by rfl, by intro w hSw; (try dsimp only at hSw); go_simp⟩) hHeld ?_
            simp only [List.getElem_toArray, List.getElem_cons_zero, List.getElem_cons_succ, Act.put, List.setIfInBounds_toArray, List.set_cons_zero, List.set_cons_succ]
            refine wpAnyH_take (i := 4) (v := undef) rfl (by kernel_rfl) (by kernel_rfl) (by kernel_rfl) (fun _ _ _ h => h) (Or.inr ⟨by kernel_rfl, rfl⟩) hHeld ?_
            simp only [List.getElem_toArray, List.getElem_cons_zero, List.getElem_cons_succ, Act.put, List.setIfInBounds_toArray, List.set_cons_zero, List.set_cons_succ]
            refine wpAnyH_take (i := 5) (v := undef) rfl (by kernel_rfl) (by kernel_rfl) (by kernel_rfl) (fun _ _ _ h => h) (Or.inr ⟨by kernel_rfl, rfl⟩) hHeld ?_
            simp only [List.getElem_toArray, List.getElem_cons_zero, List.getElem_cons_succ, Act.put, List.setIfInBounds_toArray, List.set_cons_zero, List.set_cons_succ]
            refine wpAnyH_take (i := 6) (v := undef) rfl (by kernel_rfl) (by kernel_rfl) (by kernel_rfl) (fun _ _ _ h => h) (Or.inr ⟨by kernel_rfl, rfl⟩) hHeld ?_
            simp only [List.getElem_toArray, List.getElem_cons_zero, List.getElem_cons_succ, Act.put, List.setIfInBounds_toArray, List.set_cons_zero, List.set_cons_succ]
            refine wpAnyH_take (i := 7) (v := undef) rfl (by kernel_rfl) (by kernel_rfl) (by kernel_rfl) (fun _ _ _ h => h) (Or.inr ⟨by kernel_rfl, rfl⟩) hHeld ?_
            simp only [List.getElem_toArray, List.getElem_cons_zero, List.getElem_cons_succ, Act.put, List.setIfInBounds_toArray, List.set_cons_zero, List.set_cons_succ]
            refine wpAnyH_take (i := 8) (v := undef) rfl (by kernel_rfl) (by kernel_rfl) (by kernel_rfl) (fun _ _ _ h => h) (Or.inr ⟨by kernel_rfl, rfl⟩) hHeld ?_
            simp only [List.getElem_toArray, List.getElem_cons_zero, List.getElem_cons_succ, Act.put, List.setIfInBounds_toArray, List.set_cons_zero, List.set_cons_succ]
            refine wpAnyH_take (i := 9) (v := undef) rfl (by kernel_rfl) (by kernel_rfl) (by kernel_rfl) (fun _ _ _ h => h) (Or.inr ⟨by kernel_rfl, rfl⟩) hHeld ?_
            simp only [List.getElem_toArray, List.getElem_cons_zero, List.getElem_cons_succ, Act.put, List.setIfInBounds_toArray, List.set_cons_zero, List.set_cons_succ]
            refine wpAnyH_take (i := 10) (v := undef) rfl (by kernel_rfl) (by kernel_rfl) (by kernel_rfl) (fun _ _ _ h => h) (Or.inr ⟨by kernel_rfl, rfl⟩) hHeld ?_
            simp only [List.getElem_toArray, List.getElem_cons_zero, List.getElem_cons_succ, Act.put, List.setIfInBounds_toArray, List.set_cons_zero, List.set_cons_succ]
            refine wpAnyH_take (i := 11) (v := undef) rfl (by kernel_rfl) (by kernel_rfl) (by kernel_rfl) (fun _ _ _ h => h) (Or.inr ⟨by kernel_rfl, rfl⟩) hHeld ?_
            simp only [List.getElem_toArray, List.getElem_cons_zero, List.getElem_cons_succ, Act.put, List.setIfInBounds_toArray, List.set_cons_zero, List.set_cons_succ]
            refine wpAnyH_take (i := 12) (v := undef) rfl (by kernel_rfl) (by kernel_rfl) (by kernel_rfl) (fun _ _ _ h => h) (Or.inr ⟨by kernel_rfl, rfl⟩) hHeld ?_
            simp only [List.getElem_toArray, List.getElem_cons_zero, List.getElem_cons_succ, Act.put, List.setIfInBounds_toArray, List.set_cons_zero, List.set_cons_succ]
            refine wpAnyH_take (i := 13) (v := undef) rfl (by kernel_rfl) (by kernel_rfl) (by kernel_rfl) (fun _ _ _ h => h) (Or.inr ⟨by kernel_rfl, rfl⟩) hHeld ?_
            simp only [List.getElem_toArray, List.getElem_cons_zero, List.getElem_cons_succ, Act.put, List.setIfInBounds_toArray, List.set_cons_zero, List.set_cons_succ]
            refine wpAnyH_take (i := 14) (v := undef) rfl (by kernel_rfl) (by kernel_rfl) (by kernel_rfl) (fun _ _ _ h => h) (Or.inr ⟨by kernel_rfl, rfl⟩) hHeld ?_
            simp only [List.getElem_toArray, List.getElem_cons_zero, List.getElem_cons_succ, Act.put, List.setIfInBounds_toArray, List.set_cons_zero, List.set_cons_succ]
            refine wpAnyH_take (i := 15) (v := undef) rfl (by kernel_rfl) (by kernel_rfl) (by kernel_rfl) (fun _ _ _ h => h) (Or.inr ⟨by kernel_rfl, rfl⟩) hHeld ?_
            simp only [List.getElem_toArray, List.getElem_cons_zero, List.getElem_cons_succ, Act.put, List.setIfInBounds_toArray, List.set_cons_zero, List.set_cons_succ]
            refine wpAnyH_take (i := 16) (v := undef) rfl (by kernel_rfl) (by kernel_rfl) (by kernel_rfl) (fun _ _ _ h => h) (Or.inr ⟨by kernel_rfl, rfl⟩) hHeld ?_
            simp only [List.getElem_toArray, List.getElem_cons_zero, List.getElem_cons_succ, Act.put, List.setIfInBounds_toArray, List.set_cons_zero, List.set_cons_succ]
            refine wpAnyH_take (i := 17) (v := undef) rfl (by kernel_rfl) (by kernel_rfl) (by kernel_rfl) (fun _ _ _ h => h) (Or.inr ⟨by kernel_rfl, rfl⟩) hHeld ?_
            simp only [List.getElem_toArray, List.getElem_cons_zero, List.getElem_cons_succ, Act.put, List.setIfInBounds_toArray, List.set_cons_zero, List.set_cons_succ]
            refine wpAnyH_take (i := 18) (v := undef) rfl (by kernel_rfl) (by kernel_rfl) (by kernel_rfl) (fun _ _ _ h => h) (Or.inr ⟨by kernel_rfl, rfl⟩) hHeld ?_
            simp only [List.getElem_toArray, List.getElem_cons_zero, List.getElem_cons_succ, Act.put, List.setIfInBounds_toArray, List.set_cons_zero, List.set_cons_succ]
            refine wpAnyH_take (i := 19) (v := .bool false) rfl (by kernel_rfl) (by kernel_rfl) (by kernel_rfl) (fun _ _ _ h => h) (Or.inl ⟨by rfl, by intro w hSw; (try dsimp only at hSw); go_simp⟩) hHeld ?_
            simp only [List.getElem_toArray, List.getElem_cons_zero, List.getElem_cons_succ, Act.put, List.setIfInBounds_toArray, List.set_cons_zero, List.set_cons_succ]
            refine wpAnyH_done (by kernel_rfl) ?_ _
            clear hHeld
            replace RW2 := hide ((unhide RW2).later (Below.refl _ _).drew)
            replace HB := hide (unhide HB).drew
            replace e0 := cdP e0
            replace e1 := cdP e1
            generalize wr.drew = w5 at *
            have LB : (([] : List (Int × Int))).reverse.length ≤ 100 := by have := (unhide HP).2.2; have := unhide HLT; simp at *; try omega
            have HBO := hide (below_on (unhide HB2) (unhide HB))
            have EL : Hid ((chR (l.take (i + 1))).reverse = (([] : List (Int × Int))).reverse ++ [p]) := hide (by rw [unhide EC, ← (unhide HP).1, unhide EP]; simp)
            have LL : Hid ((chR (l.take (i + 1))).length ≤ i + 1) := hide (by rw [unhide EC, ← (unhide HP).1, unhide EP]; have := (unhide HP).2.2; have := unhide HLT; simp at *; try omega)
            clear HP EP HB
            generalize (([] : List (Int × Int))).reverse = L at *
            go_wp2_with (at_builtin; refine wpList_append_own _ rfl (.tmp 40) (.tmp 42) 23 rfl w.heap.size 31 i0 (.agg #[.int .i64 0, .int .i64 0]) 2 16 Try.underlying23 hi hz0 hz1 hz2 rfl (by decide) _ _ _ rfl ((unhide RW2).row.alloc _) ⟨_, 0, none⟩ 1 1 [.int .i64 p.1, .int .i64 p.2] rfl rfl (new_cellP _ _ _) (fun u hu => by simp at hu; rcases hu with rfl | rfl <;> rfl) (by unfold maxLen; omega) (by omega) (by have := (unhide HBO).size; simp; omega) ?_)
            intro v' w6 hown hgr _
            have RN : Hid (RwP w.heap.size w6 v' (L ++ [p])) := hide ⟨by rw [flatP_append, show flatP [p] = [.int .i64 p.1, .int .i64 p.2] from flatP_one p.1 p.2, List.length_append]; exact hown⟩
            have HBN := hide (push_belowP (unhide HBO) (unhide HBO).size (unhide RW2).row hgr)
            clear hown hgr
            go_wp2
            go_roundw
            case rel => exact ⟨i + 1, by omega, by go_num, hide ⟨by rw [unhide EL]; exact unhide RN, unhide LL⟩, HBN⟩
            case measure => simp [intOf]; omega
          · have ln : ([] : List (Int × Int)).reverse.length = 0 := rfl
            have RW2 := RW
            rw [ln] at RW2 ⊢
            clear RW hce ln
            go_upto_region 5 with fail
            refine wp_region_held_drew (S := fun w' => w'.cell? ⟨PX, 0, none⟩ = some (.int .i64 p.1) ∧ w'.cell? ⟨PX, 1, none⟩ = some (.int .i64 p.2)) (by kernel_rfl) ⟨e0, e1⟩ (fun hHeld => ?_)
            simp only [List.size_toArray, List.length_cons, List.length_nil, Nat.reduceAdd, Array.replicate_succ, Array.replicate_zero, List.push_toArray, List.nil_append, List.cons_append]
            refine wpAnyH_take (i := 0) (v := .slice (some ⟨g, 0, none⟩) 0 cp) rfl (by kernel_rfl) (by kernel_rfl) (by kernel_rfl) (fun _ _ _ h => h) (Or.inl ⟨by rfl, by intro w hSw; (try dsimp only at hSw); go_simp⟩) hHeld ?_
            simp only [List.getElem_toArray, List.getElem_cons_zero, List.getElem_cons_succ, Act.put, List.setIfInBounds_toArray, List.set_cons_zero, List.set_cons_succ]
            refine wpAnyH_take (i := 1) (v := .int .i64 0) rfl (by kernel_rfl) (by kernel_rfl) (by kernel_rfl) (fun _ _ _ h => h) (Or.inl ⟨by rfl, by intro w hSw; (try dsimp only at hSw); go_simp⟩) hHeld ?_
            simp only [List.getElem_toArray, List.getElem_cons_zero, List.getElem_cons_succ, Act.put, List.setIfInBounds_toArray, List.set_cons_zero, List.set_cons_succ]
            refine wpAnyH_take (i := 2) (v := .bool false) rfl (by kernel_rfl) (by kernel_rfl) (by kernel_rfl) (fun _ _ _ h => h) (Or.inl ⟨by rfl, by intro w hSw; (try dsimp only at hSw); go_simp⟩) hHeld ?_
            simp only [List.getElem_toArray, List.getElem_cons_zero, List.getElem_cons_succ, Act.put, List.setIfInBounds_toArray, List.set_cons_zero, List.set_cons_succ]
            refine wpAnyH_take (i := 3) (v := .bool false) rfl (by kernel_rfl) (by kernel_rfl) (by kernel_rfl) (fun _ _ _ h => h) (Or.inl ⟨by rfl, by intro w hSw; (try dsimp only at hSw); go_simp⟩) hHeld ?_
            simp only [List.getElem_toArray, List.getElem_cons_zero, List.getElem_cons_succ, Act.put, List.setIfInBounds_toArray, List.set_cons_zero, List.set_cons_succ]
            refine wpAnyH_take (i := 4) (v := undef) rfl (by kernel_rfl) (by kernel_rfl) (by kernel_rfl) (fun _ _ _ h => h) (Or.inr ⟨by kernel_rfl, rfl⟩) hHeld ?_
            simp only [List.getElem_toArray, List.getElem_cons_zero, List.getElem_cons_succ, Act.put, List.setIfInBounds_toArray, List.set_cons_zero, List.set_cons_succ]
            refine wpAnyH_take (i := 5) (v := undef) rfl (by kernel_rfl) (by kernel_rfl) (by kernel_rfl) (fun _ _ _ h => h) (Or.inr ⟨by kernel_rfl, rfl⟩) hHeld ?_
            simp only [List.getElem_toArray, List.getElem_cons_zero, List.getElem_cons_succ, Act.put, List.setIfInBounds_toArray, List.set_cons_zero, List.set_cons_succ]
            refine wpAnyH_take (i := 6) (v := undef) rfl (by kernel_rfl) (by kernel_rfl) (by kernel_rfl) (fun _ _ _ h => h) (Or.inr ⟨by kernel_rfl, rfl⟩) hHeld ?_
            simp only [List.getElem_toArray, List.getElem_cons_zero, List.getElem_cons_succ, Act.put, List.setIfInBounds_toArray, List.set_cons_zero, List.set_cons_succ]
            refine wpAnyH_take (i := 7) (v := undef) rfl (by kernel_rfl) (by kernel_rfl) (by kernel_rfl) (fun _ _ _ h => h) (Or.inr ⟨by kernel_rfl, rfl⟩) hHeld ?_
            simp only [List.getElem_toArray, List.getElem_cons_zero, List.getElem_cons_succ, Act.put, List.setIfInBounds_toArray, List.set_cons_zero, List.set_cons_succ]
            refine wpAnyH_take (i := 8) (v := undef) rfl (by kernel_rfl) (by kernel_rfl) (by kernel_rfl) (fun _ _ _ h => h) (Or.inr ⟨by kernel_rfl, rfl⟩) hHeld ?_
            simp only [List.getElem_toArray, List.getElem_cons_zero, List.getElem_cons_succ, Act.put, List.setIfInBounds_toArray, List.set_cons_zero, List.set_cons_succ]
            refine wpAnyH_take (i := 9) (v := undef) rfl (by kernel_rfl) (by kernel_rfl) (by kernel_rfl) (fun _ _ _ h => h) (Or.inr ⟨by kernel_rfl, rfl⟩) hHeld ?_
            simp only [List.getElem_toArray, List.getElem_cons_zero, List.getElem_cons_succ, Act.put, List.setIfInBounds_toArray, List.set_cons_zero, List.set_cons_succ]
            refine wpAnyH_take (i := 10) (v := undef) rfl (by kernel_rfl) (by kernel_rfl) (by kernel_rfl) (fun _ _ _ h => h) (Or.inr ⟨by kernel_rfl, rfl⟩) hHeld ?_
            simp only [List.getElem_toArray, List.getElem_cons_zero, List.getElem_cons_succ, Act.put, List.setIfInBounds_toArray, List.set_cons_zero, List.set_cons_succ]
            refine wpAnyH_take (i := 11) (v := undef) rfl (by kernel_rfl) (by kernel_rfl) (by kernel_rfl) (fun _ _ _ h => h) (Or.inr ⟨by kernel_rfl, rfl⟩) hHeld ?_
            simp only [List.getElem_toArray, List.getElem_cons_zero, List.getElem_cons_succ, Act.put, List.setIfInBounds_toArray, List.set_cons_zero, List.set_cons_succ]
            refine wpAnyH_take (i := 12) (v := undef) rfl (by kernel_rfl) (by kernel_rfl) (by kernel_rfl) (fun _ _ _ h => h) (Or.inr ⟨by kernel_rfl, rfl⟩) hHeld ?_
            simp only [List.getElem_toArray, List.getElem_cons_zero, List.getElem_cons_succ, Act.put, List.setIfInBounds_toArray, List.set_cons_zero, List.set_cons_succ]
            refine wpAnyH_take (i := 13) (v := undef) rfl (by kernel_rfl) (by kernel_rfl) (by kernel_rfl) (fun _ _ _ h => h) (Or.inr ⟨by kernel_rfl, rfl⟩) hHeld ?_
            simp only [List.getElem_toArray, List.getElem_cons_zero, List.getElem_cons_succ, Act.put, List.setIfInBounds_toArray, List.set_cons_zero, List.set_cons_succ]
            refine wpAnyH_take (i := 14) (v := undef) rfl (by kernel_rfl) (by kernel_rfl) (by kernel_rfl) (fun _ _ _ h => h) (Or.inr ⟨by kernel_rfl, rfl⟩) hHeld ?_
            simp only [List.getElem_toArray, List.getElem_cons_zero, List.getElem_cons_succ, Act.put, List.setIfInBounds_toArray, List.set_cons_zero, List.set_cons_succ]
            refine wpAnyH_take (i := 15) (v := undef) rfl (by kernel_rfl) (by kernel_rfl) (by kernel_rfl) (fun _ _ _ h => h) (Or.inr ⟨by kernel_rfl, rfl⟩) hHeld ?_
            simp only [List.getElem_toArray, List.getElem_cons_zero, List.getElem_cons_succ, Act.put, List.setIfInBounds_toArray, List.set_cons_zero, List.set_cons_succ]
            refine wpAnyH_take (i := 16) (v := undef) rfl (by kernel_rfl) (by kernel_rfl) (by kernel_rfl) (fun _ _ _ h => h) (Or.inr ⟨by kernel_rfl, rfl⟩) hHeld ?_
            simp only [List.getElem_toArray, List.getElem_cons_zero, List.getElem_cons_succ, Act.put, List.setIfInBounds_toArray, List.set_cons_zero, List.set_cons_succ]
            refine wpAnyH_take (i := 17) (v := undef) rfl (by kernel_rfl) (by kernel_rfl) (by kernel_rfl) (fun _ _ _ h => h) (Or.inr ⟨by kernel_rfl, rfl⟩) hHeld ?_
            simp only [List.getElem_toArray, List.getElem_cons_zero, List.getElem_cons_succ, Act.put, List.setIfInBounds_toArray, List.set_cons_zero, List.set_cons_succ]
            refine wpAnyH_take (i := 18) (v := undef) rfl (by kernel_rfl) (by kernel_rfl) (by kernel_rfl) (fun _ _ _ h => h) (Or.inr ⟨by kernel_rfl, rfl⟩) hHeld ?_
            simp only [List.getElem_toArray, List.getElem_cons_zero, List.getElem_cons_succ, Act.put, List.setIfInBounds_toArray, List.set_cons_zero, List.set_cons_succ]
            refine wpAnyH_take (i := 19) (v := .bool false) rfl (by kernel_rfl) (by kernel_rfl) (by kernel_rfl) (fun _ _ _ h => h) (Or.inl ⟨by rfl, by intro w hSw; (try dsimp only at hSw); go_simp⟩) hHeld ?_
            simp only [List.getElem_toArray, List.getElem_cons_zero, List.getElem_cons_succ, Act.put, List.setIfInBounds_toArray, List.set_cons_zero, List.set_cons_succ]
            refine wpAnyH_done (by kernel_rfl) ?_ _
            clear hHeld
            replace RW2 := hide ((unhide RW2).later (Below.refl _ _).drew)
            replace HB := hide (unhide HB).drew
            replace e0 := cdP e0
            replace e1 := cdP e1
            generalize wr.drew = w5 at *
            have LB : (([] : List (Int × Int))).reverse.length ≤ 100 := by have := (unhide HP).2.2; have := unhide HLT; simp at *; try omega
            have HBO := hide (below_on (unhide HB2) (unhide HB))
            have EL : Hid ((chR (l.take (i + 1))).reverse = (([] : List (Int × Int))).reverse ++ [p]) := hide (by rw [unhide EC, ← (unhide HP).1, unhide EP]; simp)
            have LL : Hid ((chR (l.take (i + 1))).length ≤ i + 1) := hide (by rw [unhide EC, ← (unhide HP).1, unhide EP]; have := (unhide HP).2.2; have := unhide HLT; simp at *; try omega)
            clear HP EP HB
            generalize (([] : List (Int × Int))).reverse = L at *
            go_wp2_with (at_builtin; refine wpList_append_own _ rfl (.tmp 40) (.tmp 42) 23 rfl w.heap.size 31 i0 (.agg #[.int .i64 0, .int .i64 0]) 2 16 Try.underlying23 hi hz0 hz1 hz2 rfl (by decide) _ _ _ rfl ((unhide RW2).row.alloc _) ⟨_, 0, none⟩ 1 1 [.int .i64 p.1, .int .i64 p.2] rfl rfl (new_cellP _ _ _) (fun u hu => by simp at hu; rcases hu with rfl | rfl <;> rfl) (by unfold maxLen; omega) (by omega) (by have := (unhide HBO).size; simp; omega) ?_)
            intro v' w6 hown hgr _
            have RN : Hid (RwP w.heap.size w6 v' (L ++ [p])) := hide ⟨by rw [flatP_append, show flatP [p] = [.int .i64 p.1, .int .i64 p.2] from flatP_one p.1 p.2, List.length_append]; exact hown⟩
            have HBN := hide (push_belowP (unhide HBO) (unhide HBO).size (unhide RW2).row hgr)
            clear hown hgr
            go_wp2
            go_roundw
            case rel => exact ⟨i + 1, by omega, by go_num, hide ⟨by rw [unhide EL]; exact unhide RN, unhide LL⟩, HBN⟩
            case measure => simp [intOf]; omega
        | [q], RW, HP =>
          have EP : Hid (popP p [q] = [q]) := hide (by rw [popP]; simp)
          rcases (unhide RW).open with ⟨rfl, h⟩ | ⟨g, cp, rfl, hB, hg, hcp, hcm, hce⟩
          · simp at h
          · have ln : [q].reverse.length = 1 := rfl
            have RW2 := RW
            rw [ln] at RW2 ⊢
            clear RW hce ln
            go_upto_region 5 with fail
            refine wp_region_held_drew (S := fun w' => w'.cell? ⟨PX, 0, none⟩ = some (.int .i64 p.1) ∧ w'.cell? ⟨PX, 1, none⟩ = some (.int .i64 p.2)) (by kernel_rfl) ⟨e0, e1⟩ (fun hHeld => ?_)
            simp only [List.size_toArray, List.length_cons, List.length_nil, Nat.reduceAdd, Array.replicate_succ, Array.replicate_zero, List.push_toArray, List.nil_append, List.cons_append]
            refine wpAnyH_take (i := 0) (v := .slice (some ⟨g, 0, none⟩) 1 cp) rfl (by kernel_rfl) (by kernel_rfl) (by kernel_rfl) (fun _ _ _ h => h) (Or.inl ⟨by rfl, by intro w hSw; (try dsimp only at hSw); go_simp⟩) hHeld ?_
            simp only [List.getElem_toArray, List.getElem_cons_zero, List.getElem_cons_succ, Act.put, List.setIfInBounds_toArray, List.set_cons_zero, List.set_cons_succ]
            refine wpAnyH_take (i := 1) (v := .int .i64 1) rfl (by kernel_rfl) (by kernel_rfl) (by kernel_rfl) (fun _ _ _ h => h) (Or.inl ⟨by rfl, by intro w hSw; (try dsimp only at hSw); go_simp⟩) hHeld ?_
            simp only [List.getElem_toArray, List.getElem_cons_zero, List.getElem_cons_succ, Act.put, List.setIfInBounds_toArray, List.set_cons_zero, List.set_cons_succ]
            refine wpAnyH_take (i := 2) (v := .bool false) rfl (by kernel_rfl) (by kernel_rfl) (by kernel_rfl) (fun _ _ _ h => h) (Or.inl ⟨by rfl, by intro w hSw; (try dsimp only at hSw); go_simp⟩) hHeld ?_
            simp only [List.getElem_toArray, List.getElem_cons_zero, List.getElem_cons_succ, Act.put, List.setIfInBounds_toArray, List.set_cons_zero, List.set_cons_succ]
            refine wpAnyH_take (i := 3) (v := .bool false) rfl (by kernel_rfl) (by kernel_rfl) (by kernel_rfl) (fun _ _ _ h => h) (Or.inl ⟨by rfl, by intro w hSw; (try dsimp only at hSw); go_simp⟩) hHeld ?_
            simp only [List.getElem_toArray, List.getElem_cons_zero, List.getElem_cons_succ, Act.put, List.setIfInBounds_toArray, List.set_cons_zero, List.set_cons_succ]
            refine wpAnyH_take (i := 4) (v := undef) rfl (by kernel_rfl) (by kernel_rfl) (by kernel_rfl) (fun _ _ _ h => h) (Or.inr ⟨by kernel_rfl, rfl⟩) hHeld ?_
            simp only [List.getElem_toArray, List.getElem_cons_zero, List.getElem_cons_succ, Act.put, List.setIfInBounds_toArray, List.set_cons_zero, List.set_cons_succ]
            refine wpAnyH_take (i := 5) (v := undef) rfl (by kernel_rfl) (by kernel_rfl) (by kernel_rfl) (fun _ _ _ h => h) (Or.inr ⟨by kernel_rfl, rfl⟩) hHeld ?_
            simp only [List.getElem_toArray, List.getElem_cons_zero, List.getElem_cons_succ, Act.put, List.setIfInBounds_toArray, List.set_cons_zero, List.set_cons_succ]
            refine wpAnyH_take (i := 6) (v := undef) rfl (by kernel_rfl) (by kernel_rfl) (by kernel_rfl) (fun _ _ _ h => h) (Or.inr ⟨by kernel_rfl, rfl⟩) hHeld ?_
            simp only [List.getElem_toArray, List.getElem_cons_zero, List.getElem_cons_succ, Act.put, List.setIfInBounds_toArray, List.set_cons_zero, List.set_cons_succ]
            refine wpAnyH_take (i := 7) (v := undef) rfl (by kernel_rfl) (by kernel_rfl) (by kernel_rfl) (fun _ _ _ h => h) (Or.inr ⟨by kernel_rfl, rfl⟩) hHeld ?_
            simp only [List.getElem_toArray, List.getElem_cons_zero, List.getElem_cons_succ, Act.put, List.setIfInBounds_toArray, List.set_cons_zero, List.set_cons_succ]
            refine wpAnyH_take (i := 8) (v := undef) rfl (by kernel_rfl) (by kernel_rfl) (by kernel_rfl) (fun _ _ _ h => h) (Or.inr ⟨by kernel_rfl, rfl⟩) hHeld ?_
            simp only [List.getElem_toArray, List.getElem_cons_zero, List.getElem_cons_succ, Act.put, List.setIfInBounds_toArray, List.set_cons_zero, List.set_cons_succ]
            refine wpAnyH_take (i := 9) (v := undef) rfl (by kernel_rfl) (by kernel_rfl) (by kernel_rfl) (fun _ _ _ h => h) (Or.inr ⟨by kernel_rfl, rfl⟩) hHeld ?_
            simp only [List.getElem_toArray, List.getElem_cons_zero, List.getElem_cons_succ, Act.put, List.setIfInBounds_toArray, List.set_cons_zero, List.set_cons_succ]
            refine wpAnyH_take (i := 10) (v := undef) rfl (by kernel_rfl) (by kernel_rfl) (by kernel_rfl) (fun _ _ _ h => h) (Or.inr ⟨by kernel_rfl, rfl⟩) hHeld ?_
            simp only [List.getElem_toArray, List.getElem_cons_zero, List.getElem_cons_succ, Act.put, List.setIfInBounds_toArray, List.set_cons_zero, List.set_cons_succ]
            refine wpAnyH_take (i := 11) (v := undef) rfl (by kernel_rfl) (by kernel_rfl) (by kernel_rfl) (fun _ _ _ h => h) (Or.inr ⟨by kernel_rfl, rfl⟩) hHeld ?_
            simp only [List.getElem_toArray, List.getElem_cons_zero, List.getElem_cons_succ, Act.put, List.setIfInBounds_toArray, List.set_cons_zero, List.set_cons_succ]
            refine wpAnyH_take (i := 12) (v := undef) rfl (by kernel_rfl) (by kernel_rfl) (by kernel_rfl) (fun _ _ _ h => h) (Or.inr ⟨by kernel_rfl, rfl⟩) hHeld ?_
            simp only [List.getElem_toArray, List.getElem_cons_zero, List.getElem_cons_succ, Act.put, List.setIfInBounds_toArray, List.set_cons_zero, List.set_cons_succ]
            refine wpAnyH_take (i := 13) (v := undef) rfl (by kernel_rfl) (by kernel_rfl) (by kernel_rfl) (fun _ _ _ h => h) (Or.inr ⟨by kernel_rfl, rfl⟩) hHeld ?_
            simp only [List.getElem_toArray, List.getElem_cons_zero, List.getElem_cons_succ, Act.put, List.setIfInBounds_toArray, List.set_cons_zero, List.set_cons_succ]
            refine wpAnyH_take (i := 14) (v := undef) rfl (by kernel_rfl) (by kernel_rfl) (by kernel_rfl) (fun _ _ _ h => h) (Or.inr ⟨by kernel_rfl, rfl⟩) hHeld ?_
            simp only [List.getElem_toArray, List.getElem_cons_zero, List.getElem_cons_succ, Act.put, List.setIfInBounds_toArray, List.set_cons_zero, List.set_cons_succ]
            refine wpAnyH_take (i := 15) (v := undef) rfl (by kernel_rfl) (by kernel_rfl) (by kernel_rfl) (fun _ _ _ h => h) (Or.inr ⟨by kernel_rfl, rfl⟩) hHeld ?_
            simp only [List.getElem_toArray, List.getElem_cons_zero, List.getElem_cons_succ, Act.put, List.setIfInBounds_toArray, List.set_cons_zero, List.set_cons_succ]
            refine wpAnyH_take (i := 16) (v := undef) rfl (by kernel_rfl) (by kernel_rfl) (by kernel_rfl) (fun _ _ _ h => h) (Or.inr ⟨by kernel_rfl, rfl⟩) hHeld ?_
            simp only [List.getElem_toArray, List.getElem_cons_zero, List.getElem_cons_succ, Act.put, List.setIfInBounds_toArray, List.set_cons_zero, List.set_cons_succ]
            refine wpAnyH_take (i := 17) (v := undef) rfl (by kernel_rfl) (by kernel_rfl) (by kernel_rfl) (fun _ _ _ h => h) (Or.inr ⟨by kernel_rfl, rfl⟩) hHeld ?_
            simp only [List.getElem_toArray, List.getElem_cons_zero, List.getElem_cons_succ, Act.put, List.setIfInBounds_toArray, List.set_cons_zero, List.set_cons_succ]
            refine wpAnyH_take (i := 18) (v := undef) rfl (by kernel_rfl) (by kernel_rfl) (by kernel_rfl) (fun _ _ _ h => h) (Or.inr ⟨by kernel_rfl, rfl⟩) hHeld ?_
            simp only [List.getElem_toArray, List.getElem_cons_zero, List.getElem_cons_succ, Act.put, List.setIfInBounds_toArray, List.set_cons_zero, List.set_cons_succ]
            refine wpAnyH_take (i := 19) (v := .bool false) rfl (by kernel_rfl) (by kernel_rfl) (by kernel_rfl) (fun _ _ _ h => h) (Or.inl ⟨by rfl, by intro w hSw; (try dsimp only at hSw); go_simp⟩) hHeld ?_
            simp only [List.getElem_toArray, List.getElem_cons_zero, List.getElem_cons_succ, Act.put, List.setIfInBounds_toArray, List.set_cons_zero, List.set_cons_succ]
            refine wpAnyH_done (by kernel_rfl) ?_ _
            clear hHeld
            replace RW2 := hide ((unhide RW2).later (Below.refl _ _).drew)
            replace HB := hide (unhide HB).drew
            replace e0 := cdP e0
            replace e1 := cdP e1
            generalize wr.drew = w5 at *
            have LB : ([q]).reverse.length ≤ 100 := by have := (unhide HP).2.2; have := unhide HLT; simp at *; try omega
            have HBO := hide (below_on (unhide HB2) (unhide HB))
            have EL : Hid ((chR (l.take (i + 1))).reverse = ([q]).reverse ++ [p]) := hide (by rw [unhide EC, ← (unhide HP).1, unhide EP]; simp)
            have LL : Hid ((chR (l.take (i + 1))).length ≤ i + 1) := hide (by rw [unhide EC, ← (unhide HP).1, unhide EP]; have := (unhide HP).2.2; have := unhide HLT; simp at *; try omega)
            clear HP EP HB
            generalize ([q]).reverse = L at *
            go_wp2_with (at_builtin; refine wpList_append_own _ rfl (.tmp 40) (.tmp 42) 23 rfl w.heap.size 31 i0 (.agg #[.int .i64 0, .int .i64 0]) 2 16 Try.underlying23 hi hz0 hz1 hz2 rfl (by decide) _ _ _ rfl ((unhide RW2).row.alloc _) ⟨_, 0, none⟩ 1 1 [.int .i64 p.1, .int .i64 p.2] rfl rfl (new_cellP _ _ _) (fun u hu => by simp at hu; rcases hu with rfl | rfl <;> rfl) (by unfold maxLen; omega) (by omega) (by have := (unhide HBO).size; simp; omega) ?_)
            intro v' w6 hown hgr _
            have RN : Hid (RwP w.heap.size w6 v' (L ++ [p])) := hide ⟨by rw [flatP_append, show flatP [p] = [.int .i64 p.1, .int .i64 p.2] from flatP_one p.1 p.2, List.length_append]; exact hown⟩
            have HBN := hide (push_belowP (unhide HBO) (unhide HBO).size (unhide RW2).row hgr)
            clear hown hgr
            go_wp2
            go_roundw
            case rel => exact ⟨i + 1, by omega, by go_num, hide ⟨by rw [unhide EL]; exact unhide RN, unhide LL⟩, HBN⟩
            case measure => simp [intOf]; omega
    · obtain rfl : i = n := by omega
      have EN : Hid (chR (l.take i) = chR l) := hide (by rw [← unhide HN, List.take_length])
      go_wp2
      go_ret
      exact ⟨_, rfl, unhide HB, by unfold chainP; rw [← unhide EN]; exact (unhide HR).1⟩
end Go.Proofs.Ytgoiodhofbkkdaa
