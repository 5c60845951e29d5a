/- slices.Insert over points: one point is put into a row of one's own. No condition beyond those typed. -/
import Derived.Test.YtgoiodhofbkkdaaSo10
import Derived.Test.YtgoiodhofbkkdaaLe10
import Derived.Laws.CopyOwn
import Derived.Lib.Overlaps
import Derived.Lib.AppendZerosOnto
import Derived.Lib.AppendZeros
import Derived.Deep.RegionLaw
namespace Go.Proofs.Ytgoiodhofbkkdaa
open Go.RowKit
set_option linter.unusedVariables false
set_option maxRecDepth 100000
set_option linter.unusedSimpArgs false

/-- copy over elements of several cells, into a row that is known whole. -/
theorem run_copyN {P : Program} (w : World) (dT sT ty elem : TypeId) (sz g o dLen dCap : Nat) (a : Addr) (sLen sCap : Nat) (cur : List Value) (t : TypeId) (cs : List Value)
    (hu : P.underlying dT = some (.slice elem)) (hs : (P.info? elem).map (·.size) = some sz)
    (hg : w.heap[g]? = some (.cells cur.toArray t (0, 0))) (hn : cs.length = Nat.min sLen dLen * sz)
    (hsrc : ∀ j v, cs[j]? = some v → w.cell? (a.add j) = some v) (hfit : o + cs.length ≤ cur.length) (h1 : ∀ v ∈ cs, v.oneCell' = true) :
    (Builtin.copy_ #[dT, sT] ty #[.slice (some ⟨g, o, none⟩) dLen dCap, .slice (some a) sLen sCap]).run P w =
      .ok (goInt (Nat.min sLen dLen)) (w.setRow g (splice cur o cs).toArray) := by
  have hl := run_loadCells_list (P := P) w a cs hsrc
  have hst := run_storeCells_at P g o t cs 0 cur.toArray w hg (by simpa using hfit) h1
  cases hq : P.info? elem with
  | none => simp [hq] at hs
  | some i =>
    have hi : i.size = sz := by simpa [hq] using hs
    simp [Builtin.copy_, run_underlying hu, Builtin.lenOf, Builtin.firstCells, sizeOf, typeInfo, hq, hi, ← hn, hl, hst, splice]
theorem grown_setRow {w : World} {g : Nat} {cs : Array Value} : w.grownBy (w.setRow g cs) (some g) :=
  ⟨rfl, rfl, rfl, by simp [World.setRow], fun k _ hne => setRow_other w g k cs (fun e => hne (by rw [e]))⟩
theorem wpList_copyN {P : Program} {w : World} {ops : Array Oper} {rest : List Oper} {o : Oper} {a : Act} {Q : Exit → Act → World → Prop} (hgd : o.guard = none) (d s : Operand) (dT sT : TypeId)
    (ho : o.op = .call { callee := .builtin .copy, args := #[d, s], argTypes := #[dT, sT] }) (elem : TypeId) (sz : Nat) (hu : P.underlying dT = some (.slice elem)) (hsz : (P.info? elem).map (·.size) = some sz)
    (g off dLen dCap : Nat) (ad : Addr) (sLen sCap : Nat) (hd : a.eval d = .slice (some ⟨g, off, none⟩) dLen dCap) (hs : a.eval s = .slice (some ad) sLen sCap)
    (cur : List Value) (t : TypeId) (hg : w.heap[g]? = some (.cells cur.toArray t (0, 0))) (cs : List Value) (hn : cs.length = Nat.min sLen dLen * sz)
    (hsrc : ∀ j v, cs[j]? = some v → w.cell? (ad.add j) = some v) (hfit : off + cs.length ≤ cur.length) (h1 : ∀ v ∈ cs, v.oneCell' = true)
    (h : ∀ w', Hid (w'.heap[g]? = some (.cells (splice cur off cs).toArray t (0, 0))) → w.grownBy w' (some g) → wpList P ops Q rest (a.put o.dst (goInt (Nat.min sLen dLen))) w') : wpList P ops Q (o :: rest) a w := by
  refine wpList_plain hgd fun K hK => ?_
  have hrun := run_copyN (P := P) w dT sT o.type elem sz g off dLen dCap ad sLen sCap cur t cs hu hsz hg hn hsrc hfit h1
  unfold Oper.wp
  simp [execOp, ho, resolve, invoke, builtin, hd, hs, hrun, Result.andThen]
  exact hK _ _ (h _ (hide (setRow_heap w g _ _ t _ hg)) grown_setRow)
theorem step_copyN {P : Program} {ops : Array Oper} {o : Oper} {a : Act} {w : World} {K : Act → World → Prop} {Q : Exit → Act → World → Prop} {E : Prop} (hgd : o.guard = none) (d s : Operand) (dT sT : TypeId)
    (ho : o.op = .call { callee := .builtin .copy, args := #[d, s], argTypes := #[dT, sT] }) (elem : TypeId) (sz : Nat) (hu : P.underlying dT = some (.slice elem)) (hsz : (P.info? elem).map (·.size) = some sz)
    (g off dLen dCap : Nat) (ad : Addr) (sLen sCap : Nat) (hd : a.eval d = .slice (some ⟨g, off, none⟩) dLen dCap) (hs : a.eval s = .slice (some ad) sLen sCap)
    (cur : List Value) (t : TypeId) (hg : w.heap[g]? = some (.cells cur.toArray t (0, 0))) (cs : List Value) (hn : cs.length = Nat.min sLen dLen * sz)
    (hsrc : ∀ j v, cs[j]? = some v → w.cell? (ad.add j) = some v) (hfit : off + cs.length ≤ cur.length) (h1 : ∀ v ∈ cs, v.oneCell' = true)
    (h : ∀ w', Hid (w'.heap[g]? = some (.cells (splice cur off cs).toArray t (0, 0))) → w.grownBy w' (some g) → K (a.put o.dst (goInt (Nat.min sLen dLen))) w') :
    if Region.wanted o (yielded ops a.tmps) = true then Oper.wp P o a w K Q else E := by
  have hw : Region.wanted o (yielded ops a.tmps) = true := by simp [Region.wanted, hgd]
  rw [if_pos hw]
  have hrun := run_copyN (P := P) w dT sT o.type elem sz g off dLen dCap ad sLen sCap cur t cs hu hsz hg hn hsrc hfit h1
  unfold Oper.wp
  simp [execOp, ho, resolve, invoke, builtin, hd, hs, hrun, Result.andThen]
  exact h _ (hide (setRow_heap w g _ _ t _ hg)) grown_setRow
theorem grown_trans {w w1 w2 : World} {r : Option Nat} (h : w.grownBy w1 r) (k : w1.grownBy w2 r) : w.grownBy w2 r :=
  ⟨k.os.trans h.os, k.tape.trans h.tape, k.output.trans h.output, Nat.le_trans h.size k.size, fun j hj hne => (k.block j (Nat.lt_of_lt_of_le hj h.size) hne).trans (h.block j hj hne)⟩
theorem grown_drew {w : World} {r : Option Nat} : w.grownBy w.drew r := ⟨rfl, rfl, rfl, Nat.le_refl _, fun _ _ _ => rfl⟩
theorem grown_below {w w' : World} (h : Below w.heap.size w w') (r : Option Nat) : w.grownBy w' r := ⟨h.os, h.tape, h.output, h.size, fun k hk _ => h.block k hk⟩
theorem grown_any {w w' : World} {g : Nat} (h : w.grownBy w' (some g)) (hg : w.heap.size ≤ g) (r : Option Nat) : w.grownBy w' r := ⟨h.os, h.tape, h.output, h.size, fun k hk _ => h.block k hk (fun e => by cases e; omega)⟩
theorem overI (w : World) (vb vc g o lb cb : Nat) (X Y : Array Value) (hne : vb ≠ g) (hv : w.heap[vb]? = some (.cells X 31 (0, 0))) (hg : w.heap[g]? = some (.cells Y 31 (0, 0))) (hy : Y.size ≠ 0) :
    (callFunc 105 #[.slice (some ⟨vb, 0, none⟩) 1 vc, .slice (some ⟨g, o, none⟩) lb cb]).run Try.prog w = .ok (.value (.bool false)) w := by
  have hsz : ∀ w, (Go.sizeOf 31).run Try.prog w = .ok 2 w := fun w => by
    obtain ⟨i0, hi, hz0, hz1, hz2⟩ := info_parts infoPt
    simp [sizeOf, typeInfo, hi, hz1]
  rw [run_callFunc_extern Try.func105 (by kernel_rfl) (by kernel_rfl) (by kernel_rfl) (e := Extern.SlicesOverlaps.overlaps #[23, 23] #[4]) (by kernel_rfl),
    Lib.run_overlaps_apart w 23 4 31 Try.underlying23 2 hsz ⟨vb, 0, none⟩ ⟨g, o, none⟩ 1 vc lb cb hne 31 31 X.size Y.size (by simp [World.shape?, hv]) (by simp [World.shape?, hg]) hy (by simp [World.frozen?, hv]) (by simp [World.frozen?, hv])]
  rfl
theorem RwP.raw {B g n c : Nat} {w : World} {L : List (Int × Int)} (h : RwP B w (.slice (some ⟨g, 0, none⟩) n c) L) : L.length = n ∧ B ≤ g ∧ ∃ cur : List Value, w.heap[g]? = some (.cells cur.toArray 31 (0, 0)) ∧ n ≤ c ∧ c ≤ maxLen ∧ cur.length = c * 2 ∧ cur.take (n * 2) = flatP L := by
  rcases h.row.2 with ⟨h', _⟩ | ⟨g', c', cur, hv, h1, hg, h2, h3, h4, h5⟩
  · cases h'
  · simp only [Value.slice.injEq, Option.some.injEq, Addr.mk.injEq, and_true, true_and] at hv
    obtain ⟨rfl, e, rfl⟩ := hv
    exact ⟨e.symm, h1, cur.toList, by simpa using hg, by omega, h3, by simpa using h4, by rw [e]; exact h5⟩
theorem flat_drop : ∀ (L : List (Int × Int)) (k : Nat), flatP (L.drop k) = (flatP L).drop (k * 2)
  | [], k => by simp [flatP]
  | p :: L, 0 => by simp [flatP]
  | p :: L, k + 1 => by
    rw [List.drop_succ_cons, flat_drop L k, show flatP (p :: L) = .int .i64 p.1 :: .int .i64 p.2 :: flatP L by simp [flatP], show (k + 1) * 2 = k * 2 + 1 + 1 by omega, List.drop_succ_cons, List.drop_succ_cons]
theorem flat_one' : ∀ (L : List (Int × Int)), ∀ v ∈ flatP L, v.oneCell' = true := fun L v hv => by
  unfold flatP at hv
  rw [List.mem_flatMap] at hv
  obtain ⟨x, _, hx⟩ := hv
  simp at hx
  rcases hx with rfl | rfl <;> rfl
/-- A point's cells. -/
def pcs (p : Int × Int) : List Value := [.int .i64 p.1, .int .i64 p.2]
theorem pcs_len (p : Int × Int) : (pcs p).length = 2 := rfl
theorem pcs_one (p : Int × Int) : ∀ v ∈ pcs p, v.oneCell' = true := fun v hv => by
  unfold pcs at hv
  simp at hv
  rcases hv with rfl | rfl <;> rfl
theorem put_flat (L : List (Int × Int)) (p : Int × Int) (i : Nat) : flatP (L.take i ++ p :: L.drop i) = flatP (L.take i) ++ (pcs p ++ flatP (L.drop i)) := by
  rw [flatP_append, show flatP (p :: L.drop i) = pcs p ++ flatP (L.drop i) by simp [flatP, pcs]]
theorem put_row {B g n c i : Nat} {w : World} {L : List (Int × Int)} {p : Int × Int} {Z : List Value} (hB : B ≤ g) (hL : L.length = n) (hi : i ≤ n) (hc : n + 1 ≤ c) (hm : c ≤ maxLen)
    (hg : w.heap[g]? = some (.cells (flatP (L.take i) ++ (pcs p ++ (flatP (L.drop i) ++ Z))).toArray 31 (0, 0))) (hz : (flatP (L.take i) ++ (pcs p ++ (flatP (L.drop i) ++ Z))).length = c * 2) :
    RwP B w (.slice (some ⟨g, 0, none⟩) (n + 1) c) (L.take i ++ p :: L.drop i) := by
  have hl : (L.take i ++ p :: L.drop i).length = n + 1 := by simp; omega
  refine ⟨?_⟩
  rw [hl]
  refine ⟨by rw [flat_len, hl], .inr ⟨g, c, _, rfl, hB, hg, by omega, hm, by simpa using hz, ?_⟩⟩
  have hq : (flatP (L.take i ++ p :: L.drop i)).length = (n + 1) * 2 := by rw [flat_len, hl]
  rw [put_flat] at hq ⊢
  have e : flatP (L.take i) ++ (pcs p ++ (flatP (L.drop i) ++ Z)) = (flatP (L.take i) ++ (pcs p ++ flatP (L.drop i))) ++ Z := by simp
  rw [e, List.take_append_of_le_length (by omega), List.take_of_length_le (by omega)]
theorem shift_rows {cur : List Value} {L : List (Int × Int)} {p : Int × Int} {n c i : Nat} (hL : L.length = n) (hc : cur.length = c * 2) (ht : cur.take (n * 2) = flatP L) (hi : i < n) (hr : n + 1 ≤ c) :
    splice (splice cur ((i + 1) * 2) (flatP (L.drop i))) (i * 2) (pcs p) = flatP (L.take i) ++ (pcs p ++ (flatP (L.drop i) ++ cur.drop ((i + 1) * 2 + (n - i) * 2))) := by
  have hd : (flatP (L.drop i)).length = (n - i) * 2 := by rw [flat_len]; simp; omega
  have h1 : (splice cur ((i + 1) * 2) (flatP (L.drop i))).take (i * 2) = flatP (L.take i) := by
    unfold splice
    rw [List.take_append_of_le_length (by simp; omega), List.take_take, flat_take, ← ht, List.take_take]
    congr 1
    omega
  have h2 : (splice cur ((i + 1) * 2) (flatP (L.drop i))).drop (i * 2 + 2) = flatP (L.drop i) ++ cur.drop ((i + 1) * 2 + (n - i) * 2) := by
    unfold splice
    rw [List.drop_append_of_le_length (by simp; omega), List.drop_take, show (i + 1) * 2 - (i * 2 + 2) = 0 by omega, List.take_zero, List.nil_append, hd]
  rw [show splice (splice cur ((i + 1) * 2) (flatP (L.drop i))) (i * 2) (pcs p) = (splice cur ((i + 1) * 2) (flatP (L.drop i))).take (i * 2) ++ (pcs p ++ (splice cur ((i + 1) * 2) (flatP (L.drop i))).drop (i * 2 + 2)) from rfl, h1, h2]
theorem grow_rows {row : List Value} {L : List (Int × Int)} {p : Int × Int} {n i : Nat} (hL : L.length = n) (ht : row.take (i * 2) = flatP (L.take i)) (hi : i < n) (hr : (n + 1) * 2 ≤ row.length) :
    splice (splice row (i * 2) (pcs p)) ((i + 1) * 2) (flatP (L.drop i)) = flatP (L.take i) ++ (pcs p ++ (flatP (L.drop i) ++ row.drop ((i + 1) * 2 + (n - i) * 2))) := by
  have hd : (flatP (L.drop i)).length = (n - i) * 2 := by rw [flat_len]; simp; omega
  have hq : (flatP (L.take i)).length = i * 2 := by rw [flat_len]; simp; omega
  have e : splice row (i * 2) (pcs p) = (flatP (L.take i) ++ pcs p) ++ row.drop ((i + 1) * 2) := by
    show row.take (i * 2) ++ (pcs p ++ row.drop (i * 2 + 2)) = _
    rw [ht, List.append_assoc, show (i + 1) * 2 = i * 2 + 2 by omega]
  have hq2 : (flatP (L.take i) ++ pcs p).length = (i + 1) * 2 := by rw [List.length_append, hq, pcs_len]; omega
  rw [e]
  unfold splice
  rw [List.take_append_of_le_length (by omega), List.take_of_length_le (by omega), hd, List.drop_append, List.drop_of_length_le (l := flatP (L.take i) ++ pcs p) (by omega), List.nil_append, hq2, List.drop_drop, List.append_assoc]
  congr 4
  omega
set_option maxHeartbeats 4000000 in
theorem insShift (B g n c i vb : Nat) (L : List (Int × Int)) (p : Int × Int) (w : World) (h : RwP B w (.slice (some ⟨g, 0, none⟩) n c) L) (hi : i < n) (hroom : n + 1 ≤ c) (hl : n ≤ 100) (hv : w.heap[vb]? = some (.cells #[.int .i64 p.1, .int .i64 p.2] 31 (0, 0))) (hvb : vb ≠ g) :
    Calls Try.prog 99 #[.slice (some ⟨g, 0, none⟩) n c, .int .i64 i, .slice (some ⟨vb, 0, none⟩) 1 1] w fun e w' =>
      e = .returned (.slice (some ⟨g, 0, none⟩) (n + 1) c) ∧ RwP B w' (.slice (some ⟨g, 0, none⟩) (n + 1) c) (L.take i ++ p :: L.drop i) ∧ w.grownBy w' (some g) := by
  obtain ⟨i0, hi0, hz0, hz1, hz2⟩ := info_parts infoPt
  have hsz : (Try.prog.info? 31).map (·.size) = some 2 := by rw [hi0]; simp [hz1]
  obtain ⟨hL, hB, cur, hg, hnc, hcm, hcl, ht⟩ := h.raw
  have hov : ∀ lb cb, (callFunc 105 #[.slice (some ⟨vb, 0, none⟩) 1 1, .slice (some ⟨g, (i + 1) * 2, none⟩) lb cb]).run Try.prog w = .ok (.value (.bool false)) w := fun lb cb => overI w vb 1 g ((i + 1) * 2) lb cb _ _ hvb hv hg (by rw [List.size_toArray, hcl]; omega)
  have hw1 : IntKind.i64.wrap ((i : Int) + 1) = (i : Int) + 1 := by rw [IntKind.wrap_i64]; omega
  have hw2 : IntKind.i64.wrap ((n : Int) + 1) = (n : Int) + 1 := by rw [IntKind.wrap_i64]; omega
  have hb1 : (0 : Int) ≤ (i : Int) + 1 := by omega
  have htn : ((i : Int) + 1).toNat = i + 1 := by omega
  have htm : ((n : Int) + 1).toNat = n + 1 := by omega
  have hin : i ≤ n := by omega
  have hb2 : ¬ (c = i + 1) := by omega
  have hb3 : (i : Int) ≤ (n : Int) + 1 := by omega
  have hb4 : ¬ (c = i) := by omega
  have hb5 : (n : Int) + 1 ≤ (c : Int) := by omega
  have hb6 : ¬ ((c : Int) < (n : Int) + 1) := by omega
  have hz2' : ¬ ((i : Int) = (n : Int)) := by omega
  unfold maxLen at hcm
  have HG := hide hg
  have HV := hide hv
  have HH := hide (And.intro hL (And.intro hB (And.intro hcl ht)))
  have HD : Hid ((flatP (L.drop i)).length = Nat.min (n + 1 - i) (n + 1 - (i + 1)) * 2 ∧ (∀ j v, (flatP (L.drop i))[j]? = some v → w.drew.cell? ((⟨g, i * 2, none⟩ : Addr).add j) = some v) ∧ (i + 1) * 2 + (flatP (L.drop i)).length ≤ cur.length ∧ True) := hide ⟨by rw [flat_len, List.length_drop, hL, show Nat.min (n + 1 - i) (n + 1 - (i + 1)) = n - i by show min _ _ = _; omega], fun j v hj => by
      have := h.news i (n - i) (by omega) j v (by rw [List.take_of_length_le (by rw [List.length_drop]; omega)]; exact hj)
      exact this, by rw [flat_len, List.length_drop, hL, hcl]; omega, trivial⟩
  clear hg hv h hL hB hcl ht
  go_enter Try.func99, Try.ntmps99
  go_wp2_with (simp only [hov])
  go_region_law (refine step_copyN rfl (.tmp 73) (.tmp 76) 23 23 rfl 31 2 Try.underlying23 hsz g ((i + 1) * 2) (n + 1 - (i + 1)) (c - (i + 1)) ⟨g, i * 2, none⟩ (n + 1 - i) (c - i) (by simp [Act.eval, Act.put]) (by simp [Act.eval, Act.put]) cur 31 (unhide HG) (flatP (L.drop i)) (unhide HD).1 (unhide HD).2.1 (unhide HD).2.2.1 (flat_one' _) (fun w2 g2 r2 => ?_))
  have HV2 : Hid (∀ j v, (pcs p)[j]? = some v → w2.cell? ((⟨vb, 0, none⟩ : Addr).add j) = some v) := hide (fun j v hj => by
    have k := unhide HV
    have e : w2.heap[vb]? = some (.cells #[.int .i64 p.1, .int .i64 p.2] 31 (0, 0)) := by rw [r2.block vb (Array.getElem?_eq_some_iff.1 k).1 (fun e => hvb (by cases e; rfl))]; exact k
    match j, hj with
    | 0, hj => simp [pcs] at hj; subst hj; simp [World.cell?, Addr.add, e]
    | 1, hj => simp [pcs] at hj; subst hj; simp [World.cell?, Addr.add, e]
    | j + 2, hj => simp [pcs] at hj)
  have HD2 : Hid ((pcs p).length = Nat.min 1 (n + 1 - i) * 2 ∧ i * 2 + (pcs p).length ≤ (splice cur ((i + 1) * 2) (flatP (L.drop i))).length) := hide ⟨by rw [pcs_len, show Nat.min 1 (n + 1 - i) = 1 by show min _ _ = _; omega], by rw [length_splice _ _ _ (unhide HD).2.2.1, pcs_len]; have := (unhide HD).2.2.1; rw [flat_len] at this; omega⟩
  have R2 := hide (grown_trans grown_drew r2)
  have ES : Hid (splice (splice cur ((i + 1) * 2) (flatP (L.drop i))) (i * 2) (pcs p) = flatP (L.take i) ++ (pcs p ++ (flatP (L.drop i) ++ cur.drop ((i + 1) * 2 + (n - i) * 2)))) := hide (shift_rows (unhide HH).1 (unhide HH).2.2.1 (unhide HH).2.2.2 hi hroom)
  have EZ : Hid ((splice (splice cur ((i + 1) * 2) (flatP (L.drop i))) (i * 2) (pcs p)).length = c * 2) := hide (by rw [length_splice _ _ _ (unhide HD2).2, length_splice _ _ _ (unhide HD).2.2.1]; exact (unhide HH).2.2.1)
  clear r2 HD
  generalize splice cur ((i + 1) * 2) (flatP (L.drop i)) = S1 at *
  go_wp2_with fail
  rw [run_copyN w2 23 23 _ 31 2 g (i * 2) (n + 1 - i) (c - i) ⟨vb, 0, none⟩ 1 1 S1 31 (pcs p) Try.underlying23 hsz (unhide g2) (unhide HD2).1 (unhide HV2) (unhide HD2).2 (pcs_one p)]
  have g3 := hide (setRow_heap w2 g _ (splice S1 (i * 2) (pcs p)).toArray 31 _ (unhide g2))
  have r3 : w2.grownBy (w2.setRow g (splice S1 (i * 2) (pcs p)).toArray) (some g) := grown_setRow
  generalize w2.setRow g (splice S1 (i * 2) (pcs p)).toArray = w3 at *
  have R3 := hide (grown_trans (unhide R2) r3)
  rw [unhide ES] at g3 EZ
  clear r3
  go_wp2
  go_ret
  exact ⟨rfl, put_row (unhide HH).2.1 (unhide HH).1 (by omega) hroom (by unfold maxLen; omega) (unhide g3) (unhide EZ), unhide R3⟩
theorem zero_len (k : Nat) : (Builtin.zeroCells (Value.agg #[.int .i64 0, .int .i64 0]).cells k).size = k * 2 := by simp [Builtin.zeroCells, Value.cells]
theorem vb_cells {w : World} {vb : Nat} {p : Int × Int} (e : w.heap[vb]? = some (.cells #[.int .i64 p.1, .int .i64 p.2] 31 (0, 0))) : ∀ j v, (pcs p)[j]? = some v → w.cell? ((⟨vb, 0, none⟩ : Addr).add j) = some v := fun j v hj => by
  match j, hj with
  | 0, hj => simp [pcs] at hj; subst hj; simp [World.cell?, Addr.add, e]
  | 1, hj => simp [pcs] at hj; subst hj; simp [World.cell?, Addr.add, e]
  | j + 2, hj => simp [pcs] at hj
set_option maxHeartbeats 4000000 in
theorem insGrow (B g n c i vb : Nat) (L : List (Int × Int)) (p : Int × Int) (w : World) (h : RwP B w (.slice (some ⟨g, 0, none⟩) n c) L) (hi : i < n) (hroom : c < n + 1) (hl : n ≤ 100) (hv : w.heap[vb]? = some (.cells #[.int .i64 p.1, .int .i64 p.2] 31 (0, 0))) :
    Calls Try.prog 99 #[.slice (some ⟨g, 0, none⟩) n c, .int .i64 i, .slice (some ⟨vb, 0, none⟩) 1 1] w fun e w' =>
      ∃ G, e = .returned (.slice (some ⟨w.heap.size, 0, none⟩) (n + 1) G) ∧ RwP B w' (.slice (some ⟨w.heap.size, 0, none⟩) (n + 1) G) (L.take i ++ p :: L.drop i) ∧ Below w.heap.size w w' := by
  obtain ⟨i0, hi0, hz0, hz1, hz2⟩ := info_parts infoPt
  have hsz : (Try.prog.info? 31).map (·.size) = some 2 := by rw [hi0]; simp [hz1]
  obtain ⟨hL, hB, cur, hg, hnc, hcm, hcl, ht⟩ := h.raw
  have hgw : g < w.heap.size := (Array.getElem?_eq_some_iff.1 hg).1
  have hvw : vb < w.heap.size := (Array.getElem?_eq_some_iff.1 hv).1
  have hik : i + (n + 1 - i) = n + 1 := by omega
  have hold : (Builtin.firstCells i0.size i (.slice (some ⟨g, 0, none⟩) i c)).run Try.prog w.drew = .ok (flatP (L.take i)).toArray w.drew := by
    rw [hz1]
    refine run_firstCells_some w.drew 2 i ⟨g, 0, none⟩ i c (flatP (L.take i)) (by rw [flat_len]; simp; omega) (fun j v hj => ?_)
    have := h.news 0 i (by omega) j v (by simpa using hj)
    simpa using this
  have hrz : ∀ ty, (Builtin.append_ #[23, 3] ty #[.slice (some ⟨g, 0, none⟩) i c, .int .i64 (((n + 1 - i : Nat) : Int))]).run Try.prog w = _ := fun ty => Lib.run_append_grow_zeros w 23 3 ty 31 i0 _ .i64 .i64 Try.underlying23 Try.underlying3 hi0 hz0 (some ⟨g, 0, none⟩) i c (flatP (L.take i)) hold (n + 1 - i) (by omega) (by omega) (by omega) (by omega) (by rw [hz2]; omega) (by rw [hz2, hik]; exact growslice_fits (by omega) (by omega))
  rw [hik] at hrz
  have hGn := grownCap_ge w (n + 1) c 31
  have hGm := grownCap_le_maxLen w (n + 1) c 31 (by unfold maxLen; omega)
  generalize grownCap w (n + 1) c 31 = G at *
  have HROW : Hid (∃ ROW : List Value, (flatP (L.take i)).toArray ++ Builtin.zeroCells (Value.agg #[.int .i64 0, .int .i64 0]).cells (n + 1 - i) ++ Builtin.zeroCells (Value.agg #[.int .i64 0, .int .i64 0]).cells (G - (n + 1)) = ROW.toArray ∧ ROW.take (i * 2) = flatP (L.take i) ∧ ROW.length = G * 2) := hide ⟨flatP (L.take i) ++ (Builtin.zeroCells (Value.agg #[.int .i64 0, .int .i64 0]).cells (n + 1 - i)).toList ++ (Builtin.zeroCells (Value.agg #[.int .i64 0, .int .i64 0]).cells (G - (n + 1))).toList, by simp, by
    have hq : (flatP (L.take i)).length = i * 2 := by rw [flat_len]; simp; omega
    rw [List.append_assoc, List.take_append_of_le_length (by omega), List.take_of_length_le (by omega)], by
    have hq : (flatP (L.take i)).length = i * 2 := by rw [flat_len]; simp; omega
    simp only [List.length_append, Array.length_toList, zero_len, hq]; omega⟩
  obtain ⟨ROW, eR, hR1, hR2⟩ := unhide HROW
  rw [eR] at hrz
  clear HROW eR hold
  have HR := hide (And.intro hR1 hR2)
  have W1c : Hid ((w.drew.alloc (.cells ROW.toArray 31)).heap[w.heap.size]? = some (.cells ROW.toArray 31 (0, 0)) ∧ Below w.heap.size w (w.drew.alloc (.cells ROW.toArray 31))) := hide ⟨heap_alloc_new w.drew _, (Below.refl _ _).drew.alloc (Nat.le_refl _) _⟩
  generalize w.drew.alloc (.cells ROW.toArray 31) = W1 at *
  have hkk : (n : Int) + 1 - (i : Int) = ((n + 1 - i : Nat) : Int) := by omega
  rw [← hkk] at hrz
  clear hkk
  have hw0 : IntKind.i64.wrap ((n : Int) + 1 - (i : Int)) = (n : Int) + 1 - (i : Int) := by rw [IntKind.wrap_i64]; omega
  have hw1 : IntKind.i64.wrap ((i : Int) + 1) = (i : Int) + 1 := by rw [IntKind.wrap_i64]; omega
  have hw2 : IntKind.i64.wrap ((n : Int) + 1) = (n : Int) + 1 := by rw [IntKind.wrap_i64]; omega
  have hb1 : (0 : Int) ≤ (i : Int) + 1 := by omega
  have htn : ((i : Int) + 1).toNat = i + 1 := by omega
  have hin : i ≤ n := by omega
  have hb3 : (i : Int) ≤ (n : Int) + 1 := by omega
  have hb4 : ¬ (c = i) := by omega
  have hb6 : (c : Int) < (n : Int) + 1 := by omega
  have hb7 : ¬ (G = i) := by omega
  have hb8 : ¬ (G = i + 1) := by omega
  have hb9 : (i : Int) ≤ (c : Int) := by omega
  have hbA : (i : Int) ≤ (n : Int) := by omega
  have hz2' : ¬ ((i : Int) = (n : Int)) := by omega
  have HD : Hid ((flatP (L.drop i)).length = Nat.min (n - i) (n + 1 - (i + 1)) * 2 ∧ (∀ j v, (flatP (L.drop i))[j]? = some v → w.cell? ((⟨g, i * 2, none⟩ : Addr).add j) = some v) ∧ (i + 1) * 2 + (flatP (L.drop i)).length ≤ ROW.length ∧ i * 2 + (pcs p).length ≤ ROW.length ∧ (pcs p).length = Nat.min 1 (n + 1 - i) * 2) := hide ⟨by rw [flat_len, List.length_drop, hL, show Nat.min (n - i) (n + 1 - (i + 1)) = n - i by show min _ _ = _; omega], fun j v hj => by
      have := h.news i (n - i) (by omega) j v (by rw [List.take_of_length_le (by rw [List.length_drop]; omega)]; exact hj)
      exact this, by rw [flat_len, List.length_drop, hL, hR2]; omega, by rw [pcs_len, hR2]; omega, by rw [pcs_len, show Nat.min 1 (n + 1 - i) = 1 by show min _ _ = _; omega]⟩
  unfold maxLen at hcm hGm
  have HV := hide hv
  have HH := hide (And.intro hL (And.intro hB (And.intro hcl ht)))
  clear hg hv h hL hB hcl ht hR1 hR2
  go_enter Try.func99, Try.ntmps99
  go_wp2_with (at_builtin; refine Lib.wpList_append_run _ rfl _ _ _ _ rfl _ _ rfl rfl _ _ (hrz _) ?_)
  have hvs : Hid (∀ j v, (pcs p)[j]? = some v → W1.cell? ((⟨vb, 0, none⟩ : Addr).add j) = some v) := hide (vb_cells (by rw [(unhide W1c).2.block vb hvw]; exact unhide HV))
  rw [run_copyN W1 23 23 _ 31 2 w.heap.size (i * 2) (n + 1 - i) (G - i) ⟨vb, 0, none⟩ 1 1 ROW 31 (pcs p) Try.underlying23 hsz (unhide W1c).1 (unhide HD).2.2.2.2 (unhide hvs) (unhide HD).2.2.2.1 (pcs_one p)]
  have g2 := hide (setRow_heap W1 w.heap.size _ (splice ROW (i * 2) (pcs p)).toArray 31 _ (unhide W1c).1)
  have r2 : Hid (Below w.heap.size w (W1.setRow w.heap.size (splice ROW (i * 2) (pcs p)).toArray)) := hide (below_setRow (unhide W1c).2 (Nat.le_refl _) _)
  generalize W1.setRow w.heap.size (splice ROW (i * 2) (pcs p)).toArray = W2 at *
  have HS2 : Hid (∀ j v, (flatP (L.drop i))[j]? = some v → W2.cell? ((⟨g, i * 2, none⟩ : Addr).add j) = some v) := hide (fun j v hj => by
    have k := (unhide HD).2.1 j v hj
    rw [Addr.add_lit] at k ⊢
    rw [(unhide r2).cell (p := ⟨g, i * 2 + j, none⟩) hgw]
    exact k)
  have ES : Hid (splice (splice ROW (i * 2) (pcs p)) ((i + 1) * 2) (flatP (L.drop i)) = flatP (L.take i) ++ (pcs p ++ (flatP (L.drop i) ++ ROW.drop ((i + 1) * 2 + (n - i) * 2)))) := hide (grow_rows (unhide HH).1 (unhide HR).1 hi (by rw [(unhide HR).2]; omega))
  have LE : Hid ((i + 1) * 2 + (flatP (L.drop i)).length ≤ (splice ROW (i * 2) (pcs p)).length) := hide (by rw [length_splice _ _ _ (unhide HD).2.2.2.1]; exact (unhide HD).2.2.1)
  have EZ : Hid ((splice (splice ROW (i * 2) (pcs p)) ((i + 1) * 2) (flatP (L.drop i))).length = G * 2) := hide (by rw [length_splice _ _ _ (unhide LE), length_splice _ _ _ (unhide HD).2.2.2.1]; exact (unhide HR).2)
  have HD1 : Hid ((flatP (L.drop i)).length = Nat.min (n - i) (n + 1 - (i + 1)) * 2) := hide (unhide HD).1
  clear W1c hvs HD hrz HV
  generalize splice ROW (i * 2) (pcs p) = S1 at *
  go_wp2
  go_region_law (refine step_copyN rfl (.tmp 50) (.tmp 53) 23 23 rfl 31 2 Try.underlying23 hsz w.heap.size ((i + 1) * 2) (n + 1 - (i + 1)) (G - (i + 1)) ⟨g, i * 2, none⟩ (n - i) (c - i) (by simp [Act.eval, Act.put]) (by simp [Act.eval, Act.put]) S1 31 (unhide g2) (flatP (L.drop i)) (unhide HD1) (unhide HS2) (unhide LE) (flat_one' _) (fun W3 g3 r3 => ?_))
  rw [unhide ES] at g3 EZ
  have R3 : Hid (Below w.heap.size w W3) := hide ⟨r3.os.trans (unhide r2).os, r3.tape.trans (unhide r2).tape, r3.output.trans (unhide r2).output, Nat.le_trans (unhide r2).size r3.size, fun k hk => (r3.block k (Nat.lt_of_lt_of_le hk (unhide r2).size) (fun e => by cases e; omega)).trans ((unhide r2).block k hk)⟩
  clear r3 r2
  go_wp2
  go_ret
  exact ⟨G, rfl, put_row (Nat.le_trans (unhide HH).2.1 (Nat.le_of_lt hgw)) (unhide HH).1 (by omega) hGn (by unfold maxLen; omega) (unhide g3) (unhide EZ), unhide R3⟩
set_option maxHeartbeats 4000000 in
theorem insEnd (B n vb : Nat) (a : Option Addr) (c : Nat) (L : List (Int × Int)) (p : Int × Int) (w : World) (h : RwP B w (.slice a n c) L) (hL : L.length = n) (hnc : n ≤ c) (hl : n ≤ 100) (hc : c ≤ maxLen) (hB : B ≤ w.heap.size) (hv : w.heap[vb]? = some (.cells #[.int .i64 p.1, .int .i64 p.2] 31 (0, 0))) :
    Calls Try.prog 99 #[.slice a n c, .int .i64 n, .slice (some ⟨vb, 0, none⟩) 1 1] w fun e w' =>
      ∃ v', e = .returned v' ∧ RwP B w' v' (L ++ [p]) ∧ w.grownBy w' (Value.slice a n c).ownBlock := by
  obtain ⟨i0, hi, hz0, hz1, hz2⟩ := info_parts infoPt
  unfold maxLen at hc
  have HW := hide h
  have HL := hide hL
  have HV := hide (vb_cells hv)
  clear h hL hv
  by_cases hcn : c = n
  · subst hcn
    go_enter Try.func99, Try.ntmps99
    go_wp2_with (at_builtin; refine wpList_append_own _ rfl (.tmp 23) (.tmp 24) 23 rfl B 31 i0 (.agg #[.int .i64 0, .int .i64 0]) 2 16 Try.underlying23 hi hz0 hz1 hz2 rfl (by decide) _ _ _ rfl (unhide HW).row ⟨vb, 0, none⟩ 1 1 (pcs p) rfl (pcs_len p) (unhide HV) (pcs_one p) (by rw [unhide HL]; unfold maxLen; omega) (by rw [unhide HL]; omega) hB ?_)
    intro v' w6 hown hgr _
    have X := hide (RwP.snoc hown)
    have HGR := hide hgr
    clear hown hgr
    go_wp2
    go_ret
    exact ⟨_, rfl, unhide X, unhide HGR⟩
  · have hb4 : ¬ ((c : Int) = (n : Int)) := by omega
    have hb5 : ¬ (c - n = 0) := by omega
    go_enter Try.func99, Try.ntmps99
    go_wp2_with (at_builtin; refine wpList_append_own _ rfl (.tmp 23) (.tmp 24) 23 rfl B 31 i0 (.agg #[.int .i64 0, .int .i64 0]) 2 16 Try.underlying23 hi hz0 hz1 hz2 rfl (by decide) _ _ _ rfl (unhide HW).row ⟨vb, 0, none⟩ 1 1 (pcs p) rfl (pcs_len p) (unhide HV) (pcs_one p) (by rw [unhide HL]; unfold maxLen; omega) (by rw [unhide HL]; omega) hB ?_)
    intro v' w6 hown hgr _
    have X := hide (RwP.snoc hown)
    have HGR := hide hgr
    clear hown hgr
    go_wp2
    go_ret
    exact ⟨_, rfl, unhide X, unhide HGR⟩
theorem insI (B i vb : Nat) (v : Value) (L : List (Int × Int)) (p : Int × Int) (w : World) (h : RwP B w v L) (hi : i ≤ L.length) (hl : L.length ≤ 100) (hB : B ≤ w.heap.size) (hv : w.heap[vb]? = some (.cells #[.int .i64 p.1, .int .i64 p.2] 31 (0, 0))) (hvb : v.ownBlock ≠ some vb) :
    Calls Try.prog 99 #[v, .int .i64 i, .slice (some ⟨vb, 0, none⟩) 1 1] w fun e w' =>
      ∃ v', e = .returned v' ∧ RwP B w' v' (L.take i ++ p :: L.drop i) ∧ w.grownBy w' v.ownBlock := by
  rcases h.open with ⟨rfl, rfl⟩ | ⟨g, c, rfl, h1, h2, h3, h4, h5⟩
  · obtain rfl : i = 0 := by simpa using hi
    exact insEnd B 0 vb none 0 [] p w h rfl (by omega) (by omega) (by unfold maxLen; omega) hB hv
  · by_cases e : i = L.length
    · subst e
      refine (insEnd B _ vb _ c L p w h rfl h3 hl h4 hB hv).mono ?_
      rintro e w' ⟨v', he, hr, hg⟩
      exact ⟨v', he, by simpa using hr, hg⟩
    · by_cases hroom : L.length + 1 ≤ c
      · refine (insShift B g _ c i vb L p w h (by omega) hroom hl hv (fun e => hvb (by rw [e]; rfl))).mono ?_
        rintro e w' ⟨he, hr, hg⟩
        exact ⟨_, he, hr, hg⟩
      · refine (insGrow B g _ c i vb L p w h (by omega) (by omega) hl hv).mono ?_
        rintro e w' ⟨G, he, hr, hg⟩
        exact ⟨_, he, hr, grown_below hg _⟩
end Go.Proofs.Ytgoiodhofbkkdaa
