/- Marks from greater numbers on. No condition beyond those typed. Written by mkmk12.py. -/
import Derived.Test.YtikllcoekcglcaaGreatPkR1
import Derived.Test.YtikllcoekcglcaaGreatLow
import Derived.Test.YtikllcoekcglcaaGreatPkR3
import Derived.Test.YtikllcoekcglcaaGreatEq
import Derived.ShutString
import Derived.ChangeOld
import Derived.Lib.SmallJoins
import Derived.Test.YtikllcoekcglcaaGreatFlat
import Derived.Test.YtikllcoekcglcaaGreatFlatQ
namespace Go.Proofs.YtikllcoekcglcaaGreat
open Go.RowKit
set_option linter.unusedVariables false
set_option maxRecDepth 100000
set_option linter.unusedSimpArgs false

/-- The cells of some values in a row. -/
def PAtS (w : World) (a : Option Addr) (l : List (SV × SD)) : Prop := l = [] ∨ ∃ b off, a = some ⟨b, off, none⟩ ∧ b < w.heap.size ∧ ∀ i (h : i < l.length), w.cell? ⟨b, off + i * 8, none⟩ = some (.bool l[i].1.lo.num.g) ∧ w.cell? ⟨b, off + i * 8 + 1, none⟩ = some (.slice l[i].1.lo.num.a l[i].1.lo.num.n l[i].1.lo.num.c) ∧ w.cell? ⟨b, off + i * 8 + 2, none⟩ = some (.bool l[i].1.lo.den.g) ∧ w.cell? ⟨b, off + i * 8 + 3, none⟩ = some (.slice l[i].1.lo.den.a l[i].1.lo.den.n l[i].1.lo.den.c) ∧ w.cell? ⟨b, off + i * 8 + 4, none⟩ = some (.bool l[i].1.hi.num.g) ∧ w.cell? ⟨b, off + i * 8 + 5, none⟩ = some (.slice l[i].1.hi.num.a l[i].1.hi.num.n l[i].1.hi.num.c) ∧ w.cell? ⟨b, off + i * 8 + 6, none⟩ = some (.bool l[i].1.hi.den.g) ∧ w.cell? ⟨b, off + i * 8 + 7, none⟩ = some (.slice l[i].1.hi.den.a l[i].1.hi.den.n l[i].1.hi.den.c)
theorem PAtS.later {w w' : World} {a : Option Addr} {l : List (SV × SD)} (h : PAtS w a l) (hb : Below w.heap.size w w') : PAtS w' a l := by
  rcases h with h | ⟨b, off, rfl, h1, h2⟩
  · exact .inl h
  · exact .inr ⟨b, off, rfl, Nat.lt_of_lt_of_le h1 hb.size, fun i hi => ⟨cell_later hb ((h2 i hi).1), cell_later hb ((h2 i hi).2.1), cell_later hb ((h2 i hi).2.2.1), cell_later hb ((h2 i hi).2.2.2.1), cell_later hb ((h2 i hi).2.2.2.2.1), cell_later hb ((h2 i hi).2.2.2.2.2.1), cell_later hb ((h2 i hi).2.2.2.2.2.2.1), cell_later hb ((h2 i hi).2.2.2.2.2.2.2)⟩⟩
structure PSlS (w : World) (a : Option Addr) (l : List (SV × SD)) : Prop where
  at_ : PAtS w a l
  rd : ∀ p ∈ l, AllSl w [(p.1.lo.num, p.2.lo.num), (p.1.lo.den, p.2.lo.den), (p.1.hi.num, p.2.hi.num), (p.1.hi.den, p.2.hi.den)]
theorem PSlS.later {w w' : World} {a : Option Addr} {l : List (SV × SD)} (h : PSlS w a l) (hb : Below w.heap.size w w') : PSlS w' a l := ⟨h.at_.later hb, fun p hp => (h.rd p hp).later hb⟩
/-- .. as an argument. -/
structure PArS (w : World) (a : Option Addr) (n c : Nat) (l : List (SV × SD)) : Prop where
  at_ : PAtS w a l
  rd : ∀ p ∈ l, AllAr w [(p.1.lo.num, p.2.lo.num), (p.1.lo.den, p.2.lo.den), (p.1.hi.num, p.2.hi.num), (p.1.hi.den, p.2.hi.den)]
  len : l.length = n
  cap : n ≤ c
  top : c ≤ maxLen
theorem PArS.later {w w' : World} {a : Option Addr} {n c : Nat} {l : List (SV × SD)} (h : PArS w a n c l) (hb : Below w.heap.size w w') : PArS w' a n c l := ⟨h.at_.later hb, fun p hp => (h.rd p hp).later hb, h.len, h.cap, h.top⟩
theorem PArS.sl {w : World} {a : Option Addr} {n c : Nat} {l : List (SV × SD)} (h : PArS w a n c l) : PSlS w a l := ⟨h.at_, fun p hp => (h.rd p hp).sl⟩
/-- The numbers in some values. -/
def zipPS (l : List (SV × SD)) : List (BV × BD) := l.flatMap (fun p => [(p.1.lo.num, p.2.lo.num), (p.1.lo.den, p.2.lo.den), (p.1.hi.num, p.2.hi.num), (p.1.hi.den, p.2.hi.den)])
theorem take_succS {l : List (SV × SD)} {i : Nat} (h : i < l.length) : l.take (i + 1) = l.take i ++ [l[i]] := (List.take_append_getElem h).symm

/-- Some values in a row that is the law's own, at block G; their numbers in blocks from lo to below hi. -/
structure POwS (lo hi : Nat) (w : World) (G n c : Nat) (l : List (SV × SD)) : Prop where
  row : ∃ M, w.ownsRow G 34 8 (.slice (some ⟨G, 0, none⟩) n c) n M ∧ ∀ i (h : i < l.length), M[i * 8]? = some (.bool l[i].1.lo.num.g) ∧ M[i * 8 + 1]? = some (.slice l[i].1.lo.num.a l[i].1.lo.num.n l[i].1.lo.num.c) ∧ M[i * 8 + 2]? = some (.bool l[i].1.lo.den.g) ∧ M[i * 8 + 3]? = some (.slice l[i].1.lo.den.a l[i].1.lo.den.n l[i].1.lo.den.c) ∧ M[i * 8 + 4]? = some (.bool l[i].1.hi.num.g) ∧ M[i * 8 + 5]? = some (.slice l[i].1.hi.num.a l[i].1.hi.num.n l[i].1.hi.num.c) ∧ M[i * 8 + 6]? = some (.bool l[i].1.hi.den.g) ∧ M[i * 8 + 7]? = some (.slice l[i].1.hi.den.a l[i].1.hi.den.n l[i].1.hi.den.c)
  own : AllOwn lo hi w (zipPS l)
  ar : ∀ p ∈ l, AllAr w [(p.1.lo.num, p.2.lo.num), (p.1.lo.den, p.2.lo.den), (p.1.hi.num, p.2.hi.num), (p.1.hi.den, p.2.hi.den)]
  len : l.length = n
theorem ownsRow_laterS {w w' : World} {G g n c size : Nat} {e : TypeId} {M : List Value} (h : w.ownsRow G e size (.slice (some ⟨g, 0, none⟩) n c) n M) (hb : Below w.heap.size w w') : w'.ownsRow G e size (.slice (some ⟨g, 0, none⟩) n c) n M := by
  refine ⟨h.1, ?_⟩
  rcases h.2 with ⟨h', _⟩ | ⟨g', cap, cur, hv, h1, hg, r⟩
  · simp at h'
  · refine .inr ⟨g', cap, cur, hv, h1, ?_, r⟩
    rw [hb.block g' (Array.getElem?_eq_some_iff.1 hg).1]
    exact hg
theorem POwS.later {lo hi : Nat} {w w' : World} {G n c : Nat} {l : List (SV × SD)} (h : POwS lo hi w G n c l) (hb : Below w.heap.size w w') : POwS lo hi w' G n c l := by
  obtain ⟨M, hr, hM⟩ := h.row
  exact ⟨⟨M, ownsRow_laterS hr hb, hM⟩, h.own.later hb, fun p hp => (h.ar p hp).later hb, h.len⟩
theorem POwS.arg {lo hi : Nat} {w : World} {G n c : Nat} {l : List (SV × SD)} (h : POwS lo hi w G n c l) : PArS w (some ⟨G, 0, none⟩) n c l := by
  obtain ⟨M, hr, hM⟩ := h.row
  have hl := h.len
  have h2 := hr.2
  rcases h2 with ⟨h', _⟩ | ⟨g', cap, cur, hv, h1, hg, r1, r2, r3⟩
  · simp at h'
  simp only [Value.slice.injEq, Option.some.injEq, Addr.mk.injEq, and_true, true_and] at hv
  obtain ⟨rfl, rfl⟩ := hv
  refine ⟨.inr ⟨G, 0, rfl, (Array.getElem?_eq_some_iff.1 hg).1, fun i hi => ?_⟩, h.ar, hl, r1, r2⟩
  have hc := hM i hi
  refine ⟨?_, ?_, ?_, ?_, ?_, ?_, ?_, ?_⟩ <;> rw [Nat.zero_add, hr.cellAt _ (by omega)]
  · exact hc.1
  · exact hc.2.1
  · exact hc.2.2.1
  · exact hc.2.2.2.1
  · exact hc.2.2.2.2.1
  · exact hc.2.2.2.2.2.1
  · exact hc.2.2.2.2.2.2.1
  · exact hc.2.2.2.2.2.2.2
theorem Tryz.info34 : (Tryz.prog.info? 34).map (fun i => (i.zero, i.size, i.bytes)) = some (some (.agg #[.bool false, .slice none 0 0, .bool false, .slice none 0 0, .bool false, .slice none 0 0, .bool false, .slice none 0 0]), 8, 128) := by kernel_rfl
end Go.Proofs.YtikllcoekcglcaaGreat
namespace Go.Proofs.YtikllcoekcglcaaGreat
open Go.RowKit
set_option linter.unusedVariables false
set_option maxRecDepth 100000
set_option linter.unusedSimpArgs false

/-- At most 2 limbs each; a good fraction of so few. -/
def smk (K : Nat) (d : QD) : Bool := decide (d.num.xs.length ≤ K) && decide (d.den.xs.length ≤ K)
def sm2 (d : QD) : Bool := decide (d.num.xs.length ≤ 2) && decide (d.den.xs.length ≤ 2)
def gF (d : QD) : Bool := sm2 d && gQ d
def gPt2 (d : SD) : Bool := gF d.lo && gF d.hi
def many (n : Nat) : Bool := decide (1 ≤ n) && decide (n ≤ 5)
def gCv (l : List SD) : Bool := many l.length && l.all gPt2
def lgP (d : SD) : Bool := !sm2 d.lo || !sm2 d.hi
def bdP (d : SD) : Bool := !gQ d.lo || !gQ d.hi
theorem gCv_parts (l : List SD) : gCv l = ((many l.length && !l.any lgP) && !l.any bdP) := by
  unfold gCv
  have h : l.all gPt2 = (!l.any lgP && !l.any bdP) := by
    induction l with
    | nil => rfl
    | cons d l ih =>
      simp only [List.all_cons, List.any_cons, ih]
      unfold gPt2 gF lgP bdP
      cases sm2 d.lo <;> cases sm2 d.hi <;> cases gQ d.lo <;> cases gQ d.hi <;> simp
  rw [h, Bool.and_assoc]

theorem inLk (q : QV) (d : QD) (K : Nat) (w : World) (h : AllAr w [(q.num, d.num), (q.den, d.den)]) : Calls Tryz.prog 168 #[.agg #[.bool q.num.g, .slice q.num.a q.num.n q.num.c, .bool q.den.g, .slice q.den.a q.den.n q.den.c], .int .i64 (K : Nat)] w fun e w' => e = .returned (.bool (smk K d)) ∧ Below w.heap.size w w' := by
  unfold smk
  rw [h.head.ar.len, h.tail.head.ar.len]
  exact inL q K w
theorem inL2 (q : QV) (d : QD) (w : World) (h : AllAr w [(q.num, d.num), (q.den, d.den)]) : Calls Tryz.prog 168 #[.agg #[.bool q.num.g, .slice q.num.a q.num.n q.num.c, .bool q.den.g, .slice q.den.a q.den.n q.den.c], .int .i64 2] w fun e w' => e = .returned (.bool (sm2 d)) ∧ Below w.heap.size w w' := inLk q d 2 w h
theorem badI2 (q : QV) (d : QD) (w : World) (h : AllAr w [(q.num, d.num), (q.den, d.den)]) : Calls Tryz.prog 178 #[.agg #[.bool q.num.g, .slice q.num.a q.num.n q.num.c, .bool q.den.g, .slice q.den.a q.den.n q.den.c]] w fun e w' => e = .returned (.bool (!gQ d)) ∧ Below w.heap.size w w' := by
  have H1 := hide h
  clear h
  have B0 := hide (show Below w.heap.size w (w.alloc (.cells #[.bool q.num.g, .slice q.num.a q.num.n q.num.c, .bool q.den.g, .slice q.den.a q.den.n q.den.c] 28)) from ((Below.refl _ _).alloc (by simp) _))
  go_enter Tryz.func178, Tryz.ntmps178
  go_wp2_with fail
  refine (goodQI q d _ ((unhide H1).later (unhide B0))).mono ?_
  rintro e w1 ⟨rfl, hb⟩
  have HB := hide (below_on (unhide B0) hb)
  clear hb
  go_wp2
  go_ret
  exact ⟨rfl, unhide HB⟩

set_option maxHeartbeats 2000000 in
theorem inPI (v : SV) (d : SD) (K : Nat) (w : World) (h : AllAr w [(v.lo.num, d.lo.num), (v.lo.den, d.lo.den), (v.hi.num, d.hi.num), (v.hi.den, d.hi.den)]) : Calls Tryz.prog 237 #[.agg #[.bool v.lo.num.g, .slice v.lo.num.a v.lo.num.n v.lo.num.c, .bool v.lo.den.g, .slice v.lo.den.a v.lo.den.n v.lo.den.c, .bool v.hi.num.g, .slice v.hi.num.a v.hi.num.n v.hi.num.c, .bool v.hi.den.g, .slice v.hi.den.a v.hi.den.n v.hi.den.c], .int .i64 (K : Nat)] w fun e w' => e = .returned (.bool (smk K d.lo && smk K d.hi)) ∧ Below w.heap.size w w' := by
  have HA := hide (show AllAr w [(v.lo.num, d.lo.num), (v.lo.den, d.lo.den)] from AllAr.cons h.head (AllAr.cons h.tail.head (AllAr.nil _)))
  have HC := hide (show AllAr w [(v.hi.num, d.hi.num), (v.hi.den, d.hi.den)] from AllAr.cons h.tail.tail.head (AllAr.cons h.tail.tail.tail.head (AllAr.nil _)))
  clear h
  have C1 := hide (fun w1 (k : AllAr w1 [(v.lo.num, d.lo.num), (v.lo.den, d.lo.den)]) => inLk v.lo d.lo K w1 k)
  have C2 := hide (fun w1 (k : AllAr w1 [(v.hi.num, d.hi.num), (v.hi.den, d.hi.den)]) => inLk v.hi d.hi K w1 k)
  
  cases hp : smk K d.lo
  · rw [hp] at C1
    have B0 := hide (show Below w.heap.size w (w.alloc (.cells #[.bool v.lo.num.g, .slice v.lo.num.a v.lo.num.n v.lo.num.c, .bool v.lo.den.g, .slice v.lo.den.a v.lo.den.n v.lo.den.c, .bool v.hi.num.g, .slice v.hi.num.a v.hi.num.n v.hi.num.c, .bool v.hi.den.g, .slice v.hi.den.a v.hi.den.n v.hi.den.c] 34)) from ((Below.refl _ _).alloc (by simp) _))
    go_enter Tryz.func237, Tryz.ntmps237
    go_wp2_with fail
    refine (unhide C1 _ ((unhide HA).later (unhide B0))).mono ?_
    rintro e w1 ⟨rfl, hb⟩
    have HB := hide (below_on (unhide B0) hb)
    clear hb
    go_wp2
    go_ret
    exact ⟨rfl, unhide HB⟩
  · rw [hp] at C1
    have B0 := hide (show Below w.heap.size w (w.alloc (.cells #[.bool v.lo.num.g, .slice v.lo.num.a v.lo.num.n v.lo.num.c, .bool v.lo.den.g, .slice v.lo.den.a v.lo.den.n v.lo.den.c, .bool v.hi.num.g, .slice v.hi.num.a v.hi.num.n v.hi.num.c, .bool v.hi.den.g, .slice v.hi.den.a v.hi.den.n v.hi.den.c] 34)) from ((Below.refl _ _).alloc (by simp) _))
    go_enter Tryz.func237, Tryz.ntmps237
    go_wp2_with fail
    refine (unhide C1 _ ((unhide HA).later (unhide B0))).mono ?_
    rintro e w1 ⟨rfl, hb⟩
    have k0_4 : w1.cell? ⟨w.heap.size, 4, none⟩ = some (.bool v.hi.num.g) := cell_later hb (by simp [go_sem])
    have k0_5 : w1.cell? ⟨w.heap.size, 5, none⟩ = some (.slice v.hi.num.a v.hi.num.n v.hi.num.c) := cell_later hb (by simp [go_sem])
    have k0_6 : w1.cell? ⟨w.heap.size, 6, none⟩ = some (.bool v.hi.den.g) := cell_later hb (by simp [go_sem])
    have k0_7 : w1.cell? ⟨w.heap.size, 7, none⟩ = some (.slice v.hi.den.a v.hi.den.n v.hi.den.c) := cell_later hb (by simp [go_sem])
    have HB := hide (below_on (unhide B0) hb)
    clear hb
    go_wp2_with fail
    refine (unhide C2 _ ((unhide HC).later (unhide HB))).mono ?_
    rintro e w2 ⟨rfl, hb⟩
    clear k0_4 k0_5 k0_6 k0_7
    replace HB := hide (below_on (unhide HB) hb)
    clear hb
    go_wp2
    go_ret
    exact ⟨rfl, unhide HB⟩

set_option maxHeartbeats 2000000 in
theorem longP (v : SV) (d : SD) (w : World) (h : AllAr w [(v.lo.num, d.lo.num), (v.lo.den, d.lo.den), (v.hi.num, d.hi.num), (v.hi.den, d.hi.den)]) : Calls Tryz.prog 176 #[.agg #[.bool v.lo.num.g, .slice v.lo.num.a v.lo.num.n v.lo.num.c, .bool v.lo.den.g, .slice v.lo.den.a v.lo.den.n v.lo.den.c, .bool v.hi.num.g, .slice v.hi.num.a v.hi.num.n v.hi.num.c, .bool v.hi.den.g, .slice v.hi.den.a v.hi.den.n v.hi.den.c]] w fun e w' => e = .returned (.bool (lgP d)) ∧ Below w.heap.size w w' := by
  have EB : lgP d = !(smk 2 d.lo && smk 2 d.hi) := by unfold lgP; rw [show smk 2 d.lo = sm2 d.lo from rfl, show smk 2 d.hi = sm2 d.hi from rfl, Bool.not_and]
  have HA := hide h
  clear h
  have B0 := hide (show Below w.heap.size w (w.alloc (.cells #[.bool v.lo.num.g, .slice v.lo.num.a v.lo.num.n v.lo.num.c, .bool v.lo.den.g, .slice v.lo.den.a v.lo.den.n v.lo.den.c, .bool v.hi.num.g, .slice v.hi.num.a v.hi.num.n v.hi.num.c, .bool v.hi.den.g, .slice v.hi.den.a v.hi.den.n v.hi.den.c] 34)) from ((Below.refl _ _).alloc (by simp) _))
  go_enter Tryz.func176, Tryz.ntmps176
  go_wp2_with fail
  refine (inPI v d 2 _ ((unhide HA).later (unhide B0))).mono ?_
  rintro e w1 ⟨rfl, hb⟩
  have HB := hide (below_on (unhide B0) hb)
  clear hb
  go_wp2
  go_ret
  exact ⟨by rw [EB, Bool.not_and]; rfl, unhide HB⟩

set_option maxHeartbeats 2000000 in
theorem badP (v : SV) (d : SD) (w : World) (h : AllAr w [(v.lo.num, d.lo.num), (v.lo.den, d.lo.den), (v.hi.num, d.hi.num), (v.hi.den, d.hi.den)]) : Calls Tryz.prog 97 #[.agg #[.bool v.lo.num.g, .slice v.lo.num.a v.lo.num.n v.lo.num.c, .bool v.lo.den.g, .slice v.lo.den.a v.lo.den.n v.lo.den.c, .bool v.hi.num.g, .slice v.hi.num.a v.hi.num.n v.hi.num.c, .bool v.hi.den.g, .slice v.hi.den.a v.hi.den.n v.hi.den.c]] w fun e w' => e = .returned (.bool (bdP d)) ∧ Below w.heap.size w w' := by
  have HA := hide (show AllAr w [(v.lo.num, d.lo.num), (v.lo.den, d.lo.den)] from AllAr.cons h.head (AllAr.cons h.tail.head (AllAr.nil _)))
  have HC := hide (show AllAr w [(v.hi.num, d.hi.num), (v.hi.den, d.hi.den)] from AllAr.cons h.tail.tail.head (AllAr.cons h.tail.tail.tail.head (AllAr.nil _)))
  clear h
  have C1 := hide (fun w1 (k : AllAr w1 [(v.lo.num, d.lo.num), (v.lo.den, d.lo.den)]) => badI2 v.lo d.lo w1 k)
  have C2 := hide (fun w1 (k : AllAr w1 [(v.hi.num, d.hi.num), (v.hi.den, d.hi.den)]) => badI2 v.hi d.hi w1 k)
  unfold bdP
  cases hp : (!gQ d.lo)
  · rw [hp] at C1
    have B0 := hide (show Below w.heap.size w (w.alloc (.cells #[.bool v.lo.num.g, .slice v.lo.num.a v.lo.num.n v.lo.num.c, .bool v.lo.den.g, .slice v.lo.den.a v.lo.den.n v.lo.den.c, .bool v.hi.num.g, .slice v.hi.num.a v.hi.num.n v.hi.num.c, .bool v.hi.den.g, .slice v.hi.den.a v.hi.den.n v.hi.den.c] 34)) from ((Below.refl _ _).alloc (by simp) _))
    go_enter Tryz.func97, Tryz.ntmps97
    go_wp2_with fail
    refine (unhide C1 _ ((unhide HA).later (unhide B0))).mono ?_
    rintro e w1 ⟨rfl, hb⟩
    have k0_4 : w1.cell? ⟨w.heap.size, 4, none⟩ = some (.bool v.hi.num.g) := cell_later hb (by simp [go_sem])
    have k0_5 : w1.cell? ⟨w.heap.size, 5, none⟩ = some (.slice v.hi.num.a v.hi.num.n v.hi.num.c) := cell_later hb (by simp [go_sem])
    have k0_6 : w1.cell? ⟨w.heap.size, 6, none⟩ = some (.bool v.hi.den.g) := cell_later hb (by simp [go_sem])
    have k0_7 : w1.cell? ⟨w.heap.size, 7, none⟩ = some (.slice v.hi.den.a v.hi.den.n v.hi.den.c) := cell_later hb (by simp [go_sem])
    have HB := hide (below_on (unhide B0) hb)
    clear hb
    go_wp2_with fail
    refine (unhide C2 _ ((unhide HC).later (unhide HB))).mono ?_
    rintro e w2 ⟨rfl, hb⟩
    clear k0_4 k0_5 k0_6 k0_7
    replace HB := hide (below_on (unhide HB) hb)
    clear hb
    go_wp2
    go_ret
    exact ⟨rfl, unhide HB⟩
  · rw [hp] at C1
    have B0 := hide (show Below w.heap.size w (w.alloc (.cells #[.bool v.lo.num.g, .slice v.lo.num.a v.lo.num.n v.lo.num.c, .bool v.lo.den.g, .slice v.lo.den.a v.lo.den.n v.lo.den.c, .bool v.hi.num.g, .slice v.hi.num.a v.hi.num.n v.hi.num.c, .bool v.hi.den.g, .slice v.hi.den.a v.hi.den.n v.hi.den.c] 34)) from ((Below.refl _ _).alloc (by simp) _))
    go_enter Tryz.func97, Tryz.ntmps97
    go_wp2_with fail
    refine (unhide C1 _ ((unhide HA).later (unhide B0))).mono ?_
    rintro e w1 ⟨rfl, hb⟩
    have HB := hide (below_on (unhide B0) hb)
    clear hb
    go_wp2
    go_ret
    exact ⟨rfl, unhide HB⟩

theorem goodDI (q : QV) (d : QD) (w : World) (h : AllAr w [(q.num, d.num), (q.den, d.den)]) : Calls Tryz.prog 84 #[.agg #[.bool q.num.g, .slice q.num.a q.num.n q.num.c, .bool q.den.g, .slice q.den.a q.den.n q.den.c]] w fun e w' => e = .returned (.bool (gF d)) ∧ Below w.heap.size w w' := by
  have H1 := hide h
  clear h
  have C1 := hide (fun w1 (k : AllAr w1 [(q.num, d.num), (q.den, d.den)]) => inL2 q d w1 k)
  unfold gF
  cases hp : sm2 d
  · rw [hp] at C1
    have B0 := hide (show Below w.heap.size w (w.alloc (.cells #[.bool q.num.g, .slice q.num.a q.num.n q.num.c, .bool q.den.g, .slice q.den.a q.den.n q.den.c] 28)) from ((Below.refl _ _).alloc (by simp) _))
    go_enter Tryz.func84, Tryz.ntmps84
    go_wp2_with fail
    refine (unhide C1 _ ((unhide H1).later (unhide B0))).mono ?_
    rintro e w1 ⟨rfl, hb⟩
    have HB := hide (below_on (unhide B0) hb)
    clear hb
    go_wp2
    go_ret
    exact ⟨rfl, unhide HB⟩
  · rw [hp] at C1
    have B0 := hide (show Below w.heap.size w (w.alloc (.cells #[.bool q.num.g, .slice q.num.a q.num.n q.num.c, .bool q.den.g, .slice q.den.a q.den.n q.den.c] 28)) from ((Below.refl _ _).alloc (by simp) _))
    go_enter Tryz.func84, Tryz.ntmps84
    go_wp2_with fail
    refine (unhide C1 _ ((unhide H1).later (unhide B0))).mono ?_
    rintro e w1 ⟨rfl, hb⟩
    have k0_0 : w1.cell? ⟨w.heap.size, 0, none⟩ = some (.bool q.num.g) := cell_later hb (by simp [go_sem])
    have k0_1 : w1.cell? ⟨w.heap.size, 1, none⟩ = some (.slice q.num.a q.num.n q.num.c) := cell_later hb (by simp [go_sem])
    have k0_2 : w1.cell? ⟨w.heap.size, 2, none⟩ = some (.bool q.den.g) := cell_later hb (by simp [go_sem])
    have k0_3 : w1.cell? ⟨w.heap.size, 3, none⟩ = some (.slice q.den.a q.den.n q.den.c) := cell_later hb (by simp [go_sem])
    have HB := hide (below_on (unhide B0) hb)
    clear hb
    go_wp2_with fail
    refine (goodQI q d _ ((unhide H1).later (unhide HB))).mono ?_
    rintro e w2 ⟨rfl, hb⟩
    clear k0_0 k0_1 k0_2 k0_3
    replace HB := hide (below_on (unhide HB) hb)
    clear hb
    go_wp2
    go_ret
    exact ⟨rfl, unhide HB⟩

set_option maxHeartbeats 2000000 in
theorem smallS2 (q : QV) (d : QD) (w : World) (h : AllAr w [(q.num, d.num), (q.den, d.den)]) : Calls Tryz.prog 87 #[.agg #[.bool q.num.g, .slice q.num.a q.num.n q.num.c, .bool q.den.g, .slice q.den.a q.den.n q.den.c]] w fun e w' => e = .returned (.bool (gF d)) ∧ Below w.heap.size w w' := by
  have e1 := h.head.ar.len
  have e2 := h.tail.head.ar.len
  have m1 := Nat.le_trans h.head.ar.cap h.head.ar.top
  have m2 := Nat.le_trans h.tail.head.ar.cap h.tail.head.ar.top
  have H1 := hide h
  clear h
  unfold maxLen at m1 m2
  unfold gF sm2
  rw [e1, e2]
  have HB0 := hide (show ∀ o, Below w.heap.size w (w.alloc o) from fun o => (Below.refl _ _).alloc (Nat.le_refl _) _)
  by_cases c1 : q.num.n ≤ 2
  · by_cases c2 : q.den.n ≤ 2
    · rw [decide_eq_true c1, decide_eq_true c2]
      have b1 : (q.num.n : Int) ≤ 2 := by omega
      have b2 : (q.den.n : Int) ≤ 2 := by omega
      have B0 := hide (show Below w.heap.size w (w.alloc (.cells #[.bool q.num.g, .slice q.num.a q.num.n q.num.c, .bool q.den.g, .slice q.den.a q.den.n q.den.c] 28)) from ((Below.refl _ _).alloc (by simp) _))
      go_enter Tryz.func87, Tryz.ntmps87
      go_wp2_with fail
      refine (goodQS q d _ ((unhide H1).later (unhide B0))).mono ?_
      rintro e w1 ⟨rfl, hb⟩
      have HB := hide (below_on (unhide B0) hb)
      clear hb
      go_wp2
      go_ret
      exact ⟨rfl, unhide HB⟩
    · rw [decide_eq_true c1, decide_eq_false c2]
      have b1 : (q.num.n : Int) ≤ 2 := by omega
      have b2 : ¬ ((q.den.n : Int) ≤ 2) := by omega
      have b3 : (2 : Int) < (q.den.n : Int) := by omega
      go_enter Tryz.func87, Tryz.ntmps87
      go_wp2
      go_ret
      exact ⟨rfl, unhide HB0 _⟩
  · rw [decide_eq_false c1]
    have b1 : ¬ ((q.num.n : Int) ≤ 2) := by omega
    have b3 : (2 : Int) < (q.num.n : Int) := by omega
    go_enter Tryz.func87, Tryz.ntmps87
    go_wp2
    go_ret
    exact ⟨rfl, unhide HB0 _⟩

set_option maxHeartbeats 2000000 in
theorem ptS2 (v : SV) (d : SD) (w : World) (h : AllAr w [(v.lo.num, d.lo.num), (v.lo.den, d.lo.den), (v.hi.num, d.hi.num), (v.hi.den, d.hi.den)]) : Calls Tryz.prog 98 #[.agg #[.bool v.lo.num.g, .slice v.lo.num.a v.lo.num.n v.lo.num.c, .bool v.lo.den.g, .slice v.lo.den.a v.lo.den.n v.lo.den.c, .bool v.hi.num.g, .slice v.hi.num.a v.hi.num.n v.hi.num.c, .bool v.hi.den.g, .slice v.hi.den.a v.hi.den.n v.hi.den.c]] w fun e w' => e = .returned (.bool (gPt2 d)) ∧ Below w.heap.size w w' := by
  have HA := hide (show AllAr w [(v.lo.num, d.lo.num), (v.lo.den, d.lo.den)] from AllAr.cons h.head (AllAr.cons h.tail.head (AllAr.nil _)))
  have HC := hide (show AllAr w [(v.hi.num, d.hi.num), (v.hi.den, d.hi.den)] from AllAr.cons h.tail.tail.head (AllAr.cons h.tail.tail.tail.head (AllAr.nil _)))
  clear h
  have C1 := hide (fun w1 (k : AllAr w1 [(v.lo.num, d.lo.num), (v.lo.den, d.lo.den)]) => smallS2 v.lo d.lo w1 k)
  have C2 := hide (fun w1 (k : AllAr w1 [(v.hi.num, d.hi.num), (v.hi.den, d.hi.den)]) => smallS2 v.hi d.hi w1 k)
  unfold gPt2
  cases hp : gF d.lo
  · rw [hp] at C1
    have B0 := hide (show Below w.heap.size w (w.alloc (.cells #[.bool v.lo.num.g, .slice v.lo.num.a v.lo.num.n v.lo.num.c, .bool v.lo.den.g, .slice v.lo.den.a v.lo.den.n v.lo.den.c, .bool v.hi.num.g, .slice v.hi.num.a v.hi.num.n v.hi.num.c, .bool v.hi.den.g, .slice v.hi.den.a v.hi.den.n v.hi.den.c] 34)) from ((Below.refl _ _).alloc (by simp) _))
    go_enter Tryz.func98, Tryz.ntmps98
    go_wp2_with fail
    refine (unhide C1 _ ((unhide HA).later (unhide B0))).mono ?_
    rintro e w1 ⟨rfl, hb⟩
    have HB := hide (below_on (unhide B0) hb)
    clear hb
    go_wp2
    go_ret
    exact ⟨rfl, unhide HB⟩
  · rw [hp] at C1
    have B0 := hide (show Below w.heap.size w (w.alloc (.cells #[.bool v.lo.num.g, .slice v.lo.num.a v.lo.num.n v.lo.num.c, .bool v.lo.den.g, .slice v.lo.den.a v.lo.den.n v.lo.den.c, .bool v.hi.num.g, .slice v.hi.num.a v.hi.num.n v.hi.num.c, .bool v.hi.den.g, .slice v.hi.den.a v.hi.den.n v.hi.den.c] 34)) from ((Below.refl _ _).alloc (by simp) _))
    go_enter Tryz.func98, Tryz.ntmps98
    go_wp2_with fail
    refine (unhide C1 _ ((unhide HA).later (unhide B0))).mono ?_
    rintro e w1 ⟨rfl, hb⟩
    have k0_4 : w1.cell? ⟨w.heap.size, 4, none⟩ = some (.bool v.hi.num.g) := cell_later hb (by simp [go_sem])
    have k0_5 : w1.cell? ⟨w.heap.size, 5, none⟩ = some (.slice v.hi.num.a v.hi.num.n v.hi.num.c) := cell_later hb (by simp [go_sem])
    have k0_6 : w1.cell? ⟨w.heap.size, 6, none⟩ = some (.bool v.hi.den.g) := cell_later hb (by simp [go_sem])
    have k0_7 : w1.cell? ⟨w.heap.size, 7, none⟩ = some (.slice v.hi.den.a v.hi.den.n v.hi.den.c) := cell_later hb (by simp [go_sem])
    have HB := hide (below_on (unhide B0) hb)
    clear hb
    go_wp2_with fail
    refine (unhide C2 _ ((unhide HC).later (unhide HB))).mono ?_
    rintro e w2 ⟨rfl, hb⟩
    clear k0_4 k0_5 k0_6 k0_7
    replace HB := hide (below_on (unhide HB) hb)
    clear hb
    go_wp2
    go_ret
    exact ⟨rfl, unhide HB⟩

set_option maxHeartbeats 2000000 in
theorem indexBdP (a : Option Addr) (n c : Nat) (l : List (SV × SD)) (w : World) (h : PArS w a n c l) :
    Calls Tryz.prog 177 #[.slice a n c, .func (Fn.func 97) #[] #[]] w fun e w' => ∃ r : Int, e = .returned (.int .i64 r) ∧ Below w.heap.size w w' ∧ decide (0 ≤ r) = (l.map Prod.snd).any bdP ∧ -1 ≤ r ∧ r ≤ 9223372036854775807 := by
  have HS := hide h
  have HN := hide h.len
  have hm : n ≤ maxLen := Nat.le_trans h.cap h.top
  clear h
  unfold maxLen at hm
  go_enter Tryz.func177, Tryz.ntmps177
  go_wp2
  go_loopw [8] (fun iv wr => ∃ (i : Nat), i ≤ n ∧ iv = .int .i64 i ∧ Hid (((l.take i).map Prod.snd).any bdP = false) ∧ Hid (Below w.heap.size w wr)) (fun iv _ => n - (intOf iv).toNat)
  case atStart => exact ⟨0, Nat.zero_le _, rfl, hide (by simp), hide (Below.refl _ _)⟩
  case round =>
    obtain ⟨i, hi, rfl, EA, HB⟩ := hrel
    by_cases hlt : i < n
    · have hlt' : (i : Int) < (n : Int) := by omega
      rcases (unhide HS).at_ with e | ⟨b, off, rfl, hb, hc⟩
      · exact absurd (unhide HN) (by rw [e]; simp; omega)
      have e0 := hc i (by rw [unhide HN]; exact hlt)
      obtain ⟨y, hy⟩ : ∃ y, y = l[i]'(by rw [unhide HN]; exact hlt) := ⟨_, rfl⟩
      rw [← hy] at e0
      have MY : Hid (y ∈ l) := hide (by rw [hy]; exact List.getElem_mem _)
      have EY := hide hy
      clear hy
      have E0 : wr.cell? ⟨b, off + i * 8, none⟩ = some (.bool y.1.lo.num.g) := ((unhide HB).cell (p := ⟨b, off + i * 8, none⟩) hb).trans (e0.1)
      have E1 : wr.cell? ⟨b, off + i * 8 + 1, none⟩ = some (.slice y.1.lo.num.a y.1.lo.num.n y.1.lo.num.c) := ((unhide HB).cell (p := ⟨b, off + i * 8 + 1, none⟩) hb).trans (e0.2.1)
      have E2 : wr.cell? ⟨b, off + i * 8 + 2, none⟩ = some (.bool y.1.lo.den.g) := ((unhide HB).cell (p := ⟨b, off + i * 8 + 2, none⟩) hb).trans (e0.2.2.1)
      have E3 : wr.cell? ⟨b, off + i * 8 + 3, none⟩ = some (.slice y.1.lo.den.a y.1.lo.den.n y.1.lo.den.c) := ((unhide HB).cell (p := ⟨b, off + i * 8 + 3, none⟩) hb).trans (e0.2.2.2.1)
      have E4 : wr.cell? ⟨b, off + i * 8 + 4, none⟩ = some (.bool y.1.hi.num.g) := ((unhide HB).cell (p := ⟨b, off + i * 8 + 4, none⟩) hb).trans (e0.2.2.2.2.1)
      have E5 : wr.cell? ⟨b, off + i * 8 + 5, none⟩ = some (.slice y.1.hi.num.a y.1.hi.num.n y.1.hi.num.c) := ((unhide HB).cell (p := ⟨b, off + i * 8 + 5, none⟩) hb).trans (e0.2.2.2.2.2.1)
      have E6 : wr.cell? ⟨b, off + i * 8 + 6, none⟩ = some (.bool y.1.hi.den.g) := ((unhide HB).cell (p := ⟨b, off + i * 8 + 6, none⟩) hb).trans (e0.2.2.2.2.2.2.1)
      have E7 : wr.cell? ⟨b, off + i * 8 + 7, none⟩ = some (.slice y.1.hi.den.a y.1.hi.den.n y.1.hi.den.c) := ((unhide HB).cell (p := ⟨b, off + i * 8 + 7, none⟩) hb).trans (e0.2.2.2.2.2.2.2)
      clear e0 hc
      have TK : Hid (l.take (i + 1) = l.take i ++ [y]) := hide (by have h := take_succS (l := l) (i := i) (by rw [unhide HN]; exact hlt); rw [← unhide EY] at h; exact h)
      have R1 := hide (((unhide HS).rd y (unhide MY)).later (unhide HB))
      have CC := hide (fun w1 (k : AllAr w1 [(y.1.lo.num, y.2.lo.num), (y.1.lo.den, y.2.lo.den), (y.1.hi.num, y.2.hi.num), (y.1.hi.den, y.2.hi.den)]) => badP y.1 y.2 w1 k)
      cases hp : bdP y.2
      · rw [hp] at CC
        go_wp2_with fail
        refine (unhide CC _ (unhide R1)).mono ?_
        rintro e w1 ⟨rfl, hb1⟩
        have HB1 := hide (below_on (unhide HB) hb1)
        clear hb1 E0 E1 E2 E3 E4 E5 E6 E7 CC
        go_wp2
        go_roundw
        case rel => exact ⟨i + 1, by omega, by go_num, hide (by rw [unhide TK, List.map_append, List.any_append, unhide EA]; simp only [List.map_cons, List.map_nil, List.any_cons, List.any_nil]; rw [hp]; rfl), HB1⟩
        case measure => simp [intOf]; omega
      · rw [hp] at CC
        have AN := hide (show (l.map Prod.snd).any bdP = true from List.any_eq_true.2 ⟨y.2, List.mem_map.2 ⟨y, unhide MY, rfl⟩, hp⟩)
        go_wp2_with fail
        refine (unhide CC _ (unhide R1)).mono ?_
        rintro e w1 ⟨rfl, hb1⟩
        have HB1 := hide (below_on (unhide HB) hb1)
        clear hb1 E0 E1 E2 E3 E4 E5 E6 E7 CC
        go_wp2
        go_ret
        exact ⟨_, rfl, unhide HB1, by rw [unhide AN]; exact decide_eq_true (by omega), by omega, by omega⟩
    · obtain rfl : i = n := by omega
      have EL := hide (show (l.map Prod.snd).any bdP = false from by have := unhide EA; rw [← unhide HN, List.take_length] at this; exact this)
      go_wp2
      go_ret
      exact ⟨_, rfl, unhide HB, by rw [unhide EL]; rfl, by omega, by omega⟩
theorem containsBdP (a : Option Addr) (n c : Nat) (l : List (SV × SD)) (w : World) (h : PArS w a n c l) :
    Calls Tryz.prog 96 #[.slice a n c, .func (Fn.func 97) #[] #[]] w fun e w' => e = .returned (.bool ((l.map Prod.snd).any bdP)) ∧ Below w.heap.size w w' := by
  have HS := hide h
  clear h
  go_enter Tryz.func96, Tryz.ntmps96
  go_wp2_with fail
  refine (indexBdP a n c l _ (unhide HS)).mono ?_
  rintro e w1 ⟨r, rfl, hb1, hr, r0, r1⟩
  have HB1 := hide hb1
  have HR := hide hr
  clear hb1 hr
  go_wp2
  go_ret
  exact ⟨by rw [← unhide HR]; rfl, unhide HB1⟩

set_option maxHeartbeats 2000000 in
theorem indexLgP (a : Option Addr) (n c : Nat) (l : List (SV × SD)) (w : World) (h : PArS w a n c l) :
    Calls Tryz.prog 177 #[.slice a n c, .func (Fn.func 176) #[] #[]] w fun e w' => ∃ r : Int, e = .returned (.int .i64 r) ∧ Below w.heap.size w w' ∧ decide (0 ≤ r) = (l.map Prod.snd).any lgP ∧ -1 ≤ r ∧ r ≤ 9223372036854775807 := by
  have HS := hide h
  have HN := hide h.len
  have hm : n ≤ maxLen := Nat.le_trans h.cap h.top
  clear h
  unfold maxLen at hm
  go_enter Tryz.func177, Tryz.ntmps177
  go_wp2
  go_loopw [8] (fun iv wr => ∃ (i : Nat), i ≤ n ∧ iv = .int .i64 i ∧ Hid (((l.take i).map Prod.snd).any lgP = false) ∧ Hid (Below w.heap.size w wr)) (fun iv _ => n - (intOf iv).toNat)
  case atStart => exact ⟨0, Nat.zero_le _, rfl, hide (by simp), hide (Below.refl _ _)⟩
  case round =>
    obtain ⟨i, hi, rfl, EA, HB⟩ := hrel
    by_cases hlt : i < n
    · have hlt' : (i : Int) < (n : Int) := by omega
      rcases (unhide HS).at_ with e | ⟨b, off, rfl, hb, hc⟩
      · exact absurd (unhide HN) (by rw [e]; simp; omega)
      have e0 := hc i (by rw [unhide HN]; exact hlt)
      obtain ⟨y, hy⟩ : ∃ y, y = l[i]'(by rw [unhide HN]; exact hlt) := ⟨_, rfl⟩
      rw [← hy] at e0
      have MY : Hid (y ∈ l) := hide (by rw [hy]; exact List.getElem_mem _)
      have EY := hide hy
      clear hy
      have E0 : wr.cell? ⟨b, off + i * 8, none⟩ = some (.bool y.1.lo.num.g) := ((unhide HB).cell (p := ⟨b, off + i * 8, none⟩) hb).trans (e0.1)
      have E1 : wr.cell? ⟨b, off + i * 8 + 1, none⟩ = some (.slice y.1.lo.num.a y.1.lo.num.n y.1.lo.num.c) := ((unhide HB).cell (p := ⟨b, off + i * 8 + 1, none⟩) hb).trans (e0.2.1)
      have E2 : wr.cell? ⟨b, off + i * 8 + 2, none⟩ = some (.bool y.1.lo.den.g) := ((unhide HB).cell (p := ⟨b, off + i * 8 + 2, none⟩) hb).trans (e0.2.2.1)
      have E3 : wr.cell? ⟨b, off + i * 8 + 3, none⟩ = some (.slice y.1.lo.den.a y.1.lo.den.n y.1.lo.den.c) := ((unhide HB).cell (p := ⟨b, off + i * 8 + 3, none⟩) hb).trans (e0.2.2.2.1)
      have E4 : wr.cell? ⟨b, off + i * 8 + 4, none⟩ = some (.bool y.1.hi.num.g) := ((unhide HB).cell (p := ⟨b, off + i * 8 + 4, none⟩) hb).trans (e0.2.2.2.2.1)
      have E5 : wr.cell? ⟨b, off + i * 8 + 5, none⟩ = some (.slice y.1.hi.num.a y.1.hi.num.n y.1.hi.num.c) := ((unhide HB).cell (p := ⟨b, off + i * 8 + 5, none⟩) hb).trans (e0.2.2.2.2.2.1)
      have E6 : wr.cell? ⟨b, off + i * 8 + 6, none⟩ = some (.bool y.1.hi.den.g) := ((unhide HB).cell (p := ⟨b, off + i * 8 + 6, none⟩) hb).trans (e0.2.2.2.2.2.2.1)
      have E7 : wr.cell? ⟨b, off + i * 8 + 7, none⟩ = some (.slice y.1.hi.den.a y.1.hi.den.n y.1.hi.den.c) := ((unhide HB).cell (p := ⟨b, off + i * 8 + 7, none⟩) hb).trans (e0.2.2.2.2.2.2.2)
      clear e0 hc
      have TK : Hid (l.take (i + 1) = l.take i ++ [y]) := hide (by have h := take_succS (l := l) (i := i) (by rw [unhide HN]; exact hlt); rw [← unhide EY] at h; exact h)
      have R1 := hide (((unhide HS).rd y (unhide MY)).later (unhide HB))
      have CC := hide (fun w1 (k : AllAr w1 [(y.1.lo.num, y.2.lo.num), (y.1.lo.den, y.2.lo.den), (y.1.hi.num, y.2.hi.num), (y.1.hi.den, y.2.hi.den)]) => longP y.1 y.2 w1 k)
      cases hp : lgP y.2
      · rw [hp] at CC
        go_wp2_with fail
        refine (unhide CC _ (unhide R1)).mono ?_
        rintro e w1 ⟨rfl, hb1⟩
        have HB1 := hide (below_on (unhide HB) hb1)
        clear hb1 E0 E1 E2 E3 E4 E5 E6 E7 CC
        go_wp2
        go_roundw
        case rel => exact ⟨i + 1, by omega, by go_num, hide (by rw [unhide TK, List.map_append, List.any_append, unhide EA]; simp only [List.map_cons, List.map_nil, List.any_cons, List.any_nil]; rw [hp]; rfl), HB1⟩
        case measure => simp [intOf]; omega
      · rw [hp] at CC
        have AN := hide (show (l.map Prod.snd).any lgP = true from List.any_eq_true.2 ⟨y.2, List.mem_map.2 ⟨y, unhide MY, rfl⟩, hp⟩)
        go_wp2_with fail
        refine (unhide CC _ (unhide R1)).mono ?_
        rintro e w1 ⟨rfl, hb1⟩
        have HB1 := hide (below_on (unhide HB) hb1)
        clear hb1 E0 E1 E2 E3 E4 E5 E6 E7 CC
        go_wp2
        go_ret
        exact ⟨_, rfl, unhide HB1, by rw [unhide AN]; exact decide_eq_true (by omega), by omega, by omega⟩
    · obtain rfl : i = n := by omega
      have EL := hide (show (l.map Prod.snd).any lgP = false from by have := unhide EA; rw [← unhide HN, List.take_length] at this; exact this)
      go_wp2
      go_ret
      exact ⟨_, rfl, unhide HB, by rw [unhide EL]; rfl, by omega, by omega⟩
theorem containsLgP (a : Option Addr) (n c : Nat) (l : List (SV × SD)) (w : World) (h : PArS w a n c l) :
    Calls Tryz.prog 96 #[.slice a n c, .func (Fn.func 176) #[] #[]] w fun e w' => e = .returned (.bool ((l.map Prod.snd).any lgP)) ∧ Below w.heap.size w w' := by
  have HS := hide h
  clear h
  go_enter Tryz.func96, Tryz.ntmps96
  go_wp2_with fail
  refine (indexLgP a n c l _ (unhide HS)).mono ?_
  rintro e w1 ⟨r, rfl, hb1, hr, r0, r1⟩
  have HB1 := hide hb1
  have HR := hide hr
  clear hb1 hr
  go_wp2
  go_ret
  exact ⟨by rw [← unhide HR]; rfl, unhide HB1⟩

theorem manyI (n : Nat) (w : World) (hm : n ≤ maxLen) : Calls Tryz.prog 127 #[.int .i64 (n : Int)] w fun e w' => e = .returned (.bool (many n)) ∧ w' = w := by
  unfold maxLen at hm
  unfold many
  by_cases c1 : 1 ≤ n
  · have b1 : (1 : Int) ≤ (n : Int) := by omega
    by_cases c2 : n ≤ 5
    · have b2 : (n : Int) ≤ 5 := by omega
      rw [decide_eq_true c1, decide_eq_true c2]
      go_enter Tryz.func127, Tryz.ntmps127
      go_wp2
      go_ret
      exact ⟨rfl, rfl⟩
    · have b2 : ¬ ((n : Int) ≤ 5) := by omega
      have b3 : (5 : Int) < (n : Int) := by omega
      rw [decide_eq_true c1, decide_eq_false c2]
      go_enter Tryz.func127, Tryz.ntmps127
      go_wp2
      go_ret
      exact ⟨rfl, rfl⟩
  · have b1 : ¬ ((1 : Int) ≤ (n : Int)) := by omega
    have b3 : (n : Int) < 1 := by omega
    rw [decide_eq_false c1]
    go_enter Tryz.func127, Tryz.ntmps127
    go_wp2
    go_ret
    exact ⟨rfl, rfl⟩

set_option maxHeartbeats 2000000 in
theorem curveF (a : Option Addr) (n c : Nat) (l : List (SV × SD)) (w : World) (h : PArS w a n c l) :
    Calls Tryz.prog 95 #[.slice a n c] w fun e w' => e = .returned (.bool (many n && !(l.map Prod.snd).any lgP)) ∧ Below w.heap.size w w' := by
  have HS := hide h
  have hm : n ≤ maxLen := Nat.le_trans h.cap h.top
  have hl := h.len
  clear h
  have C1 := hide (fun w1 (k : PArS w1 a n c l) => manyI n w1 hm)
  have C2 := hide (fun w1 (k : PArS w1 a n c l) => containsLgP a n c l w1 k)
  unfold maxLen at hm
  obtain ⟨z, hz⟩ : ∃ z, z = (l.map Prod.snd).any lgP := ⟨_, rfl⟩
  rw [← hz] at C2 ⊢
  clear hz
  cases hp : many n
  · rw [hp] at C1
    go_enter Tryz.func95, Tryz.ntmps95
    go_wp2_with fail
    refine (unhide C1 _ (unhide HS)).mono ?_
    rintro e w1 ⟨rfl, rfl⟩
    go_wp2
    go_ret
    exact ⟨rfl, Below.refl _ _⟩
  · rw [hp] at C1
    go_enter Tryz.func95, Tryz.ntmps95
    go_wp2_with fail
    refine (unhide C1 _ (unhide HS)).mono ?_
    rintro e w1 ⟨rfl, rfl⟩
    go_wp2_with fail
    refine (unhide C2 _ (unhide HS)).mono ?_
    rintro e w2 ⟨rfl, hb⟩
    have HB := hide hb
    clear hb
    go_wp2
    go_ret
    exact ⟨rfl, unhide HB⟩

set_option maxHeartbeats 2000000 in
theorem GoodCI (a : Option Addr) (n c : Nat) (l : List (SV × SD)) (w : World) (h : PArS w a n c l) :
    Calls Tryz.prog 24 #[.slice a n c] w fun e w' => e = .returned (.bool (gCv (l.map Prod.snd))) ∧ Below w.heap.size w w' := by
  have HS := hide h
  have hm : n ≤ maxLen := Nat.le_trans h.cap h.top
  have hl := h.len
  clear h
  have C1 := hide (fun w1 (k : PArS w1 a n c l) => curveF a n c l w1 k)
  have C2 := hide (fun w1 (k : PArS w1 a n c l) => containsBdP a n c l w1 k)
  rw [gCv_parts, List.length_map, hl]
  clear hl
  obtain ⟨z, hz⟩ : ∃ z, z = (l.map Prod.snd).any bdP := ⟨_, rfl⟩
  rw [← hz] at C2 ⊢
  clear hz
  cases hp : (many n && !(l.map Prod.snd).any lgP)
  · rw [hp] at C1
    go_enter Tryz.func24, Tryz.ntmps24
    go_wp2_with fail
    refine (unhide C1 _ (unhide HS)).mono ?_
    rintro e w1 ⟨rfl, hb⟩
    have HB := hide hb
    clear hb
    go_wp2
    go_ret
    exact ⟨rfl, unhide HB⟩
  · rw [hp] at C1
    go_enter Tryz.func24, Tryz.ntmps24
    go_wp2_with fail
    refine (unhide C1 _ (unhide HS)).mono ?_
    rintro e w1 ⟨rfl, hb⟩
    have HB := hide hb
    clear hb
    go_wp2_with fail
    refine (unhide C2 _ ((unhide HS).later (unhide HB))).mono ?_
    rintro e w2 ⟨rfl, hb⟩
    replace HB := hide (below_on (unhide HB) hb)
    clear hb
    go_wp2
    go_ret
    exact ⟨rfl, unhide HB⟩

end Go.Proofs.YtikllcoekcglcaaGreat
namespace Go.Proofs.YtikllcoekcglcaaGreat
open Go.RowKit
set_option linter.unusedVariables false
set_option maxRecDepth 100000
set_option linter.unusedSimpArgs false

set_option maxHeartbeats 2000000 in
theorem spanFits_v (v : SV) (w : World) (m1 : v.lo.den.n ≤ maxLen) (m2 : v.hi.den.n ≤ maxLen) :
    Calls Tryz.prog 92 #[.agg #[.bool v.lo.num.g, .slice v.lo.num.a v.lo.num.n v.lo.num.c, .bool v.lo.den.g, .slice v.lo.den.a v.lo.den.n v.lo.den.c, .bool v.hi.num.g, .slice v.hi.num.a v.hi.num.n v.hi.num.c, .bool v.hi.den.g, .slice v.hi.den.a v.hi.den.n v.hi.den.c]] w fun e w' => e = .returned (.bool (decide ((v.lo.den.n ≠ 0 ∧ v.lo.num.n ≤ 40 ∧ v.lo.den.n ≤ 40) ∧ (v.hi.den.n ≠ 0 ∧ v.hi.num.n ≤ 40 ∧ v.hi.den.n ≤ 40)))) ∧ Below w.heap.size w w' := by
  cases c1 : decide (v.lo.den.n ≠ 0 ∧ v.lo.num.n ≤ 40 ∧ v.lo.den.n ≤ 40)
  · have F1 := hide (fun w1 => fitsI v.lo w1 m1)
    have F2 := hide (fun w1 => fitsI v.hi w1 m2)
    rw [c1] at F1
    rw [show decide ((v.lo.den.n ≠ 0 ∧ v.lo.num.n ≤ 40 ∧ v.lo.den.n ≤ 40) ∧ (v.hi.den.n ≠ 0 ∧ v.hi.num.n ≤ 40 ∧ v.hi.den.n ≤ 40)) = false from decide_eq_false (fun h => absurd h.1 (of_decide_eq_false c1))]
    clear c1
    have B0 := hide (show Below w.heap.size w (w.alloc (.cells #[.bool v.lo.num.g, .slice v.lo.num.a v.lo.num.n v.lo.num.c, .bool v.lo.den.g, .slice v.lo.den.a v.lo.den.n v.lo.den.c, .bool v.hi.num.g, .slice v.hi.num.a v.hi.num.n v.hi.num.c, .bool v.hi.den.g, .slice v.hi.den.a v.hi.den.n v.hi.den.c] 34)) from ((Below.refl _ _).alloc (by simp) _))
    go_enter Tryz.func92, Tryz.ntmps92
    go_wp2_with fail
    refine (unhide F1 _).mono ?_
    rintro e w1 ⟨rfl, hb⟩
    have HB := hide (below_on (unhide B0) hb)
    clear hb
    go_wp2
    go_ret
    exact ⟨rfl, unhide HB⟩
  cases c2 : decide (v.hi.den.n ≠ 0 ∧ v.hi.num.n ≤ 40 ∧ v.hi.den.n ≤ 40)
  · have F1 := hide (fun w1 => fitsI v.lo w1 m1)
    have F2 := hide (fun w1 => fitsI v.hi w1 m2)
    rw [c1] at F1
    rw [c2] at F2
    rw [show decide ((v.lo.den.n ≠ 0 ∧ v.lo.num.n ≤ 40 ∧ v.lo.den.n ≤ 40) ∧ (v.hi.den.n ≠ 0 ∧ v.hi.num.n ≤ 40 ∧ v.hi.den.n ≤ 40)) = false from decide_eq_false (fun h => absurd h.2 (of_decide_eq_false c2))]
    clear c1 c2
    have B0 := hide (show Below w.heap.size w (w.alloc (.cells #[.bool v.lo.num.g, .slice v.lo.num.a v.lo.num.n v.lo.num.c, .bool v.lo.den.g, .slice v.lo.den.a v.lo.den.n v.lo.den.c, .bool v.hi.num.g, .slice v.hi.num.a v.hi.num.n v.hi.num.c, .bool v.hi.den.g, .slice v.hi.den.a v.hi.den.n v.hi.den.c] 34)) from ((Below.refl _ _).alloc (by simp) _))
    go_enter Tryz.func92, Tryz.ntmps92
    go_wp2_with fail
    refine (unhide F1 _).mono ?_
    rintro e w1 ⟨rfl, hb⟩
    have k0_4 : w1.cell? ⟨w.heap.size, 4, none⟩ = some (.bool v.hi.num.g) := cell_later hb (by simp [go_sem])
    have k0_5 : w1.cell? ⟨w.heap.size, 5, none⟩ = some (.slice v.hi.num.a v.hi.num.n v.hi.num.c) := cell_later hb (by simp [go_sem])
    have k0_6 : w1.cell? ⟨w.heap.size, 6, none⟩ = some (.bool v.hi.den.g) := cell_later hb (by simp [go_sem])
    have k0_7 : w1.cell? ⟨w.heap.size, 7, none⟩ = some (.slice v.hi.den.a v.hi.den.n v.hi.den.c) := cell_later hb (by simp [go_sem])
    have HB := hide (below_on (unhide B0) hb)
    clear hb
    go_wp2_with fail
    refine (unhide F2 _).mono ?_
    rintro e w2 ⟨rfl, hb⟩
    clear k0_4 k0_5 k0_6 k0_7
    replace HB := hide (below_on (unhide HB) hb)
    clear hb
    go_wp2
    go_ret
    exact ⟨rfl, unhide HB⟩
  · have F1 := hide (fun w1 => fitsI v.lo w1 m1)
    have F2 := hide (fun w1 => fitsI v.hi w1 m2)
    rw [c1] at F1
    rw [c2] at F2
    rw [show decide ((v.lo.den.n ≠ 0 ∧ v.lo.num.n ≤ 40 ∧ v.lo.den.n ≤ 40) ∧ (v.hi.den.n ≠ 0 ∧ v.hi.num.n ≤ 40 ∧ v.hi.den.n ≤ 40)) = true from decide_eq_true ⟨of_decide_eq_true c1, of_decide_eq_true c2⟩]
    clear c1 c2
    have B0 := hide (show Below w.heap.size w (w.alloc (.cells #[.bool v.lo.num.g, .slice v.lo.num.a v.lo.num.n v.lo.num.c, .bool v.lo.den.g, .slice v.lo.den.a v.lo.den.n v.lo.den.c, .bool v.hi.num.g, .slice v.hi.num.a v.hi.num.n v.hi.num.c, .bool v.hi.den.g, .slice v.hi.den.a v.hi.den.n v.hi.den.c] 34)) from ((Below.refl _ _).alloc (by simp) _))
    go_enter Tryz.func92, Tryz.ntmps92
    go_wp2_with fail
    refine (unhide F1 _).mono ?_
    rintro e w1 ⟨rfl, hb⟩
    have k0_4 : w1.cell? ⟨w.heap.size, 4, none⟩ = some (.bool v.hi.num.g) := cell_later hb (by simp [go_sem])
    have k0_5 : w1.cell? ⟨w.heap.size, 5, none⟩ = some (.slice v.hi.num.a v.hi.num.n v.hi.num.c) := cell_later hb (by simp [go_sem])
    have k0_6 : w1.cell? ⟨w.heap.size, 6, none⟩ = some (.bool v.hi.den.g) := cell_later hb (by simp [go_sem])
    have k0_7 : w1.cell? ⟨w.heap.size, 7, none⟩ = some (.slice v.hi.den.a v.hi.den.n v.hi.den.c) := cell_later hb (by simp [go_sem])
    have HB := hide (below_on (unhide B0) hb)
    clear hb
    go_wp2_with fail
    refine (unhide F2 _).mono ?_
    rintro e w2 ⟨rfl, hb⟩
    clear k0_4 k0_5 k0_6 k0_7
    replace HB := hide (below_on (unhide HB) hb)
    clear hb
    go_wp2
    go_ret
    exact ⟨rfl, unhide HB⟩

def RetSin (lo hi : Nat) (w : World) (U : SD → Bool → Prop) (e : Ending) (w' : World) : Prop := ∃ (v : SV) (d : SD) (ok : Bool), e = .returned (.tuple #[.agg #[.bool v.lo.num.g, .slice v.lo.num.a v.lo.num.n v.lo.num.c, .bool v.lo.den.g, .slice v.lo.den.a v.lo.den.n v.lo.den.c, .bool v.hi.num.g, .slice v.hi.num.a v.hi.num.n v.hi.num.c, .bool v.hi.den.g, .slice v.hi.den.a v.hi.den.n v.hi.den.c], .bool ok]) ∧ Below w.heap.size w w' ∧ AllOwn lo hi w' [(v.lo.num, d.lo.num), (v.lo.den, d.lo.den), (v.hi.num, d.hi.num), (v.hi.den, d.hi.den)] ∧ U d ok
set_option maxHeartbeats 2000000 in
theorem whereS_yes (v : SV) (d : SD) (lo hi : Nat) (w : World) (ho : AllOwn lo hi w [(v.lo.num, d.lo.num), (v.lo.den, d.lo.den), (v.hi.num, d.hi.num), (v.hi.den, d.hi.den)]) (hh : hi ≤ w.heap.size) (m1 : v.lo.den.n ≤ maxLen) (m2 : v.hi.den.n ≤ maxLen) (hf : decide ((v.lo.den.n ≠ 0 ∧ v.lo.num.n ≤ 40 ∧ v.lo.den.n ≤ 40) ∧ (v.hi.den.n ≠ 0 ∧ v.hi.num.n ≤ 40 ∧ v.hi.den.n ≤ 40)) = true) :
    Calls Tryz.prog 90 #[.agg #[.bool v.lo.num.g, .slice v.lo.num.a v.lo.num.n v.lo.num.c, .bool v.lo.den.g, .slice v.lo.den.a v.lo.den.n v.lo.den.c, .bool v.hi.num.g, .slice v.hi.num.a v.hi.num.n v.hi.num.c, .bool v.hi.den.g, .slice v.hi.den.a v.hi.den.n v.hi.den.c], .func (Fn.func 92) #[] #[]] w (RetSin lo hi w (fun d' ok => d' = d ∧ ok = true)) := by
  have HO := hide ho
  clear ho
  have HF := hide (fun w1 => spanFits_v v w1 m1 m2)
  rw [hf] at HF
  clear hf
  have B0 := hide (show Below w.heap.size w ((w.alloc (.cells #[.bool v.lo.num.g, .slice v.lo.num.a v.lo.num.n v.lo.num.c, .bool v.lo.den.g, .slice v.lo.den.a v.lo.den.n v.lo.den.c, .bool v.hi.num.g, .slice v.hi.num.a v.hi.num.n v.hi.num.c, .bool v.hi.den.g, .slice v.hi.den.a v.hi.den.n v.hi.den.c] 34)).alloc (.cells #[.bool false, .slice none 0 0, .bool false, .slice none 0 0, .bool false, .slice none 0 0, .bool false, .slice none 0 0] 34)) from (((Below.refl _ _).alloc (by simp) _).alloc (by simp) _))
  go_enter Tryz.func90, Tryz.ntmps90
  go_wp2_with fail
  refine (unhide HF _).mono ?_
  rintro e w1 ⟨rfl, hb⟩
  have s1 : w.heap.size + 1 < w1.heap.size := by have := hb.size; simp at this; omega
  have k0_0 : w1.cell? ⟨w.heap.size, 0, none⟩ = some (.bool v.lo.num.g) := cell_later hb (by simp [go_sem])
  have k0_1 : w1.cell? ⟨w.heap.size, 1, none⟩ = some (.slice v.lo.num.a v.lo.num.n v.lo.num.c) := cell_later hb (by simp [go_sem])
  have k0_2 : w1.cell? ⟨w.heap.size, 2, none⟩ = some (.bool v.lo.den.g) := cell_later hb (by simp [go_sem])
  have k0_3 : w1.cell? ⟨w.heap.size, 3, none⟩ = some (.slice v.lo.den.a v.lo.den.n v.lo.den.c) := cell_later hb (by simp [go_sem])
  have k0_4 : w1.cell? ⟨w.heap.size, 4, none⟩ = some (.bool v.hi.num.g) := cell_later hb (by simp [go_sem])
  have k0_5 : w1.cell? ⟨w.heap.size, 5, none⟩ = some (.slice v.hi.num.a v.hi.num.n v.hi.num.c) := cell_later hb (by simp [go_sem])
  have k0_6 : w1.cell? ⟨w.heap.size, 6, none⟩ = some (.bool v.hi.den.g) := cell_later hb (by simp [go_sem])
  have k0_7 : w1.cell? ⟨w.heap.size, 7, none⟩ = some (.slice v.hi.den.a v.hi.den.n v.hi.den.c) := cell_later hb (by simp [go_sem])
  have k1_0 : w1.cell? ⟨w.heap.size + 1, 0, none⟩ = some (.bool false) := cell_later hb (by simp [go_sem])
  have k1_1 : w1.cell? ⟨w.heap.size + 1, 1, none⟩ = some (.slice none 0 0) := cell_later hb (by simp [go_sem])
  have k1_2 : w1.cell? ⟨w.heap.size + 1, 2, none⟩ = some (.bool false) := cell_later hb (by simp [go_sem])
  have k1_3 : w1.cell? ⟨w.heap.size + 1, 3, none⟩ = some (.slice none 0 0) := cell_later hb (by simp [go_sem])
  have k1_4 : w1.cell? ⟨w.heap.size + 1, 4, none⟩ = some (.bool false) := cell_later hb (by simp [go_sem])
  have k1_5 : w1.cell? ⟨w.heap.size + 1, 5, none⟩ = some (.slice none 0 0) := cell_later hb (by simp [go_sem])
  have k1_6 : w1.cell? ⟨w.heap.size + 1, 6, none⟩ = some (.bool false) := cell_later hb (by simp [go_sem])
  have k1_7 : w1.cell? ⟨w.heap.size + 1, 7, none⟩ = some (.slice none 0 0) := cell_later hb (by simp [go_sem])
  have z1 : ∀ o, w1.frozen? ⟨w.heap.size + 1, o, none⟩ = false := fun o => frozen_later hb (by simp) (by simp [go_sem])
  have HB := hide (below_on (unhide B0) hb)
  clear hb
  go_wp2
  refine bodyPost_ret (v := .tuple #[.agg #[.bool v.lo.num.g, .slice v.lo.num.a v.lo.num.n v.lo.num.c, .bool v.lo.den.g, .slice v.lo.den.a v.lo.den.n v.lo.den.c, .bool v.hi.num.g, .slice v.hi.num.a v.hi.num.n v.hi.num.c, .bool v.hi.den.g, .slice v.hi.den.a v.hi.den.n v.hi.den.c], .bool true]) (by simp [results, Tryz.results90, go_sem, k1_0, k1_1, k1_2, k1_3, k1_4, k1_5, k1_6, k1_7]) rfl ?_
  have bt := metS_but (w5 := w1) (v := v) (G := w.heap.size + 1)
  exact ⟨v, d, true, rfl, bt.below (unhide HB) (by omega) (unhide HB).size, ((unhide HO).later (unhide HB)).but bt (.inl (by omega)), rfl, rfl⟩

set_option maxHeartbeats 2000000 in
theorem whereS_no (v : SV) (lo hi : Nat) (w : World) (m1 : v.lo.den.n ≤ maxLen) (m2 : v.hi.den.n ≤ maxLen) (hf : decide ((v.lo.den.n ≠ 0 ∧ v.lo.num.n ≤ 40 ∧ v.lo.den.n ≤ 40) ∧ (v.hi.den.n ≠ 0 ∧ v.hi.num.n ≤ 40 ∧ v.hi.den.n ≤ 40)) = false) :
    Calls Tryz.prog 90 #[.agg #[.bool v.lo.num.g, .slice v.lo.num.a v.lo.num.n v.lo.num.c, .bool v.lo.den.g, .slice v.lo.den.a v.lo.den.n v.lo.den.c, .bool v.hi.num.g, .slice v.hi.num.a v.hi.num.n v.hi.num.c, .bool v.hi.den.g, .slice v.hi.den.a v.hi.den.n v.hi.den.c], .func (Fn.func 92) #[] #[]] w (RetSin lo hi w (fun d' ok => d' = (⟨⟨⟨false, []⟩, ⟨false, []⟩⟩, ⟨⟨false, []⟩, ⟨false, []⟩⟩⟩ : SD) ∧ ok = false)) := by
  have HF := hide (fun w1 => spanFits_v v w1 m1 m2)
  rw [hf] at HF
  clear hf
  have B0 := hide (show Below w.heap.size w ((w.alloc (.cells #[.bool v.lo.num.g, .slice v.lo.num.a v.lo.num.n v.lo.num.c, .bool v.lo.den.g, .slice v.lo.den.a v.lo.den.n v.lo.den.c, .bool v.hi.num.g, .slice v.hi.num.a v.hi.num.n v.hi.num.c, .bool v.hi.den.g, .slice v.hi.den.a v.hi.den.n v.hi.den.c] 34)).alloc (.cells #[.bool false, .slice none 0 0, .bool false, .slice none 0 0, .bool false, .slice none 0 0, .bool false, .slice none 0 0] 34)) from (((Below.refl _ _).alloc (by simp) _).alloc (by simp) _))
  go_enter Tryz.func90, Tryz.ntmps90
  go_wp2_with fail
  refine (unhide HF _).mono ?_
  rintro e w1 ⟨rfl, hb⟩
  have s1 : w.heap.size + 1 < w1.heap.size := by have := hb.size; simp at this; omega
  have k1_0 : w1.cell? ⟨w.heap.size + 1, 0, none⟩ = some (.bool false) := cell_later hb (by simp [go_sem])
  have k1_1 : w1.cell? ⟨w.heap.size + 1, 1, none⟩ = some (.slice none 0 0) := cell_later hb (by simp [go_sem])
  have k1_2 : w1.cell? ⟨w.heap.size + 1, 2, none⟩ = some (.bool false) := cell_later hb (by simp [go_sem])
  have k1_3 : w1.cell? ⟨w.heap.size + 1, 3, none⟩ = some (.slice none 0 0) := cell_later hb (by simp [go_sem])
  have k1_4 : w1.cell? ⟨w.heap.size + 1, 4, none⟩ = some (.bool false) := cell_later hb (by simp [go_sem])
  have k1_5 : w1.cell? ⟨w.heap.size + 1, 5, none⟩ = some (.slice none 0 0) := cell_later hb (by simp [go_sem])
  have k1_6 : w1.cell? ⟨w.heap.size + 1, 6, none⟩ = some (.bool false) := cell_later hb (by simp [go_sem])
  have k1_7 : w1.cell? ⟨w.heap.size + 1, 7, none⟩ = some (.slice none 0 0) := cell_later hb (by simp [go_sem])
  have z1 : ∀ o, w1.frozen? ⟨w.heap.size + 1, o, none⟩ = false := fun o => frozen_later hb (by simp) (by simp [go_sem])
  have HB := hide (below_on (unhide B0) hb)
  clear hb
  go_upto_region 3 with fail
  have hb : Below w1.heap.size w1 (w1.alloc (.cells #[.bool false, .slice none 0 0, .bool false, .slice none 0 0, .bool false, .slice none 0 0, .bool false, .slice none 0 0] 34)) := ((Below.refl _ _).alloc (by simp) _)
  have k2_0 : (w1.alloc (.cells #[.bool false, .slice none 0 0, .bool false, .slice none 0 0, .bool false, .slice none 0 0, .bool false, .slice none 0 0] 34)).cell? ⟨w1.heap.size, 0, none⟩ = some (.bool false) := by simp [go_sem]
  have k2_1 : (w1.alloc (.cells #[.bool false, .slice none 0 0, .bool false, .slice none 0 0, .bool false, .slice none 0 0, .bool false, .slice none 0 0] 34)).cell? ⟨w1.heap.size, 1, none⟩ = some (.slice none 0 0) := by simp [go_sem]
  have k2_2 : (w1.alloc (.cells #[.bool false, .slice none 0 0, .bool false, .slice none 0 0, .bool false, .slice none 0 0, .bool false, .slice none 0 0] 34)).cell? ⟨w1.heap.size, 2, none⟩ = some (.bool false) := by simp [go_sem]
  have k2_3 : (w1.alloc (.cells #[.bool false, .slice none 0 0, .bool false, .slice none 0 0, .bool false, .slice none 0 0, .bool false, .slice none 0 0] 34)).cell? ⟨w1.heap.size, 3, none⟩ = some (.slice none 0 0) := by simp [go_sem]
  have k2_4 : (w1.alloc (.cells #[.bool false, .slice none 0 0, .bool false, .slice none 0 0, .bool false, .slice none 0 0, .bool false, .slice none 0 0] 34)).cell? ⟨w1.heap.size, 4, none⟩ = some (.bool false) := by simp [go_sem]
  have k2_5 : (w1.alloc (.cells #[.bool false, .slice none 0 0, .bool false, .slice none 0 0, .bool false, .slice none 0 0, .bool false, .slice none 0 0] 34)).cell? ⟨w1.heap.size, 5, none⟩ = some (.slice none 0 0) := by simp [go_sem]
  have k2_6 : (w1.alloc (.cells #[.bool false, .slice none 0 0, .bool false, .slice none 0 0, .bool false, .slice none 0 0, .bool false, .slice none 0 0] 34)).cell? ⟨w1.heap.size, 6, none⟩ = some (.bool false) := by simp [go_sem]
  have k2_7 : (w1.alloc (.cells #[.bool false, .slice none 0 0, .bool false, .slice none 0 0, .bool false, .slice none 0 0, .bool false, .slice none 0 0] 34)).cell? ⟨w1.heap.size, 7, none⟩ = some (.slice none 0 0) := by simp [go_sem]
  replace k1_0 : (w1.alloc (.cells #[.bool false, .slice none 0 0, .bool false, .slice none 0 0, .bool false, .slice none 0 0, .bool false, .slice none 0 0] 34)).cell? ⟨w.heap.size + 1, 0, none⟩ = some (.bool false) := (ca_other k1_0)
  replace k1_1 : (w1.alloc (.cells #[.bool false, .slice none 0 0, .bool false, .slice none 0 0, .bool false, .slice none 0 0, .bool false, .slice none 0 0] 34)).cell? ⟨w.heap.size + 1, 1, none⟩ = some (.slice none 0 0) := (ca_other k1_1)
  replace k1_2 : (w1.alloc (.cells #[.bool false, .slice none 0 0, .bool false, .slice none 0 0, .bool false, .slice none 0 0, .bool false, .slice none 0 0] 34)).cell? ⟨w.heap.size + 1, 2, none⟩ = some (.bool false) := (ca_other k1_2)
  replace k1_3 : (w1.alloc (.cells #[.bool false, .slice none 0 0, .bool false, .slice none 0 0, .bool false, .slice none 0 0, .bool false, .slice none 0 0] 34)).cell? ⟨w.heap.size + 1, 3, none⟩ = some (.slice none 0 0) := (ca_other k1_3)
  replace k1_4 : (w1.alloc (.cells #[.bool false, .slice none 0 0, .bool false, .slice none 0 0, .bool false, .slice none 0 0, .bool false, .slice none 0 0] 34)).cell? ⟨w.heap.size + 1, 4, none⟩ = some (.bool false) := (ca_other k1_4)
  replace k1_5 : (w1.alloc (.cells #[.bool false, .slice none 0 0, .bool false, .slice none 0 0, .bool false, .slice none 0 0, .bool false, .slice none 0 0] 34)).cell? ⟨w.heap.size + 1, 5, none⟩ = some (.slice none 0 0) := (ca_other k1_5)
  replace k1_6 : (w1.alloc (.cells #[.bool false, .slice none 0 0, .bool false, .slice none 0 0, .bool false, .slice none 0 0, .bool false, .slice none 0 0] 34)).cell? ⟨w.heap.size + 1, 6, none⟩ = some (.bool false) := (ca_other k1_6)
  replace k1_7 : (w1.alloc (.cells #[.bool false, .slice none 0 0, .bool false, .slice none 0 0, .bool false, .slice none 0 0, .bool false, .slice none 0 0] 34)).cell? ⟨w.heap.size + 1, 7, none⟩ = some (.slice none 0 0) := (ca_other k1_7)
  replace z1 : ∀ o, (w1.alloc (.cells #[.bool false, .slice none 0 0, .bool false, .slice none 0 0, .bool false, .slice none 0 0, .bool false, .slice none 0 0] 34)).frozen? ⟨w.heap.size + 1, o, none⟩ = false := fun o => frozen_later hb (by omega) (z1 o)
  replace HB := hide (below_on (unhide HB) hb)
  have szw2 := hb.size
  clear hb
  generalize (w1.alloc (.cells #[.bool false, .slice none 0 0, .bool false, .slice none 0 0, .bool false, .slice none 0 0, .bool false, .slice none 0 0] 34)) = w2 at *
  go_wp2
  refine bodyPost_ret (v := .tuple #[.agg #[.bool false, .slice none 0 0, .bool false, .slice none 0 0, .bool false, .slice none 0 0, .bool false, .slice none 0 0], .bool false]) (by simp [results, Tryz.results90, go_sem, k1_0, k1_1, k1_2, k1_3, k1_4, k1_5, k1_6, k1_7]) rfl ?_
  have bt := metS_but (w5 := w2) (v := (⟨⟨⟨false, none, 0, 0⟩, ⟨false, none, 0, 0⟩⟩, ⟨⟨false, none, 0, 0⟩, ⟨false, none, 0, 0⟩⟩⟩ : SV)) (G := w.heap.size + 1)
  exact ⟨(⟨⟨⟨false, none, 0, 0⟩, ⟨false, none, 0, 0⟩⟩, ⟨⟨false, none, 0, 0⟩, ⟨false, none, 0, 0⟩⟩⟩ : SV), (⟨⟨⟨false, []⟩, ⟨false, []⟩⟩, ⟨⟨false, []⟩, ⟨false, []⟩⟩⟩ : SD), false, rfl, bt.below (unhide HB) (by omega) (unhide HB).size, zeroS _ _ _, rfl, rfl⟩

theorem whereS (v : SV) (N D N' D' : Int) (xs us ys vs : List Int) (lo hi : Nat) (w : World) (ho : AllOwn lo hi w [(v.lo.num, ⟨decide (N < 0), xs⟩), (v.lo.den, ⟨decide (D < 0), us⟩), (v.hi.num, ⟨decide (N' < 0), ys⟩), (v.hi.den, ⟨decide (D' < 0), vs⟩)]) (hh : hi ≤ w.heap.size) (m1 : v.lo.den.n ≤ maxLen) (m2 : v.hi.den.n ≤ maxLen) (n1 : Nm xs N.natAbs) (n2 : Nm us D.natAbs) (n3 : Nm ys N'.natAbs) (n4 : Nm vs D'.natAbs) (hD : D ≠ 0) (hD' : D' ≠ 0) :
    Calls Tryz.prog 90 #[.agg #[.bool v.lo.num.g, .slice v.lo.num.a v.lo.num.n v.lo.num.c, .bool v.lo.den.g, .slice v.lo.den.a v.lo.den.n v.lo.den.c, .bool v.hi.num.g, .slice v.hi.num.a v.hi.num.n v.hi.num.c, .bool v.hi.den.g, .slice v.hi.den.a v.hi.den.n v.hi.den.c], .func (Fn.func 92) #[] #[]] w (RetSin lo hi w (AnsS true N D N' D')) := by
  have e1 : xs.length = v.lo.num.n := (ho.own (v.lo.num, ⟨decide (N < 0), xs⟩) (by simp)).len
  have e2 : us.length = v.lo.den.n := (ho.own (v.lo.den, ⟨decide (D < 0), us⟩) (by simp)).len
  have e3 : ys.length = v.hi.num.n := (ho.own (v.hi.num, ⟨decide (N' < 0), ys⟩) (by simp)).len
  have e4 : vs.length = v.hi.den.n := (ho.own (v.hi.den, ⟨decide (D' < 0), vs⟩) (by simp)).len
  have z1 : v.lo.den.n ≠ 0 := fun e => by have := n2.nil_iff.1 (List.length_eq_zero_iff.1 (e2.trans e)); omega
  have z2 : v.hi.den.n ≠ 0 := fun e => by have := n4.nil_iff.1 (List.length_eq_zero_iff.1 (e4.trans e)); omega
  by_cases hf : (v.lo.num.n ≤ 40 ∧ v.lo.den.n ≤ 40) ∧ (v.hi.num.n ≤ 40 ∧ v.hi.den.n ≤ 40)
  · refine (whereS_yes v ⟨⟨⟨decide (N < 0), xs⟩, ⟨decide (D < 0), us⟩⟩, ⟨⟨decide (N' < 0), ys⟩, ⟨decide (D' < 0), vs⟩⟩⟩ lo hi w ho hh m1 m2 (decide_eq_true ⟨⟨z1, hf.1⟩, ⟨z2, hf.2⟩⟩)).mono ?_
    rintro e w' ⟨u, d, ok, rfl, hb, hv, rfl, rfl⟩
    exact ⟨u, _, _, rfl, hb, hv, .inl ⟨rfl, xs, us, ys, vs, n1, n2, n3, n4, .inl ⟨by omega, by omega, rfl, rfl⟩⟩⟩
  · refine (whereS_no v lo hi w m1 m2 (decide_eq_false (fun h => hf ⟨h.1.2, h.2.2⟩))).mono ?_
    rintro e w' ⟨u, d, ok, rfl, hb, hv, rfl, rfl⟩
    exact ⟨u, _, _, rfl, hb, hv, .inl ⟨rfl, xs, us, ys, vs, n1, n2, n3, n4, .inr ⟨by rw [e1, e2, e3, e4]; exact hf, rfl, rfl⟩⟩⟩

end Go.Proofs.YtikllcoekcglcaaGreat
namespace Go.Proofs.YtikllcoekcglcaaGreat
open Go.RowKit
set_option linter.unusedVariables false
set_option maxRecDepth 100000
set_option linter.unusedSimpArgs false

theorem parS_two {w : World} {a b : SV} {da db : SD} (h : AllAr w [(a.lo.num, da.lo.num), (a.lo.den, da.lo.den), (a.hi.num, da.hi.num), (a.hi.den, da.hi.den)]) (k : AllAr w [(b.lo.num, db.lo.num), (b.lo.den, db.lo.den), (b.hi.num, db.hi.num), (b.hi.den, db.hi.den)]) : PArS (w.alloc (.cells #[.bool a.lo.num.g, .slice a.lo.num.a a.lo.num.n a.lo.num.c, .bool a.lo.den.g, .slice a.lo.den.a a.lo.den.n a.lo.den.c, .bool a.hi.num.g, .slice a.hi.num.a a.hi.num.n a.hi.num.c, .bool a.hi.den.g, .slice a.hi.den.a a.hi.den.n a.hi.den.c, .bool b.lo.num.g, .slice b.lo.num.a b.lo.num.n b.lo.num.c, .bool b.lo.den.g, .slice b.lo.den.a b.lo.den.n b.lo.den.c, .bool b.hi.num.g, .slice b.hi.num.a b.hi.num.n b.hi.num.c, .bool b.hi.den.g, .slice b.hi.den.a b.hi.den.n b.hi.den.c] 34)) (some ⟨w.heap.size, 0, none⟩) 2 2 [(a, da), (b, db)] := by
  have al : Below w.heap.size w (w.alloc (.cells #[.bool a.lo.num.g, .slice a.lo.num.a a.lo.num.n a.lo.num.c, .bool a.lo.den.g, .slice a.lo.den.a a.lo.den.n a.lo.den.c, .bool a.hi.num.g, .slice a.hi.num.a a.hi.num.n a.hi.num.c, .bool a.hi.den.g, .slice a.hi.den.a a.hi.den.n a.hi.den.c, .bool b.lo.num.g, .slice b.lo.num.a b.lo.num.n b.lo.num.c, .bool b.lo.den.g, .slice b.lo.den.a b.lo.den.n b.lo.den.c, .bool b.hi.num.g, .slice b.hi.num.a b.hi.num.n b.hi.num.c, .bool b.hi.den.g, .slice b.hi.den.a b.hi.den.n b.hi.den.c] 34)) := (Below.refl _ _).alloc (Nat.le_refl _) _
  refine ⟨.inr ⟨w.heap.size, 0, rfl, by simp, fun i hi => ?_⟩, fun p hp => ?_, rfl, Nat.le_refl _, by unfold maxLen; omega⟩
  · match i, hi with
    | 0, _ => refine ⟨?_, ?_, ?_, ?_, ?_, ?_, ?_, ?_⟩ <;> simp [go_sem]
    | 1, _ => refine ⟨?_, ?_, ?_, ?_, ?_, ?_, ?_, ?_⟩ <;> simp [go_sem]
  · rcases List.mem_cons.1 hp with rfl | hp
    · exact h.later al
    · obtain rfl := List.mem_singleton.1 hp
      exact k.later al
theorem goodTwo (a b : SV) (da db : SD) (w : World) (G : Nat) (hG : w.heap.size = G) (h : AllAr w [(a.lo.num, da.lo.num), (a.lo.den, da.lo.den), (a.hi.num, da.hi.num), (a.hi.den, da.hi.den)]) (k : AllAr w [(b.lo.num, db.lo.num), (b.lo.den, db.lo.den), (b.hi.num, db.hi.num), (b.hi.den, db.hi.den)]) :
    Calls Tryz.prog 24 #[.slice (some ⟨G, 0, none⟩) 2 2] (w.alloc (.cells #[.bool a.lo.num.g, .slice a.lo.num.a a.lo.num.n a.lo.num.c, .bool a.lo.den.g, .slice a.lo.den.a a.lo.den.n a.lo.den.c, .bool a.hi.num.g, .slice a.hi.num.a a.hi.num.n a.hi.num.c, .bool a.hi.den.g, .slice a.hi.den.a a.hi.den.n a.hi.den.c, .bool b.lo.num.g, .slice b.lo.num.a b.lo.num.n b.lo.num.c, .bool b.lo.den.g, .slice b.lo.den.a b.lo.den.n b.lo.den.c, .bool b.hi.num.g, .slice b.hi.num.a b.hi.num.n b.hi.num.c, .bool b.hi.den.g, .slice b.hi.den.a b.hi.den.n b.hi.den.c] 34)) fun e w' => e = .returned (.bool (gPt2 da && gPt2 db)) ∧ Below (w.alloc (.cells #[.bool a.lo.num.g, .slice a.lo.num.a a.lo.num.n a.lo.num.c, .bool a.lo.den.g, .slice a.lo.den.a a.lo.den.n a.lo.den.c, .bool a.hi.num.g, .slice a.hi.num.a a.hi.num.n a.hi.num.c, .bool a.hi.den.g, .slice a.hi.den.a a.hi.den.n a.hi.den.c, .bool b.lo.num.g, .slice b.lo.num.a b.lo.num.n b.lo.num.c, .bool b.lo.den.g, .slice b.lo.den.a b.lo.den.n b.lo.den.c, .bool b.hi.num.g, .slice b.hi.num.a b.hi.num.n b.hi.num.c, .bool b.hi.den.g, .slice b.hi.den.a b.hi.den.n b.hi.den.c] 34)).heap.size (w.alloc (.cells #[.bool a.lo.num.g, .slice a.lo.num.a a.lo.num.n a.lo.num.c, .bool a.lo.den.g, .slice a.lo.den.a a.lo.den.n a.lo.den.c, .bool a.hi.num.g, .slice a.hi.num.a a.hi.num.n a.hi.num.c, .bool a.hi.den.g, .slice a.hi.den.a a.hi.den.n a.hi.den.c, .bool b.lo.num.g, .slice b.lo.num.a b.lo.num.n b.lo.num.c, .bool b.lo.den.g, .slice b.lo.den.a b.lo.den.n b.lo.den.c, .bool b.hi.num.g, .slice b.hi.num.a b.hi.num.n b.hi.num.c, .bool b.hi.den.g, .slice b.hi.den.a b.hi.den.n b.hi.den.c] 34)) w' := by
  subst hG
  have h1 := GoodCI (some ⟨w.heap.size, 0, none⟩) 2 2 [(a, da), (b, db)] _ (parS_two h k)
  have e : gCv ([(a, da), (b, db)].map Prod.snd) = (gPt2 da && gPt2 db) := by unfold gCv many; simp
  rw [e] at h1
  exact h1
theorem bdR_good {w : World} {q : QV} {d : QD} (j : IsGood w q d) : BdR (vQ d) 40 := by
  have h := vQ_good j
  exact ⟨by rw [← h.1]; exact j.kn, by rw [← h.2]; exact j.kd⟩
theorem gF_good {w : World} {q : QV} {d : QD} (h : AllAr w [(q.num, d.num), (q.den, d.den)]) (hg : gF d = true) : IsGood w q d := isGood_of h (by unfold gF at hg; simp only [Bool.and_eq_true] at hg; exact hg.2)
/-- A point's values. -/
def vP (d : SD) : Rat × Rat := (vQ d.lo, vQ d.hi)
theorem isPt_good {w : World} {v : SV} {d : SD} (h : AllAr w [(v.lo.num, d.lo.num), (v.lo.den, d.lo.den), (v.hi.num, d.hi.num), (v.hi.den, d.hi.den)]) (hg : gPt2 d = true) : IsPt w v (vP d) ∧ BdP (vP d) 40 := by
  unfold gPt2 at hg
  simp only [Bool.and_eq_true] at hg
  have j1 := gF_good (AllAr.cons h.head (AllAr.cons h.tail.head (AllAr.nil _))) hg.1
  have j2 := gF_good (AllAr.cons h.tail.tail.head (AllAr.cons h.tail.tail.tail.head (AllAr.nil _))) hg.2
  exact ⟨⟨isR_good j1, isR_good j2⟩, ⟨bdR_good j1, bdR_good j2⟩⟩
/-- Two points mixed. -/
def mx (z x y : Rat) : Rat := (((1 : Int) : Rat) - z) * x + z * y
theorem mx_eq (z x y : Rat) : x + z * (y - x) = mx z x y := by
  unfold mx
  rw [show ((1 : Int) : Rat) = 1 from rfl]
  grind
theorem BdR.mx {z x y : Rat} {L K : Nat} (hz : BdR z 2000) (h : BdR x L) (k : BdR y L) : BdR (mx z x y) (2 * L + 4003 + 2 * 0) := by
  unfold Go.Proofs.YtikllcoekcglcaaGreat.mx
  exact (((((bdR_int (n := 1) (by omega) (by omega)).sub hz).mul h).add (hz.mul k)).mono (by omega))

set_option maxHeartbeats 8000000 in
theorem MixPtI (a b : SV) (t : QV) (da db : SD) (dt : QD) (w : World) (h : AllAr w [(a.lo.num, da.lo.num), (a.lo.den, da.lo.den), (a.hi.num, da.hi.num), (a.hi.den, da.hi.den)]) (h' : AllAr w [(b.lo.num, db.lo.num), (b.lo.den, db.lo.den), (b.hi.num, db.hi.num), (b.hi.den, db.hi.den)]) (h'' : AllAr w [(t.num, dt.num), (t.den, dt.den)]) :
    Calls Tryz.prog 42 #[.agg #[.bool a.lo.num.g, .slice a.lo.num.a a.lo.num.n a.lo.num.c, .bool a.lo.den.g, .slice a.lo.den.a a.lo.den.n a.lo.den.c, .bool a.hi.num.g, .slice a.hi.num.a a.hi.num.n a.hi.num.c, .bool a.hi.den.g, .slice a.hi.den.a a.hi.den.n a.hi.den.c], .agg #[.bool b.lo.num.g, .slice b.lo.num.a b.lo.num.n b.lo.num.c, .bool b.lo.den.g, .slice b.lo.den.a b.lo.den.n b.lo.den.c, .bool b.hi.num.g, .slice b.hi.num.a b.hi.num.n b.hi.num.c, .bool b.hi.den.g, .slice b.hi.den.a b.hi.den.n b.hi.den.c], .agg #[.bool t.num.g, .slice t.num.a t.num.n t.num.c, .bool t.den.g, .slice t.den.a t.den.n t.den.c]] w (RetS w (AnsS (gPt2 da && gPt2 db && gF dt) (nR (mx (vQ dt) (vP da).1 (vP db).1)) (dR (mx (vQ dt) (vP da).1 (vP db).1)) (nR (mx (vQ dt) (vP da).2 (vP db).2)) (dR (mx (vQ dt) (vP da).2 (vP db).2)))) := by
  have HA := hide h
  have HC := hide h'
  have HT := hide h''
  clear h h' h''
  have CG := hide (fun w1 G (hG : w1.heap.size = G) (k : AllAr w1 [(a.lo.num, da.lo.num), (a.lo.den, da.lo.den), (a.hi.num, da.hi.num), (a.hi.den, da.hi.den)]) (k' : AllAr w1 [(b.lo.num, db.lo.num), (b.lo.den, db.lo.den), (b.hi.num, db.hi.num), (b.hi.den, db.hi.den)]) => goodTwo a b da db w1 G hG k k')
  have CT := hide (fun w1 (k : AllAr w1 [(t.num, dt.num), (t.den, dt.den)]) => goodDI t dt w1 k)
  cases hp : (gPt2 da && gPt2 db)
  · rw [hp] at CG
    rw [Bool.false_and]
    clear CT
    have B0 := hide (show Below w.heap.size w (((((w.alloc (.cells #[.bool a.lo.num.g, .slice a.lo.num.a a.lo.num.n a.lo.num.c, .bool a.lo.den.g, .slice a.lo.den.a a.lo.den.n a.lo.den.c, .bool a.hi.num.g, .slice a.hi.num.a a.hi.num.n a.hi.num.c, .bool a.hi.den.g, .slice a.hi.den.a a.hi.den.n a.hi.den.c] 34)).alloc (.cells #[.bool b.lo.num.g, .slice b.lo.num.a b.lo.num.n b.lo.num.c, .bool b.lo.den.g, .slice b.lo.den.a b.lo.den.n b.lo.den.c, .bool b.hi.num.g, .slice b.hi.num.a b.hi.num.n b.hi.num.c, .bool b.hi.den.g, .slice b.hi.den.a b.hi.den.n b.hi.den.c] 34)).alloc (.cells #[.bool t.num.g, .slice t.num.a t.num.n t.num.c, .bool t.den.g, .slice t.den.a t.den.n t.den.c] 28)).alloc (.cells #[.bool false, .slice none 0 0, .bool false, .slice none 0 0, .bool false, .slice none 0 0, .bool false, .slice none 0 0] 34)).alloc (.cells #[.bool a.lo.num.g, .slice a.lo.num.a a.lo.num.n a.lo.num.c, .bool a.lo.den.g, .slice a.lo.den.a a.lo.den.n a.lo.den.c, .bool a.hi.num.g, .slice a.hi.num.a a.hi.num.n a.hi.num.c, .bool a.hi.den.g, .slice a.hi.den.a a.hi.den.n a.hi.den.c, .bool b.lo.num.g, .slice b.lo.num.a b.lo.num.n b.lo.num.c, .bool b.lo.den.g, .slice b.lo.den.a b.lo.den.n b.lo.den.c, .bool b.hi.num.g, .slice b.hi.num.a b.hi.num.n b.hi.num.c, .bool b.hi.den.g, .slice b.hi.den.a b.hi.den.n b.hi.den.c] 34)) from ((((((Below.refl _ _).alloc (by simp) _).alloc (by simp) _).alloc (by simp <;> omega) _).alloc (by simp <;> omega) _).alloc (by simp <;> omega) _))
    go_enter Tryz.func42, Tryz.ntmps42
    go_wp2_with fail
    refine (unhide CG _ (w.heap.size + 1 + 1 + 1 + 1) (by simp) ((unhide HA).later (((((Below.refl _ _).alloc (by simp) _).alloc (by simp) _).alloc (by simp <;> omega) _).alloc (by simp <;> omega) _)) ((unhide HC).later (((((Below.refl _ _).alloc (by simp) _).alloc (by simp) _).alloc (by simp <;> omega) _).alloc (by simp <;> omega) _))).mono ?_
    rintro e w1 ⟨rfl, hb⟩
    have s1 := hb.size
    simp at s1
    have k3_0 : w1.cell? ⟨w.heap.size + 1 + 1 + 1, 0, none⟩ = some (.bool false) := cell_later hb (by simp [go_sem])
    have k3_1 : w1.cell? ⟨w.heap.size + 1 + 1 + 1, 1, none⟩ = some (.slice none 0 0) := cell_later hb (by simp [go_sem])
    have k3_2 : w1.cell? ⟨w.heap.size + 1 + 1 + 1, 2, none⟩ = some (.bool false) := cell_later hb (by simp [go_sem])
    have k3_3 : w1.cell? ⟨w.heap.size + 1 + 1 + 1, 3, none⟩ = some (.slice none 0 0) := cell_later hb (by simp [go_sem])
    have k3_4 : w1.cell? ⟨w.heap.size + 1 + 1 + 1, 4, none⟩ = some (.bool false) := cell_later hb (by simp [go_sem])
    have k3_5 : w1.cell? ⟨w.heap.size + 1 + 1 + 1, 5, none⟩ = some (.slice none 0 0) := cell_later hb (by simp [go_sem])
    have k3_6 : w1.cell? ⟨w.heap.size + 1 + 1 + 1, 6, none⟩ = some (.bool false) := cell_later hb (by simp [go_sem])
    have k3_7 : w1.cell? ⟨w.heap.size + 1 + 1 + 1, 7, none⟩ = some (.slice none 0 0) := cell_later hb (by simp [go_sem])
    have z3 : ∀ o, w1.frozen? ⟨w.heap.size + 1 + 1 + 1, o, none⟩ = false := fun o => frozen_later hb (by simp) (by simp [go_sem])
    have HB := hide (below_on (unhide B0) hb)
    clear hb
    go_wp2
    refine bodyPost_ret (v := .tuple #[.agg #[.bool false, .slice none 0 0, .bool false, .slice none 0 0, .bool false, .slice none 0 0, .bool false, .slice none 0 0], .bool false]) (by simp [results, Tryz.results42, go_sem, k3_0, k3_1, k3_2, k3_3, k3_4, k3_5, k3_6, k3_7]) rfl ?_
    exact retS_fin (v := (⟨⟨⟨false, none, 0, 0⟩, ⟨false, none, 0, 0⟩⟩, ⟨⟨false, none, 0, 0⟩, ⟨false, none, 0, 0⟩⟩⟩ : SV)) (d := (⟨⟨⟨false, []⟩, ⟨false, []⟩⟩, ⟨⟨false, []⟩, ⟨false, []⟩⟩⟩ : SD)) (R := w.heap.size + 1 + 1 + 1) (by omega) (unhide HB) (metS_but (w5 := w1) (v := (⟨⟨⟨false, none, 0, 0⟩, ⟨false, none, 0, 0⟩⟩, ⟨⟨false, none, 0, 0⟩, ⟨false, none, 0, 0⟩⟩⟩ : SV)) (G := w.heap.size + 1 + 1 + 1)) (zeroS _ _ _) (ansS_none _ _ _ _)
  · cases hq : gF dt
    · rw [hp] at CG
      rw [hq] at CT
      have B0 := hide (show Below w.heap.size w (((((w.alloc (.cells #[.bool a.lo.num.g, .slice a.lo.num.a a.lo.num.n a.lo.num.c, .bool a.lo.den.g, .slice a.lo.den.a a.lo.den.n a.lo.den.c, .bool a.hi.num.g, .slice a.hi.num.a a.hi.num.n a.hi.num.c, .bool a.hi.den.g, .slice a.hi.den.a a.hi.den.n a.hi.den.c] 34)).alloc (.cells #[.bool b.lo.num.g, .slice b.lo.num.a b.lo.num.n b.lo.num.c, .bool b.lo.den.g, .slice b.lo.den.a b.lo.den.n b.lo.den.c, .bool b.hi.num.g, .slice b.hi.num.a b.hi.num.n b.hi.num.c, .bool b.hi.den.g, .slice b.hi.den.a b.hi.den.n b.hi.den.c] 34)).alloc (.cells #[.bool t.num.g, .slice t.num.a t.num.n t.num.c, .bool t.den.g, .slice t.den.a t.den.n t.den.c] 28)).alloc (.cells #[.bool false, .slice none 0 0, .bool false, .slice none 0 0, .bool false, .slice none 0 0, .bool false, .slice none 0 0] 34)).alloc (.cells #[.bool a.lo.num.g, .slice a.lo.num.a a.lo.num.n a.lo.num.c, .bool a.lo.den.g, .slice a.lo.den.a a.lo.den.n a.lo.den.c, .bool a.hi.num.g, .slice a.hi.num.a a.hi.num.n a.hi.num.c, .bool a.hi.den.g, .slice a.hi.den.a a.hi.den.n a.hi.den.c, .bool b.lo.num.g, .slice b.lo.num.a b.lo.num.n b.lo.num.c, .bool b.lo.den.g, .slice b.lo.den.a b.lo.den.n b.lo.den.c, .bool b.hi.num.g, .slice b.hi.num.a b.hi.num.n b.hi.num.c, .bool b.hi.den.g, .slice b.hi.den.a b.hi.den.n b.hi.den.c] 34)) from ((((((Below.refl _ _).alloc (by simp) _).alloc (by simp) _).alloc (by simp <;> omega) _).alloc (by simp <;> omega) _).alloc (by simp <;> omega) _))
      go_enter Tryz.func42, Tryz.ntmps42
      go_wp2_with fail
      refine (unhide CG _ (w.heap.size + 1 + 1 + 1 + 1) (by simp) ((unhide HA).later (((((Below.refl _ _).alloc (by simp) _).alloc (by simp) _).alloc (by simp <;> omega) _).alloc (by simp <;> omega) _)) ((unhide HC).later (((((Below.refl _ _).alloc (by simp) _).alloc (by simp) _).alloc (by simp <;> omega) _).alloc (by simp <;> omega) _))).mono ?_
      rintro e w1 ⟨rfl, hb⟩
      have s1 := hb.size
      simp at s1
      have k2_0 : w1.cell? ⟨w.heap.size + 1 + 1, 0, none⟩ = some (.bool t.num.g) := cell_later hb (by simp [go_sem])
      have k2_1 : w1.cell? ⟨w.heap.size + 1 + 1, 1, none⟩ = some (.slice t.num.a t.num.n t.num.c) := cell_later hb (by simp [go_sem])
      have k2_2 : w1.cell? ⟨w.heap.size + 1 + 1, 2, none⟩ = some (.bool t.den.g) := cell_later hb (by simp [go_sem])
      have k2_3 : w1.cell? ⟨w.heap.size + 1 + 1, 3, none⟩ = some (.slice t.den.a t.den.n t.den.c) := cell_later hb (by simp [go_sem])
      have k3_0 : w1.cell? ⟨w.heap.size + 1 + 1 + 1, 0, none⟩ = some (.bool false) := cell_later hb (by simp [go_sem])
      have k3_1 : w1.cell? ⟨w.heap.size + 1 + 1 + 1, 1, none⟩ = some (.slice none 0 0) := cell_later hb (by simp [go_sem])
      have k3_2 : w1.cell? ⟨w.heap.size + 1 + 1 + 1, 2, none⟩ = some (.bool false) := cell_later hb (by simp [go_sem])
      have k3_3 : w1.cell? ⟨w.heap.size + 1 + 1 + 1, 3, none⟩ = some (.slice none 0 0) := cell_later hb (by simp [go_sem])
      have k3_4 : w1.cell? ⟨w.heap.size + 1 + 1 + 1, 4, none⟩ = some (.bool false) := cell_later hb (by simp [go_sem])
      have k3_5 : w1.cell? ⟨w.heap.size + 1 + 1 + 1, 5, none⟩ = some (.slice none 0 0) := cell_later hb (by simp [go_sem])
      have k3_6 : w1.cell? ⟨w.heap.size + 1 + 1 + 1, 6, none⟩ = some (.bool false) := cell_later hb (by simp [go_sem])
      have k3_7 : w1.cell? ⟨w.heap.size + 1 + 1 + 1, 7, none⟩ = some (.slice none 0 0) := cell_later hb (by simp [go_sem])
      have z3 : ∀ o, w1.frozen? ⟨w.heap.size + 1 + 1 + 1, o, none⟩ = false := fun o => frozen_later hb (by simp) (by simp [go_sem])
      have HB := hide (below_on (unhide B0) hb)
      clear hb
      go_wp2_with fail
      refine (unhide CT _ ((unhide HT).later (unhide HB))).mono ?_
      rintro e w2 ⟨rfl, hb⟩
      have s2 := hb.size
      replace z3 := fun o => frozen_later hb (World.block_lt_of_cell? _ _ k3_0) (z3 o)
      replace k3_0 := cell_later hb k3_0
      replace k3_1 := cell_later hb k3_1
      replace k3_2 := cell_later hb k3_2
      replace k3_3 := cell_later hb k3_3
      replace k3_4 := cell_later hb k3_4
      replace k3_5 := cell_later hb k3_5
      replace k3_6 := cell_later hb k3_6
      replace k3_7 := cell_later hb k3_7
      clear k2_0 k2_1 k2_2 k2_3
      replace HB := hide (below_on (unhide HB) hb)
      clear hb
      go_wp2
      refine bodyPost_ret (v := .tuple #[.agg #[.bool false, .slice none 0 0, .bool false, .slice none 0 0, .bool false, .slice none 0 0, .bool false, .slice none 0 0], .bool false]) (by simp [results, Tryz.results42, go_sem, k3_0, k3_1, k3_2, k3_3, k3_4, k3_5, k3_6, k3_7]) rfl ?_
      exact retS_fin (v := (⟨⟨⟨false, none, 0, 0⟩, ⟨false, none, 0, 0⟩⟩, ⟨⟨false, none, 0, 0⟩, ⟨false, none, 0, 0⟩⟩⟩ : SV)) (d := (⟨⟨⟨false, []⟩, ⟨false, []⟩⟩, ⟨⟨false, []⟩, ⟨false, []⟩⟩⟩ : SD)) (R := w.heap.size + 1 + 1 + 1) (by omega) (unhide HB) (metS_but (w5 := w2) (v := (⟨⟨⟨false, none, 0, 0⟩, ⟨false, none, 0, 0⟩⟩, ⟨⟨false, none, 0, 0⟩, ⟨false, none, 0, 0⟩⟩⟩ : SV)) (G := w.heap.size + 1 + 1 + 1)) (zeroS _ _ _) (ansS_none _ _ _ _)
    · rw [hp] at CG
      rw [hq] at CT
      have hpq := hp
      simp only [Bool.and_eq_true] at hpq
      have JA := hide (isPt_good (unhide HA) hpq.1)
      have JB := hide (isPt_good (unhide HC) hpq.2)
      have JT := hide (gF_good (unhide HT) hq)
      clear hpq
      have B0 := hide (show Below w.heap.size w (((((w.alloc (.cells #[.bool a.lo.num.g, .slice a.lo.num.a a.lo.num.n a.lo.num.c, .bool a.lo.den.g, .slice a.lo.den.a a.lo.den.n a.lo.den.c, .bool a.hi.num.g, .slice a.hi.num.a a.hi.num.n a.hi.num.c, .bool a.hi.den.g, .slice a.hi.den.a a.hi.den.n a.hi.den.c] 34)).alloc (.cells #[.bool b.lo.num.g, .slice b.lo.num.a b.lo.num.n b.lo.num.c, .bool b.lo.den.g, .slice b.lo.den.a b.lo.den.n b.lo.den.c, .bool b.hi.num.g, .slice b.hi.num.a b.hi.num.n b.hi.num.c, .bool b.hi.den.g, .slice b.hi.den.a b.hi.den.n b.hi.den.c] 34)).alloc (.cells #[.bool t.num.g, .slice t.num.a t.num.n t.num.c, .bool t.den.g, .slice t.den.a t.den.n t.den.c] 28)).alloc (.cells #[.bool false, .slice none 0 0, .bool false, .slice none 0 0, .bool false, .slice none 0 0, .bool false, .slice none 0 0] 34)).alloc (.cells #[.bool a.lo.num.g, .slice a.lo.num.a a.lo.num.n a.lo.num.c, .bool a.lo.den.g, .slice a.lo.den.a a.lo.den.n a.lo.den.c, .bool a.hi.num.g, .slice a.hi.num.a a.hi.num.n a.hi.num.c, .bool a.hi.den.g, .slice a.hi.den.a a.hi.den.n a.hi.den.c, .bool b.lo.num.g, .slice b.lo.num.a b.lo.num.n b.lo.num.c, .bool b.lo.den.g, .slice b.lo.den.a b.lo.den.n b.lo.den.c, .bool b.hi.num.g, .slice b.hi.num.a b.hi.num.n b.hi.num.c, .bool b.hi.den.g, .slice b.hi.den.a b.hi.den.n b.hi.den.c] 34)) from ((((((Below.refl _ _).alloc (by simp) _).alloc (by simp) _).alloc (by simp <;> omega) _).alloc (by simp <;> omega) _).alloc (by simp <;> omega) _))
      go_enter Tryz.func42, Tryz.ntmps42
      go_wp2_with fail
      refine (unhide CG _ (w.heap.size + 1 + 1 + 1 + 1) (by simp) ((unhide HA).later (((((Below.refl _ _).alloc (by simp) _).alloc (by simp) _).alloc (by simp <;> omega) _).alloc (by simp <;> omega) _)) ((unhide HC).later (((((Below.refl _ _).alloc (by simp) _).alloc (by simp) _).alloc (by simp <;> omega) _).alloc (by simp <;> omega) _))).mono ?_
      rintro e w1 ⟨rfl, hb⟩
      have s1 := hb.size
      simp at s1
      have k0_0 : w1.cell? ⟨w.heap.size, 0, none⟩ = some (.bool a.lo.num.g) := cell_later hb (by simp [go_sem])
      have k0_1 : w1.cell? ⟨w.heap.size, 1, none⟩ = some (.slice a.lo.num.a a.lo.num.n a.lo.num.c) := cell_later hb (by simp [go_sem])
      have k0_2 : w1.cell? ⟨w.heap.size, 2, none⟩ = some (.bool a.lo.den.g) := cell_later hb (by simp [go_sem])
      have k0_3 : w1.cell? ⟨w.heap.size, 3, none⟩ = some (.slice a.lo.den.a a.lo.den.n a.lo.den.c) := cell_later hb (by simp [go_sem])
      have k0_4 : w1.cell? ⟨w.heap.size, 4, none⟩ = some (.bool a.hi.num.g) := cell_later hb (by simp [go_sem])
      have k0_5 : w1.cell? ⟨w.heap.size, 5, none⟩ = some (.slice a.hi.num.a a.hi.num.n a.hi.num.c) := cell_later hb (by simp [go_sem])
      have k0_6 : w1.cell? ⟨w.heap.size, 6, none⟩ = some (.bool a.hi.den.g) := cell_later hb (by simp [go_sem])
      have k0_7 : w1.cell? ⟨w.heap.size, 7, none⟩ = some (.slice a.hi.den.a a.hi.den.n a.hi.den.c) := cell_later hb (by simp [go_sem])
      have k1_0 : w1.cell? ⟨w.heap.size + 1, 0, none⟩ = some (.bool b.lo.num.g) := cell_later hb (by simp [go_sem])
      have k1_1 : w1.cell? ⟨w.heap.size + 1, 1, none⟩ = some (.slice b.lo.num.a b.lo.num.n b.lo.num.c) := cell_later hb (by simp [go_sem])
      have k1_2 : w1.cell? ⟨w.heap.size + 1, 2, none⟩ = some (.bool b.lo.den.g) := cell_later hb (by simp [go_sem])
      have k1_3 : w1.cell? ⟨w.heap.size + 1, 3, none⟩ = some (.slice b.lo.den.a b.lo.den.n b.lo.den.c) := cell_later hb (by simp [go_sem])
      have k1_4 : w1.cell? ⟨w.heap.size + 1, 4, none⟩ = some (.bool b.hi.num.g) := cell_later hb (by simp [go_sem])
      have k1_5 : w1.cell? ⟨w.heap.size + 1, 5, none⟩ = some (.slice b.hi.num.a b.hi.num.n b.hi.num.c) := cell_later hb (by simp [go_sem])
      have k1_6 : w1.cell? ⟨w.heap.size + 1, 6, none⟩ = some (.bool b.hi.den.g) := cell_later hb (by simp [go_sem])
      have k1_7 : w1.cell? ⟨w.heap.size + 1, 7, none⟩ = some (.slice b.hi.den.a b.hi.den.n b.hi.den.c) := cell_later hb (by simp [go_sem])
      have k2_0 : w1.cell? ⟨w.heap.size + 1 + 1, 0, none⟩ = some (.bool t.num.g) := cell_later hb (by simp [go_sem])
      have k2_1 : w1.cell? ⟨w.heap.size + 1 + 1, 1, none⟩ = some (.slice t.num.a t.num.n t.num.c) := cell_later hb (by simp [go_sem])
      have k2_2 : w1.cell? ⟨w.heap.size + 1 + 1, 2, none⟩ = some (.bool t.den.g) := cell_later hb (by simp [go_sem])
      have k2_3 : w1.cell? ⟨w.heap.size + 1 + 1, 3, none⟩ = some (.slice t.den.a t.den.n t.den.c) := cell_later hb (by simp [go_sem])
      have k3_0 : w1.cell? ⟨w.heap.size + 1 + 1 + 1, 0, none⟩ = some (.bool false) := cell_later hb (by simp [go_sem])
      have k3_1 : w1.cell? ⟨w.heap.size + 1 + 1 + 1, 1, none⟩ = some (.slice none 0 0) := cell_later hb (by simp [go_sem])
      have k3_2 : w1.cell? ⟨w.heap.size + 1 + 1 + 1, 2, none⟩ = some (.bool false) := cell_later hb (by simp [go_sem])
      have k3_3 : w1.cell? ⟨w.heap.size + 1 + 1 + 1, 3, none⟩ = some (.slice none 0 0) := cell_later hb (by simp [go_sem])
      have k3_4 : w1.cell? ⟨w.heap.size + 1 + 1 + 1, 4, none⟩ = some (.bool false) := cell_later hb (by simp [go_sem])
      have k3_5 : w1.cell? ⟨w.heap.size + 1 + 1 + 1, 5, none⟩ = some (.slice none 0 0) := cell_later hb (by simp [go_sem])
      have k3_6 : w1.cell? ⟨w.heap.size + 1 + 1 + 1, 6, none⟩ = some (.bool false) := cell_later hb (by simp [go_sem])
      have k3_7 : w1.cell? ⟨w.heap.size + 1 + 1 + 1, 7, none⟩ = some (.slice none 0 0) := cell_later hb (by simp [go_sem])
      have z3 : ∀ o, w1.frozen? ⟨w.heap.size + 1 + 1 + 1, o, none⟩ = false := fun o => frozen_later hb (by simp) (by simp [go_sem])
      have HB := hide (below_on (unhide B0) hb)
      clear hb
      go_wp2_with fail
      refine (unhide CT _ ((unhide HT).later (unhide HB))).mono ?_
      rintro e w2 ⟨rfl, hb⟩
      have s2 := hb.size
      replace z3 := fun o => frozen_later hb (World.block_lt_of_cell? _ _ k3_0) (z3 o)
      replace k0_0 := cell_later hb k0_0
      replace k0_1 := cell_later hb k0_1
      replace k0_2 := cell_later hb k0_2
      replace k0_3 := cell_later hb k0_3
      replace k0_4 := cell_later hb k0_4
      replace k0_5 := cell_later hb k0_5
      replace k0_6 := cell_later hb k0_6
      replace k0_7 := cell_later hb k0_7
      replace k1_0 := cell_later hb k1_0
      replace k1_1 := cell_later hb k1_1
      replace k1_2 := cell_later hb k1_2
      replace k1_3 := cell_later hb k1_3
      replace k1_4 := cell_later hb k1_4
      replace k1_5 := cell_later hb k1_5
      replace k1_6 := cell_later hb k1_6
      replace k1_7 := cell_later hb k1_7
      replace k2_0 := cell_later hb k2_0
      replace k2_1 := cell_later hb k2_1
      replace k2_2 := cell_later hb k2_2
      replace k2_3 := cell_later hb k2_3
      replace k3_0 := cell_later hb k3_0
      replace k3_1 := cell_later hb k3_1
      replace k3_2 := cell_later hb k3_2
      replace k3_3 := cell_later hb k3_3
      replace k3_4 := cell_later hb k3_4
      replace k3_5 := cell_later hb k3_5
      replace k3_6 := cell_later hb k3_6
      replace k3_7 := cell_later hb k3_7
      replace HB := hide (below_on (unhide HB) hb)
      clear hb
      go_wp2_with fail
      refine (mixP a b t (vP da) (vP db) (vQ dt) _ ((unhide JA).1.later (unhide HB)) ((unhide JA).2.mono (by omega)) ((unhide JB).1.later (unhide HB)) ((unhide JB).2.mono (by omega)) ((isR_good (unhide JT)).later (unhide HB)) ((bdR_good (unhide JT)).mono (by omega))).mono ?_
      rintro e w3 ⟨r, xs, us, ys, vs, rfl, hb, ho, ha, n1, n2, n3, n4⟩
      have s3 := hb.size
      have HO := hide ho
      have m1 : r.lo.den.n ≤ maxLen := Nat.le_trans ha.tail.head.ar.cap ha.tail.head.ar.top
      have m2 : r.hi.den.n ≤ maxLen := Nat.le_trans ha.tail.tail.tail.head.ar.cap ha.tail.tail.tail.head.ar.top
      have NN := hide (And.intro n1 (And.intro n2 (And.intro n3 n4)))
      clear ho ha n1 n2 n3 n4
      replace z3 := fun o => frozen_later hb (World.block_lt_of_cell? _ _ k3_0) (z3 o)
      replace k3_0 := cell_later hb k3_0
      replace k3_1 := cell_later hb k3_1
      replace k3_2 := cell_later hb k3_2
      replace k3_3 := cell_later hb k3_3
      replace k3_4 := cell_later hb k3_4
      replace k3_5 := cell_later hb k3_5
      replace k3_6 := cell_later hb k3_6
      replace k3_7 := cell_later hb k3_7
      clear k0_0 k0_1 k0_2 k0_3 k0_4 k0_5 k0_6 k0_7 k1_0 k1_1 k1_2 k1_3 k1_4 k1_5 k1_6 k1_7 k2_0 k2_1 k2_2 k2_3
      replace HB := hide (below_on (unhide HB) hb)
      clear hb
      go_wp2_with fail
      refine (whereS r _ _ _ _ xs us ys vs w2.heap.size w3.heap.size _ (unhide HO) (Nat.le_refl _) m1 m2 (unhide NN).1 (unhide NN).2.1 (unhide NN).2.2.1 (unhide NN).2.2.2 (dR_ne _) (dR_ne _)).mono ?_
      rintro e w4 ⟨r2, d2, ok, rfl, hb, ov, hu⟩
      have s4 := hb.size
      have OV := hide ov
      have UU := hide hu
      clear ov hu
      replace z3 := fun o => frozen_later hb (World.block_lt_of_cell? _ _ k3_0) (z3 o)
      replace k3_0 := cell_later hb k3_0
      replace k3_1 := cell_later hb k3_1
      replace k3_2 := cell_later hb k3_2
      replace k3_3 := cell_later hb k3_3
      replace k3_4 := cell_later hb k3_4
      replace k3_5 := cell_later hb k3_5
      replace k3_6 := cell_later hb k3_6
      replace k3_7 := cell_later hb k3_7
      replace HB := hide (below_on (unhide HB) hb)
      clear hb
      go_wp2
      refine bodyPost_ret (v := .tuple #[.agg #[.bool r2.lo.num.g, .slice r2.lo.num.a r2.lo.num.n r2.lo.num.c, .bool r2.lo.den.g, .slice r2.lo.den.a r2.lo.den.n r2.lo.den.c, .bool r2.hi.num.g, .slice r2.hi.num.a r2.hi.num.n r2.hi.num.c, .bool r2.hi.den.g, .slice r2.hi.den.a r2.hi.den.n r2.hi.den.c], .bool ok]) (by simp [results, Tryz.results42, go_sem, k3_0, k3_1, k3_2, k3_3, k3_4, k3_5, k3_6, k3_7]) rfl ?_
      exact retS_fin (v := r2) (d := d2) (R := w.heap.size + 1 + 1 + 1) (by omega) (unhide HB) (metS_but (w5 := w4) (v := r2) (G := w.heap.size + 1 + 1 + 1)) ((unhide OV).wide (by omega) (by omega)) (unhide UU)

set_option maxHeartbeats 8000000 in
theorem MixPtS (a b : SV) (t : QV) (da db : SD) (dt : QD) (w : World) (h : AllAr w [(a.lo.num, da.lo.num), (a.lo.den, da.lo.den), (a.hi.num, da.hi.num), (a.hi.den, da.hi.den)]) (h' : AllAr w [(b.lo.num, db.lo.num), (b.lo.den, db.lo.den), (b.hi.num, db.hi.num), (b.hi.den, db.hi.den)]) (h'' : AllAr w [(t.num, dt.num), (t.den, dt.den)]) :
    Calls Tryz.prog 43 #[.agg #[.bool a.lo.num.g, .slice a.lo.num.a a.lo.num.n a.lo.num.c, .bool a.lo.den.g, .slice a.lo.den.a a.lo.den.n a.lo.den.c, .bool a.hi.num.g, .slice a.hi.num.a a.hi.num.n a.hi.num.c, .bool a.hi.den.g, .slice a.hi.den.a a.hi.den.n a.hi.den.c], .agg #[.bool b.lo.num.g, .slice b.lo.num.a b.lo.num.n b.lo.num.c, .bool b.lo.den.g, .slice b.lo.den.a b.lo.den.n b.lo.den.c, .bool b.hi.num.g, .slice b.hi.num.a b.hi.num.n b.hi.num.c, .bool b.hi.den.g, .slice b.hi.den.a b.hi.den.n b.hi.den.c], .agg #[.bool t.num.g, .slice t.num.a t.num.n t.num.c, .bool t.den.g, .slice t.den.a t.den.n t.den.c]] w (RetS w (AnsS (gPt2 da && gPt2 db && gF dt) (nR (mx (vQ dt) (vP da).1 (vP db).1)) (dR (mx (vQ dt) (vP da).1 (vP db).1)) (nR (mx (vQ dt) (vP da).2 (vP db).2)) (dR (mx (vQ dt) (vP da).2 (vP db).2)))) := by
  have HA := hide h
  have HC := hide h'
  have HT := hide h''
  clear h h' h''
  have C1 := hide (fun w1 (k : AllAr w1 [(a.lo.num, da.lo.num), (a.lo.den, da.lo.den), (a.hi.num, da.hi.num), (a.hi.den, da.hi.den)]) => ptS2 a da w1 k)
  have C2 := hide (fun w1 (k : AllAr w1 [(b.lo.num, db.lo.num), (b.lo.den, db.lo.den), (b.hi.num, db.hi.num), (b.hi.den, db.hi.den)]) => ptS2 b db w1 k)
  have C3 := hide (fun w1 (k : AllAr w1 [(t.num, dt.num), (t.den, dt.den)]) => smallS2 t dt w1 k)
  cases h1 : gPt2 da
  · rw [h1] at C1
    rw [Bool.false_and, Bool.false_and]
    have B0 := hide (show Below w.heap.size w ((((w.alloc (.cells #[.bool a.lo.num.g, .slice a.lo.num.a a.lo.num.n a.lo.num.c, .bool a.lo.den.g, .slice a.lo.den.a a.lo.den.n a.lo.den.c, .bool a.hi.num.g, .slice a.hi.num.a a.hi.num.n a.hi.num.c, .bool a.hi.den.g, .slice a.hi.den.a a.hi.den.n a.hi.den.c] 34)).alloc (.cells #[.bool b.lo.num.g, .slice b.lo.num.a b.lo.num.n b.lo.num.c, .bool b.lo.den.g, .slice b.lo.den.a b.lo.den.n b.lo.den.c, .bool b.hi.num.g, .slice b.hi.num.a b.hi.num.n b.hi.num.c, .bool b.hi.den.g, .slice b.hi.den.a b.hi.den.n b.hi.den.c] 34)).alloc (.cells #[.bool t.num.g, .slice t.num.a t.num.n t.num.c, .bool t.den.g, .slice t.den.a t.den.n t.den.c] 28)).alloc (.cells #[.bool false, .slice none 0 0, .bool false, .slice none 0 0, .bool false, .slice none 0 0, .bool false, .slice none 0 0] 34)) from (((((Below.refl _ _).alloc (by simp) _).alloc (by simp) _).alloc (by simp <;> omega) _).alloc (by simp <;> omega) _))
    go_enter Tryz.func43, Tryz.ntmps43
    go_wp2_with fail
    refine (unhide C1 _ ((unhide HA).later (unhide B0))).mono ?_
    rintro e w1 ⟨rfl, hb⟩
    have s1 := hb.size
    simp at s1
    have k3_0 : w1.cell? ⟨w.heap.size + 1 + 1 + 1, 0, none⟩ = some (.bool false) := cell_later hb (by simp [go_sem])
    have k3_1 : w1.cell? ⟨w.heap.size + 1 + 1 + 1, 1, none⟩ = some (.slice none 0 0) := cell_later hb (by simp [go_sem])
    have k3_2 : w1.cell? ⟨w.heap.size + 1 + 1 + 1, 2, none⟩ = some (.bool false) := cell_later hb (by simp [go_sem])
    have k3_3 : w1.cell? ⟨w.heap.size + 1 + 1 + 1, 3, none⟩ = some (.slice none 0 0) := cell_later hb (by simp [go_sem])
    have k3_4 : w1.cell? ⟨w.heap.size + 1 + 1 + 1, 4, none⟩ = some (.bool false) := cell_later hb (by simp [go_sem])
    have k3_5 : w1.cell? ⟨w.heap.size + 1 + 1 + 1, 5, none⟩ = some (.slice none 0 0) := cell_later hb (by simp [go_sem])
    have k3_6 : w1.cell? ⟨w.heap.size + 1 + 1 + 1, 6, none⟩ = some (.bool false) := cell_later hb (by simp [go_sem])
    have k3_7 : w1.cell? ⟨w.heap.size + 1 + 1 + 1, 7, none⟩ = some (.slice none 0 0) := cell_later hb (by simp [go_sem])
    have z3 : ∀ o, w1.frozen? ⟨w.heap.size + 1 + 1 + 1, o, none⟩ = false := fun o => frozen_later hb (by simp) (by simp [go_sem])
    have HB := hide (below_on (unhide B0) hb)
    clear hb
    go_wp2
    refine bodyPost_ret (v := .tuple #[.agg #[.bool false, .slice none 0 0, .bool false, .slice none 0 0, .bool false, .slice none 0 0, .bool false, .slice none 0 0], .bool false]) (by simp [results, Tryz.results43, go_sem, k3_0, k3_1, k3_2, k3_3, k3_4, k3_5, k3_6, k3_7]) rfl ?_
    exact retS_fin (v := (⟨⟨⟨false, none, 0, 0⟩, ⟨false, none, 0, 0⟩⟩, ⟨⟨false, none, 0, 0⟩, ⟨false, none, 0, 0⟩⟩⟩ : SV)) (d := (⟨⟨⟨false, []⟩, ⟨false, []⟩⟩, ⟨⟨false, []⟩, ⟨false, []⟩⟩⟩ : SD)) (R := w.heap.size + 1 + 1 + 1) (by omega) (unhide HB) (metS_but (w5 := w1) (v := (⟨⟨⟨false, none, 0, 0⟩, ⟨false, none, 0, 0⟩⟩, ⟨⟨false, none, 0, 0⟩, ⟨false, none, 0, 0⟩⟩⟩ : SV)) (G := w.heap.size + 1 + 1 + 1)) (zeroS _ _ _) (ansS_none _ _ _ _)
  · cases h2 : gPt2 db
    · rw [h1] at C1
      rw [h2] at C2
      rw [Bool.and_false, Bool.false_and]
      have B0 := hide (show Below w.heap.size w ((((w.alloc (.cells #[.bool a.lo.num.g, .slice a.lo.num.a a.lo.num.n a.lo.num.c, .bool a.lo.den.g, .slice a.lo.den.a a.lo.den.n a.lo.den.c, .bool a.hi.num.g, .slice a.hi.num.a a.hi.num.n a.hi.num.c, .bool a.hi.den.g, .slice a.hi.den.a a.hi.den.n a.hi.den.c] 34)).alloc (.cells #[.bool b.lo.num.g, .slice b.lo.num.a b.lo.num.n b.lo.num.c, .bool b.lo.den.g, .slice b.lo.den.a b.lo.den.n b.lo.den.c, .bool b.hi.num.g, .slice b.hi.num.a b.hi.num.n b.hi.num.c, .bool b.hi.den.g, .slice b.hi.den.a b.hi.den.n b.hi.den.c] 34)).alloc (.cells #[.bool t.num.g, .slice t.num.a t.num.n t.num.c, .bool t.den.g, .slice t.den.a t.den.n t.den.c] 28)).alloc (.cells #[.bool false, .slice none 0 0, .bool false, .slice none 0 0, .bool false, .slice none 0 0, .bool false, .slice none 0 0] 34)) from (((((Below.refl _ _).alloc (by simp) _).alloc (by simp) _).alloc (by simp <;> omega) _).alloc (by simp <;> omega) _))
      go_enter Tryz.func43, Tryz.ntmps43
      go_wp2_with fail
      refine (unhide C1 _ ((unhide HA).later (unhide B0))).mono ?_
      rintro e w1 ⟨rfl, hb⟩
      have s1 := hb.size
      simp at s1
      have k1_0 : w1.cell? ⟨w.heap.size + 1, 0, none⟩ = some (.bool b.lo.num.g) := cell_later hb (by simp [go_sem])
      have k1_1 : w1.cell? ⟨w.heap.size + 1, 1, none⟩ = some (.slice b.lo.num.a b.lo.num.n b.lo.num.c) := cell_later hb (by simp [go_sem])
      have k1_2 : w1.cell? ⟨w.heap.size + 1, 2, none⟩ = some (.bool b.lo.den.g) := cell_later hb (by simp [go_sem])
      have k1_3 : w1.cell? ⟨w.heap.size + 1, 3, none⟩ = some (.slice b.lo.den.a b.lo.den.n b.lo.den.c) := cell_later hb (by simp [go_sem])
      have k1_4 : w1.cell? ⟨w.heap.size + 1, 4, none⟩ = some (.bool b.hi.num.g) := cell_later hb (by simp [go_sem])
      have k1_5 : w1.cell? ⟨w.heap.size + 1, 5, none⟩ = some (.slice b.hi.num.a b.hi.num.n b.hi.num.c) := cell_later hb (by simp [go_sem])
      have k1_6 : w1.cell? ⟨w.heap.size + 1, 6, none⟩ = some (.bool b.hi.den.g) := cell_later hb (by simp [go_sem])
      have k1_7 : w1.cell? ⟨w.heap.size + 1, 7, none⟩ = some (.slice b.hi.den.a b.hi.den.n b.hi.den.c) := cell_later hb (by simp [go_sem])
      have k3_0 : w1.cell? ⟨w.heap.size + 1 + 1 + 1, 0, none⟩ = some (.bool false) := cell_later hb (by simp [go_sem])
      have k3_1 : w1.cell? ⟨w.heap.size + 1 + 1 + 1, 1, none⟩ = some (.slice none 0 0) := cell_later hb (by simp [go_sem])
      have k3_2 : w1.cell? ⟨w.heap.size + 1 + 1 + 1, 2, none⟩ = some (.bool false) := cell_later hb (by simp [go_sem])
      have k3_3 : w1.cell? ⟨w.heap.size + 1 + 1 + 1, 3, none⟩ = some (.slice none 0 0) := cell_later hb (by simp [go_sem])
      have k3_4 : w1.cell? ⟨w.heap.size + 1 + 1 + 1, 4, none⟩ = some (.bool false) := cell_later hb (by simp [go_sem])
      have k3_5 : w1.cell? ⟨w.heap.size + 1 + 1 + 1, 5, none⟩ = some (.slice none 0 0) := cell_later hb (by simp [go_sem])
      have k3_6 : w1.cell? ⟨w.heap.size + 1 + 1 + 1, 6, none⟩ = some (.bool false) := cell_later hb (by simp [go_sem])
      have k3_7 : w1.cell? ⟨w.heap.size + 1 + 1 + 1, 7, none⟩ = some (.slice none 0 0) := cell_later hb (by simp [go_sem])
      have z3 : ∀ o, w1.frozen? ⟨w.heap.size + 1 + 1 + 1, o, none⟩ = false := fun o => frozen_later hb (by simp) (by simp [go_sem])
      have HB := hide (below_on (unhide B0) hb)
      clear hb
      go_wp2_with fail
      refine (unhide C2 _ ((unhide HC).later (unhide HB))).mono ?_
      rintro e w2 ⟨rfl, hb⟩
      have s2 := hb.size
      replace z3 := fun o => frozen_later hb (World.block_lt_of_cell? _ _ k3_0) (z3 o)
      replace k3_0 := cell_later hb k3_0
      replace k3_1 := cell_later hb k3_1
      replace k3_2 := cell_later hb k3_2
      replace k3_3 := cell_later hb k3_3
      replace k3_4 := cell_later hb k3_4
      replace k3_5 := cell_later hb k3_5
      replace k3_6 := cell_later hb k3_6
      replace k3_7 := cell_later hb k3_7
      clear k1_0 k1_1 k1_2 k1_3 k1_4 k1_5 k1_6 k1_7
      replace HB := hide (below_on (unhide HB) hb)
      clear hb
      go_wp2
      refine bodyPost_ret (v := .tuple #[.agg #[.bool false, .slice none 0 0, .bool false, .slice none 0 0, .bool false, .slice none 0 0, .bool false, .slice none 0 0], .bool false]) (by simp [results, Tryz.results43, go_sem, k3_0, k3_1, k3_2, k3_3, k3_4, k3_5, k3_6, k3_7]) rfl ?_
      exact retS_fin (v := (⟨⟨⟨false, none, 0, 0⟩, ⟨false, none, 0, 0⟩⟩, ⟨⟨false, none, 0, 0⟩, ⟨false, none, 0, 0⟩⟩⟩ : SV)) (d := (⟨⟨⟨false, []⟩, ⟨false, []⟩⟩, ⟨⟨false, []⟩, ⟨false, []⟩⟩⟩ : SD)) (R := w.heap.size + 1 + 1 + 1) (by omega) (unhide HB) (metS_but (w5 := w2) (v := (⟨⟨⟨false, none, 0, 0⟩, ⟨false, none, 0, 0⟩⟩, ⟨⟨false, none, 0, 0⟩, ⟨false, none, 0, 0⟩⟩⟩ : SV)) (G := w.heap.size + 1 + 1 + 1)) (zeroS _ _ _) (ansS_none _ _ _ _)
    · cases h3 : gF dt
      · rw [h1] at C1
        rw [h2] at C2
        rw [h3] at C3
        have B0 := hide (show Below w.heap.size w ((((w.alloc (.cells #[.bool a.lo.num.g, .slice a.lo.num.a a.lo.num.n a.lo.num.c, .bool a.lo.den.g, .slice a.lo.den.a a.lo.den.n a.lo.den.c, .bool a.hi.num.g, .slice a.hi.num.a a.hi.num.n a.hi.num.c, .bool a.hi.den.g, .slice a.hi.den.a a.hi.den.n a.hi.den.c] 34)).alloc (.cells #[.bool b.lo.num.g, .slice b.lo.num.a b.lo.num.n b.lo.num.c, .bool b.lo.den.g, .slice b.lo.den.a b.lo.den.n b.lo.den.c, .bool b.hi.num.g, .slice b.hi.num.a b.hi.num.n b.hi.num.c, .bool b.hi.den.g, .slice b.hi.den.a b.hi.den.n b.hi.den.c] 34)).alloc (.cells #[.bool t.num.g, .slice t.num.a t.num.n t.num.c, .bool t.den.g, .slice t.den.a t.den.n t.den.c] 28)).alloc (.cells #[.bool false, .slice none 0 0, .bool false, .slice none 0 0, .bool false, .slice none 0 0, .bool false, .slice none 0 0] 34)) from (((((Below.refl _ _).alloc (by simp) _).alloc (by simp) _).alloc (by simp <;> omega) _).alloc (by simp <;> omega) _))
        go_enter Tryz.func43, Tryz.ntmps43
        go_wp2_with fail
        refine (unhide C1 _ ((unhide HA).later (unhide B0))).mono ?_
        rintro e w1 ⟨rfl, hb⟩
        have s1 := hb.size
        simp at s1
        have k1_0 : w1.cell? ⟨w.heap.size + 1, 0, none⟩ = some (.bool b.lo.num.g) := cell_later hb (by simp [go_sem])
        have k1_1 : w1.cell? ⟨w.heap.size + 1, 1, none⟩ = some (.slice b.lo.num.a b.lo.num.n b.lo.num.c) := cell_later hb (by simp [go_sem])
        have k1_2 : w1.cell? ⟨w.heap.size + 1, 2, none⟩ = some (.bool b.lo.den.g) := cell_later hb (by simp [go_sem])
        have k1_3 : w1.cell? ⟨w.heap.size + 1, 3, none⟩ = some (.slice b.lo.den.a b.lo.den.n b.lo.den.c) := cell_later hb (by simp [go_sem])
        have k1_4 : w1.cell? ⟨w.heap.size + 1, 4, none⟩ = some (.bool b.hi.num.g) := cell_later hb (by simp [go_sem])
        have k1_5 : w1.cell? ⟨w.heap.size + 1, 5, none⟩ = some (.slice b.hi.num.a b.hi.num.n b.hi.num.c) := cell_later hb (by simp [go_sem])
        have k1_6 : w1.cell? ⟨w.heap.size + 1, 6, none⟩ = some (.bool b.hi.den.g) := cell_later hb (by simp [go_sem])
        have k1_7 : w1.cell? ⟨w.heap.size + 1, 7, none⟩ = some (.slice b.hi.den.a b.hi.den.n b.hi.den.c) := cell_later hb (by simp [go_sem])
        have k2_0 : w1.cell? ⟨w.heap.size + 1 + 1, 0, none⟩ = some (.bool t.num.g) := cell_later hb (by simp [go_sem])
        have k2_1 : w1.cell? ⟨w.heap.size + 1 + 1, 1, none⟩ = some (.slice t.num.a t.num.n t.num.c) := cell_later hb (by simp [go_sem])
        have k2_2 : w1.cell? ⟨w.heap.size + 1 + 1, 2, none⟩ = some (.bool t.den.g) := cell_later hb (by simp [go_sem])
        have k2_3 : w1.cell? ⟨w.heap.size + 1 + 1, 3, none⟩ = some (.slice t.den.a t.den.n t.den.c) := cell_later hb (by simp [go_sem])
        have k3_0 : w1.cell? ⟨w.heap.size + 1 + 1 + 1, 0, none⟩ = some (.bool false) := cell_later hb (by simp [go_sem])
        have k3_1 : w1.cell? ⟨w.heap.size + 1 + 1 + 1, 1, none⟩ = some (.slice none 0 0) := cell_later hb (by simp [go_sem])
        have k3_2 : w1.cell? ⟨w.heap.size + 1 + 1 + 1, 2, none⟩ = some (.bool false) := cell_later hb (by simp [go_sem])
        have k3_3 : w1.cell? ⟨w.heap.size + 1 + 1 + 1, 3, none⟩ = some (.slice none 0 0) := cell_later hb (by simp [go_sem])
        have k3_4 : w1.cell? ⟨w.heap.size + 1 + 1 + 1, 4, none⟩ = some (.bool false) := cell_later hb (by simp [go_sem])
        have k3_5 : w1.cell? ⟨w.heap.size + 1 + 1 + 1, 5, none⟩ = some (.slice none 0 0) := cell_later hb (by simp [go_sem])
        have k3_6 : w1.cell? ⟨w.heap.size + 1 + 1 + 1, 6, none⟩ = some (.bool false) := cell_later hb (by simp [go_sem])
        have k3_7 : w1.cell? ⟨w.heap.size + 1 + 1 + 1, 7, none⟩ = some (.slice none 0 0) := cell_later hb (by simp [go_sem])
        have z3 : ∀ o, w1.frozen? ⟨w.heap.size + 1 + 1 + 1, o, none⟩ = false := fun o => frozen_later hb (by simp) (by simp [go_sem])
        have HB := hide (below_on (unhide B0) hb)
        clear hb
        go_wp2_with fail
        refine (unhide C2 _ ((unhide HC).later (unhide HB))).mono ?_
        rintro e w2 ⟨rfl, hb⟩
        have s2 := hb.size
        replace z3 := fun o => frozen_later hb (World.block_lt_of_cell? _ _ k3_0) (z3 o)
        replace k2_0 := cell_later hb k2_0
        replace k2_1 := cell_later hb k2_1
        replace k2_2 := cell_later hb k2_2
        replace k2_3 := cell_later hb k2_3
        replace k3_0 := cell_later hb k3_0
        replace k3_1 := cell_later hb k3_1
        replace k3_2 := cell_later hb k3_2
        replace k3_3 := cell_later hb k3_3
        replace k3_4 := cell_later hb k3_4
        replace k3_5 := cell_later hb k3_5
        replace k3_6 := cell_later hb k3_6
        replace k3_7 := cell_later hb k3_7
        clear k1_0 k1_1 k1_2 k1_3 k1_4 k1_5 k1_6 k1_7
        replace HB := hide (below_on (unhide HB) hb)
        clear hb
        go_wp2_with fail
        refine (unhide C3 _ ((unhide HT).later (unhide HB))).mono ?_
        rintro e w3 ⟨rfl, hb⟩
        have s3 := hb.size
        replace z3 := fun o => frozen_later hb (World.block_lt_of_cell? _ _ k3_0) (z3 o)
        replace k3_0 := cell_later hb k3_0
        replace k3_1 := cell_later hb k3_1
        replace k3_2 := cell_later hb k3_2
        replace k3_3 := cell_later hb k3_3
        replace k3_4 := cell_later hb k3_4
        replace k3_5 := cell_later hb k3_5
        replace k3_6 := cell_later hb k3_6
        replace k3_7 := cell_later hb k3_7
        clear k2_0 k2_1 k2_2 k2_3
        replace HB := hide (below_on (unhide HB) hb)
        clear hb
        go_wp2
        refine bodyPost_ret (v := .tuple #[.agg #[.bool false, .slice none 0 0, .bool false, .slice none 0 0, .bool false, .slice none 0 0, .bool false, .slice none 0 0], .bool false]) (by simp [results, Tryz.results43, go_sem, k3_0, k3_1, k3_2, k3_3, k3_4, k3_5, k3_6, k3_7]) rfl ?_
        exact retS_fin (v := (⟨⟨⟨false, none, 0, 0⟩, ⟨false, none, 0, 0⟩⟩, ⟨⟨false, none, 0, 0⟩, ⟨false, none, 0, 0⟩⟩⟩ : SV)) (d := (⟨⟨⟨false, []⟩, ⟨false, []⟩⟩, ⟨⟨false, []⟩, ⟨false, []⟩⟩⟩ : SD)) (R := w.heap.size + 1 + 1 + 1) (by omega) (unhide HB) (metS_but (w5 := w3) (v := (⟨⟨⟨false, none, 0, 0⟩, ⟨false, none, 0, 0⟩⟩, ⟨⟨false, none, 0, 0⟩, ⟨false, none, 0, 0⟩⟩⟩ : SV)) (G := w.heap.size + 1 + 1 + 1)) (zeroS _ _ _) (ansS_none _ _ _ _)
      · rw [h1] at C1
        rw [h2] at C2
        rw [h3] at C3
        have JA := hide (isPt_good (unhide HA) h1)
        have JB := hide (isPt_good (unhide HC) h2)
        have JT := hide (gF_good (unhide HT) h3)
        have B0 := hide (show Below w.heap.size w ((((w.alloc (.cells #[.bool a.lo.num.g, .slice a.lo.num.a a.lo.num.n a.lo.num.c, .bool a.lo.den.g, .slice a.lo.den.a a.lo.den.n a.lo.den.c, .bool a.hi.num.g, .slice a.hi.num.a a.hi.num.n a.hi.num.c, .bool a.hi.den.g, .slice a.hi.den.a a.hi.den.n a.hi.den.c] 34)).alloc (.cells #[.bool b.lo.num.g, .slice b.lo.num.a b.lo.num.n b.lo.num.c, .bool b.lo.den.g, .slice b.lo.den.a b.lo.den.n b.lo.den.c, .bool b.hi.num.g, .slice b.hi.num.a b.hi.num.n b.hi.num.c, .bool b.hi.den.g, .slice b.hi.den.a b.hi.den.n b.hi.den.c] 34)).alloc (.cells #[.bool t.num.g, .slice t.num.a t.num.n t.num.c, .bool t.den.g, .slice t.den.a t.den.n t.den.c] 28)).alloc (.cells #[.bool false, .slice none 0 0, .bool false, .slice none 0 0, .bool false, .slice none 0 0, .bool false, .slice none 0 0] 34)) from (((((Below.refl _ _).alloc (by simp) _).alloc (by simp) _).alloc (by simp <;> omega) _).alloc (by simp <;> omega) _))
        go_enter Tryz.func43, Tryz.ntmps43
        go_wp2_with fail
        refine (unhide C1 _ ((unhide HA).later (unhide B0))).mono ?_
        rintro e w1 ⟨rfl, hb⟩
        have s1 := hb.size
        simp at s1
        have k0_0 : w1.cell? ⟨w.heap.size, 0, none⟩ = some (.bool a.lo.num.g) := cell_later hb (by simp [go_sem])
        have k0_1 : w1.cell? ⟨w.heap.size, 1, none⟩ = some (.slice a.lo.num.a a.lo.num.n a.lo.num.c) := cell_later hb (by simp [go_sem])
        have k0_2 : w1.cell? ⟨w.heap.size, 2, none⟩ = some (.bool a.lo.den.g) := cell_later hb (by simp [go_sem])
        have k0_3 : w1.cell? ⟨w.heap.size, 3, none⟩ = some (.slice a.lo.den.a a.lo.den.n a.lo.den.c) := cell_later hb (by simp [go_sem])
        have k0_4 : w1.cell? ⟨w.heap.size, 4, none⟩ = some (.bool a.hi.num.g) := cell_later hb (by simp [go_sem])
        have k0_5 : w1.cell? ⟨w.heap.size, 5, none⟩ = some (.slice a.hi.num.a a.hi.num.n a.hi.num.c) := cell_later hb (by simp [go_sem])
        have k0_6 : w1.cell? ⟨w.heap.size, 6, none⟩ = some (.bool a.hi.den.g) := cell_later hb (by simp [go_sem])
        have k0_7 : w1.cell? ⟨w.heap.size, 7, none⟩ = some (.slice a.hi.den.a a.hi.den.n a.hi.den.c) := cell_later hb (by simp [go_sem])
        have k1_0 : w1.cell? ⟨w.heap.size + 1, 0, none⟩ = some (.bool b.lo.num.g) := cell_later hb (by simp [go_sem])
        have k1_1 : w1.cell? ⟨w.heap.size + 1, 1, none⟩ = some (.slice b.lo.num.a b.lo.num.n b.lo.num.c) := cell_later hb (by simp [go_sem])
        have k1_2 : w1.cell? ⟨w.heap.size + 1, 2, none⟩ = some (.bool b.lo.den.g) := cell_later hb (by simp [go_sem])
        have k1_3 : w1.cell? ⟨w.heap.size + 1, 3, none⟩ = some (.slice b.lo.den.a b.lo.den.n b.lo.den.c) := cell_later hb (by simp [go_sem])
        have k1_4 : w1.cell? ⟨w.heap.size + 1, 4, none⟩ = some (.bool b.hi.num.g) := cell_later hb (by simp [go_sem])
        have k1_5 : w1.cell? ⟨w.heap.size + 1, 5, none⟩ = some (.slice b.hi.num.a b.hi.num.n b.hi.num.c) := cell_later hb (by simp [go_sem])
        have k1_6 : w1.cell? ⟨w.heap.size + 1, 6, none⟩ = some (.bool b.hi.den.g) := cell_later hb (by simp [go_sem])
        have k1_7 : w1.cell? ⟨w.heap.size + 1, 7, none⟩ = some (.slice b.hi.den.a b.hi.den.n b.hi.den.c) := cell_later hb (by simp [go_sem])
        have k2_0 : w1.cell? ⟨w.heap.size + 1 + 1, 0, none⟩ = some (.bool t.num.g) := cell_later hb (by simp [go_sem])
        have k2_1 : w1.cell? ⟨w.heap.size + 1 + 1, 1, none⟩ = some (.slice t.num.a t.num.n t.num.c) := cell_later hb (by simp [go_sem])
        have k2_2 : w1.cell? ⟨w.heap.size + 1 + 1, 2, none⟩ = some (.bool t.den.g) := cell_later hb (by simp [go_sem])
        have k2_3 : w1.cell? ⟨w.heap.size + 1 + 1, 3, none⟩ = some (.slice t.den.a t.den.n t.den.c) := cell_later hb (by simp [go_sem])
        have k3_0 : w1.cell? ⟨w.heap.size + 1 + 1 + 1, 0, none⟩ = some (.bool false) := cell_later hb (by simp [go_sem])
        have k3_1 : w1.cell? ⟨w.heap.size + 1 + 1 + 1, 1, none⟩ = some (.slice none 0 0) := cell_later hb (by simp [go_sem])
        have k3_2 : w1.cell? ⟨w.heap.size + 1 + 1 + 1, 2, none⟩ = some (.bool false) := cell_later hb (by simp [go_sem])
        have k3_3 : w1.cell? ⟨w.heap.size + 1 + 1 + 1, 3, none⟩ = some (.slice none 0 0) := cell_later hb (by simp [go_sem])
        have k3_4 : w1.cell? ⟨w.heap.size + 1 + 1 + 1, 4, none⟩ = some (.bool false) := cell_later hb (by simp [go_sem])
        have k3_5 : w1.cell? ⟨w.heap.size + 1 + 1 + 1, 5, none⟩ = some (.slice none 0 0) := cell_later hb (by simp [go_sem])
        have k3_6 : w1.cell? ⟨w.heap.size + 1 + 1 + 1, 6, none⟩ = some (.bool false) := cell_later hb (by simp [go_sem])
        have k3_7 : w1.cell? ⟨w.heap.size + 1 + 1 + 1, 7, none⟩ = some (.slice none 0 0) := cell_later hb (by simp [go_sem])
        have z3 : ∀ o, w1.frozen? ⟨w.heap.size + 1 + 1 + 1, o, none⟩ = false := fun o => frozen_later hb (by simp) (by simp [go_sem])
        have HB := hide (below_on (unhide B0) hb)
        clear hb
        go_wp2_with fail
        refine (unhide C2 _ ((unhide HC).later (unhide HB))).mono ?_
        rintro e w2 ⟨rfl, hb⟩
        have s2 := hb.size
        replace z3 := fun o => frozen_later hb (World.block_lt_of_cell? _ _ k3_0) (z3 o)
        replace k0_0 := cell_later hb k0_0
        replace k0_1 := cell_later hb k0_1
        replace k0_2 := cell_later hb k0_2
        replace k0_3 := cell_later hb k0_3
        replace k0_4 := cell_later hb k0_4
        replace k0_5 := cell_later hb k0_5
        replace k0_6 := cell_later hb k0_6
        replace k0_7 := cell_later hb k0_7
        replace k1_0 := cell_later hb k1_0
        replace k1_1 := cell_later hb k1_1
        replace k1_2 := cell_later hb k1_2
        replace k1_3 := cell_later hb k1_3
        replace k1_4 := cell_later hb k1_4
        replace k1_5 := cell_later hb k1_5
        replace k1_6 := cell_later hb k1_6
        replace k1_7 := cell_later hb k1_7
        replace k2_0 := cell_later hb k2_0
        replace k2_1 := cell_later hb k2_1
        replace k2_2 := cell_later hb k2_2
        replace k2_3 := cell_later hb k2_3
        replace k3_0 := cell_later hb k3_0
        replace k3_1 := cell_later hb k3_1
        replace k3_2 := cell_later hb k3_2
        replace k3_3 := cell_later hb k3_3
        replace k3_4 := cell_later hb k3_4
        replace k3_5 := cell_later hb k3_5
        replace k3_6 := cell_later hb k3_6
        replace k3_7 := cell_later hb k3_7
        replace HB := hide (below_on (unhide HB) hb)
        clear hb
        go_wp2_with fail
        refine (unhide C3 _ ((unhide HT).later (unhide HB))).mono ?_
        rintro e w3 ⟨rfl, hb⟩
        have s3 := hb.size
        replace z3 := fun o => frozen_later hb (World.block_lt_of_cell? _ _ k3_0) (z3 o)
        replace k0_0 := cell_later hb k0_0
        replace k0_1 := cell_later hb k0_1
        replace k0_2 := cell_later hb k0_2
        replace k0_3 := cell_later hb k0_3
        replace k0_4 := cell_later hb k0_4
        replace k0_5 := cell_later hb k0_5
        replace k0_6 := cell_later hb k0_6
        replace k0_7 := cell_later hb k0_7
        replace k1_0 := cell_later hb k1_0
        replace k1_1 := cell_later hb k1_1
        replace k1_2 := cell_later hb k1_2
        replace k1_3 := cell_later hb k1_3
        replace k1_4 := cell_later hb k1_4
        replace k1_5 := cell_later hb k1_5
        replace k1_6 := cell_later hb k1_6
        replace k1_7 := cell_later hb k1_7
        replace k2_0 := cell_later hb k2_0
        replace k2_1 := cell_later hb k2_1
        replace k2_2 := cell_later hb k2_2
        replace k2_3 := cell_later hb k2_3
        replace k3_0 := cell_later hb k3_0
        replace k3_1 := cell_later hb k3_1
        replace k3_2 := cell_later hb k3_2
        replace k3_3 := cell_later hb k3_3
        replace k3_4 := cell_later hb k3_4
        replace k3_5 := cell_later hb k3_5
        replace k3_6 := cell_later hb k3_6
        replace k3_7 := cell_later hb k3_7
        replace HB := hide (below_on (unhide HB) hb)
        clear hb
        go_wp2_with fail
        refine (mixPS a b t (vP da) (vP db) (vQ dt) _ ((unhide JA).1.later (unhide HB)) ((unhide JA).2.mono (by omega)) ((unhide JB).1.later (unhide HB)) ((unhide JB).2.mono (by omega)) ((isR_good (unhide JT)).later (unhide HB)) ((bdR_good (unhide JT)).mono (by omega))).mono ?_
        rintro e w4 ⟨r, rfl, hb, o1, o2⟩
        have s4 := hb.size
        simp only [mx_eq] at o1 o2
        have O1 := hide o1
        have O2 := hide o2
        clear o1 o2
        replace z3 := fun o => frozen_later hb (World.block_lt_of_cell? _ _ k3_0) (z3 o)
        replace k3_0 := cell_later hb k3_0
        replace k3_1 := cell_later hb k3_1
        replace k3_2 := cell_later hb k3_2
        replace k3_3 := cell_later hb k3_3
        replace k3_4 := cell_later hb k3_4
        replace k3_5 := cell_later hb k3_5
        replace k3_6 := cell_later hb k3_6
        replace k3_7 := cell_later hb k3_7
        clear k0_0 k0_1 k0_2 k0_3 k0_4 k0_5 k0_6 k0_7 k1_0 k1_1 k1_2 k1_3 k1_4 k1_5 k1_6 k1_7 k2_0 k2_1 k2_2 k2_3
        replace HB := hide (below_on (unhide HB) hb)
        clear hb
        go_wp2_with fail
        refine (fitsSS r _ _ _ _ _ (unhide O1).is (unhide O2).is (dR_pos _) (dR_pos _)).mono ?_
        rintro e w5 ⟨r2, d2, ok, rfl, hb, ov, hu⟩
        have s5 := hb.size
        have OV := hide ov
        have UU := hide hu
        clear ov hu
        replace z3 := fun o => frozen_later hb (World.block_lt_of_cell? _ _ k3_0) (z3 o)
        replace k3_0 := cell_later hb k3_0
        replace k3_1 := cell_later hb k3_1
        replace k3_2 := cell_later hb k3_2
        replace k3_3 := cell_later hb k3_3
        replace k3_4 := cell_later hb k3_4
        replace k3_5 := cell_later hb k3_5
        replace k3_6 := cell_later hb k3_6
        replace k3_7 := cell_later hb k3_7
        replace HB := hide (below_on (unhide HB) hb)
        clear hb
        go_wp2
        refine bodyPost_ret (v := .tuple #[.agg #[.bool r2.lo.num.g, .slice r2.lo.num.a r2.lo.num.n r2.lo.num.c, .bool r2.lo.den.g, .slice r2.lo.den.a r2.lo.den.n r2.lo.den.c, .bool r2.hi.num.g, .slice r2.hi.num.a r2.hi.num.n r2.hi.num.c, .bool r2.hi.den.g, .slice r2.hi.den.a r2.hi.den.n r2.hi.den.c], .bool ok]) (by simp [results, Tryz.results43, go_sem, k3_0, k3_1, k3_2, k3_3, k3_4, k3_5, k3_6, k3_7]) rfl ?_
        exact retS_fin (v := r2) (d := d2) (R := w.heap.size + 1 + 1 + 1) (by omega) (unhide HB) (metS_but (w5 := w5) (v := r2) (G := w.heap.size + 1 + 1 + 1)) ((unhide OV).wide (by omega) (by omega)) (unhide UU)
end Go.Proofs.YtikllcoekcglcaaGreat
namespace Go.Proofs.YtikllcoekcglcaaGreat
open Go.ChangeShapes Go.WideShapes Go.ChangeAt Go.RowKit Go.Joins
set_option linter.unusedVariables false
set_option maxRecDepth 100000
set_option linter.unusedSimpArgs false

theorem own : ownKnob Tryz.prog.godebug = none := by kernel_rfl
theorem laidOut : laidOutB Tryz.prog = true := by kernel_rfl
theorem Tryz.cells67 : Tryz.prog.cellsOf 67 = 2 := by kernel_rfl
theorem Tryz.cells3 : Tryz.prog.cellsOf 3 = 1 := by kernel_rfl

end Go.Proofs.YtikllcoekcglcaaGreat
namespace Go.Proofs.YtikllcoekcglcaaGreat
open Go.ChangeShapes Go.WideShapes Go.ChangeAt Go.RowKit Go.Joins
set_option linter.unusedVariables false
set_option maxRecDepth 100000

def ioSigns : List Char := [104, 97, 114, 110, 101, 115, 115, 32, 49, 55, 102, 56, 49, 55, 52, 50, 48, 50, 48, 100, 54, 98, 55, 99, 49, 55, 50, 99, 98, 48, 56, 57, 101, 51, 52, 55, 54, 99, 52, 98, 49, 53, 55, 57, 52, 100, 99, 97, 52, 98, 52, 51, 54, 99, 49, 52, 52, 48, 56, 101, 56, 55, 101, 102, 99, 49, 101, 52, 50, 51, 51, 54, 32, 99, 117, 116, 32, 97, 116, 32, 108, 111, 111, 112, 46, 101, 120, 97, 109, 112, 108, 101, 47, 103, 48, 48, 52, 48, 57, 47, 108, 97, 119, 115, 46, 70, 110, 67, 117, 114, 118, 101, 115, 32, 108, 111, 111, 112, 46, 101, 120, 97, 109, 112, 108, 101, 47, 103, 48, 48, 52, 48, 57, 47, 108, 97, 119, 115, 46, 70, 110, 83, 119, 101, 101, 112, 115, 32, 108, 111, 111, 112, 46, 101, 120, 97, 109, 112, 108, 101, 47, 103, 48, 48, 52, 48, 57, 47, 108, 97, 119, 115, 46, 70, 110, 67, 108, 105, 112, 115, 32, 108, 111, 111, 112, 46, 101, 120, 97, 109, 112, 108, 101, 47, 103, 48, 48, 52, 48, 57, 47, 108, 97, 119, 115, 46, 70, 110, 66, 111, 120, 101, 115, 32, 108, 111, 111, 112, 46, 101, 120, 97, 109, 112, 108, 101, 47, 103, 48, 48, 52, 48, 57, 47, 108, 97, 119, 115, 46, 70, 110, 69, 120, 97, 99, 116, 67, 117, 114, 118, 101, 65, 116, 32, 108, 111, 111, 112, 46, 101, 120, 97, 109, 112, 108, 101, 47, 103, 48, 48, 52, 48, 57, 47, 108, 97, 119, 115, 46, 70, 110, 69, 120, 97, 99, 116, 83, 112, 108, 105, 116, 67, 117, 114, 118, 101, 32, 108, 111, 111, 112, 46, 101, 120, 97, 109, 112, 108, 101, 47, 103, 48, 48, 52, 48, 57, 47, 108, 97, 119, 115, 46, 70, 110, 69, 120, 97, 99, 116, 82, 97, 105, 115, 101, 67, 117, 114, 118, 101, 32, 108, 111, 111, 112, 46, 101, 120, 97, 109, 112, 108, 101, 47, 103, 48, 48, 52, 48, 57, 47, 108, 97, 119, 115, 46, 70, 110, 69, 120, 97, 99, 116, 80, 111, 119, 101, 114, 115, 79, 102, 32, 108, 111, 111, 112, 46, 101, 120, 97, 109, 112, 108, 101, 47, 103, 48, 48, 52, 48, 57, 47, 108, 97, 119, 115, 46, 70, 110, 69, 120, 97, 99, 116, 83, 119, 101, 101, 112, 79, 102, 32, 108, 111, 111, 112, 46, 101, 120, 97, 109, 112, 108, 101, 47, 103, 48, 48, 52, 48, 57, 47, 108, 97, 119, 115, 46, 70, 110, 69, 120, 97, 99, 116, 77, 105, 120, 80, 116, 32, 108, 111, 111, 112, 46, 101, 120, 97, 109, 112, 108, 101, 47, 103, 48, 48, 52, 48, 57, 47, 108, 97, 119, 115, 46, 70, 110, 69, 120, 97, 99, 116, 82, 105, 110, 103, 65, 114, 101, 97, 32, 108, 111, 111, 112, 46, 101, 120, 97, 109, 112, 108, 101, 47, 103, 48, 48, 52, 48, 57, 47, 108, 97, 119, 115, 46, 70, 110, 69, 120, 97, 99, 116, 67, 108, 105, 112, 76, 111, 119, 32, 108, 111, 111, 112, 46, 101, 120, 97, 109, 112, 108, 101, 47, 103, 48, 48, 52, 48, 57, 47, 108, 97, 119, 115, 46, 70, 110, 69, 120, 97, 99, 116, 67, 108, 105, 112, 72, 105, 103, 104, 32, 108, 111, 111, 112, 46, 101, 120, 97, 109, 112, 108, 101, 47, 103, 48, 48, 52, 48, 57, 47, 108, 97, 119, 115, 46, 70, 110, 69, 120, 97, 99, 116, 67, 108, 105, 112, 66, 111, 120].map Char.ofNat
theorem io_eq : Tryz.pinned.checked.prog.initOrder = String.ofList ioSigns := by kernel_rfl
theorem io_list : Tryz.pinned.checked.prog.initOrder.toList = ioSigns := by rw [io_eq, String.toList_ofList]
theorem io_words : behindMainWord (wordsSigns Tryz.pinned.checked.prog.initOrder.toList) = "cut".toList :: (wordsSigns (ioSigns.drop 77)) := by rw [io_list]; kernel_rfl
theorem make_of (P : Program) (rest : List (List Char)) (h : behindMainWord (wordsSigns P.initOrder.toList) = "cut".toList :: rest) : P.make = some .cut := by
  unfold Program.make
  rw [h]
  kernel_rfl
theorem strip_of (rest : List (List Char)) : stripLifts liftWords ("cut".toList :: rest) = ([], "cut".toList :: rest) := by kernel_rfl
theorem enter_of (P : Program) (rest : List (List Char)) (h : behindMainWord (wordsSigns P.initOrder.toList) = "cut".toList :: rest) (h1 : P.laysLater = false) (h2 : P.bearsReflect = false) (h3 : P.doorFits [] = true) : P.mayEnter = true := by
  unfold Program.mayEnter
  rw [h]
  simp only [strip_of, h1, h2, h3]
  kernel_rfl
theorem io_lays : Tryz.pinned.checked.prog.laysLater = false := by
  unfold Program.laysLater
  rw [← Array.any_toList]
  kernel_rfl
theorem io_refl : Tryz.pinned.checked.prog.bearsReflect = false := by kernel_rfl
theorem io_head : Tryz.pinned.checked.prog.headLifts = [] := by
  unfold Program.headLifts
  rw [io_words]
  kernel_rfl
theorem io_door : Tryz.pinned.checked.prog.doorFits [] = true := by kernel_rfl
theorem io_enter : Tryz.pinned.checked.prog.mayEnter = true := enter_of _ _ io_words io_lays io_refl io_door
theorem io_lifts : Tryz.pinned.checked.prog.liftsFinal = false := by
  unfold Program.liftsFinal
  rw [io_words, io_head]
  kernel_rfl
theorem io_make : Tryz.pinned.checked.prog.make = some .cut := make_of _ _ io_words
end Go.Proofs.YtikllcoekcglcaaGreat
namespace Go.Proofs.YtikllcoekcglcaaGreat
open Go.ChangeShapes Go.WideShapes Go.ChangeAt Go.RowKit Go.Joins
set_option linter.unusedVariables false
set_option maxRecDepth 100000
set_option linter.unusedSimpArgs false

theorem Tryz.cells69 : Tryz.prog.cellsOf 69 = 4 := by kernel_rfl

theorem open_two {H : Type} {enc : TypeId × Value → H} {W : World} {m : Nat} {c0 c1 : Value} {y0 y1 : DataW H × List MemPlace}
    (hy0 : DataW.trod enc Tryz.prog W 0 (fun _ => true) true m 4 [c0] = some y0) (hy1 : DataW.trod enc Tryz.prog W 0 (fun _ => true) true m 24 [c1] = some y1) :
    ∃ (g : Bool) (a : Option Addr) (n c : Nat) (xs : List Int), c0 = .bool g ∧ c1 = .slice a n c ∧ Sl W a xs ∧ xs.length = n ∧ n ≤ maxLen ∧ ∀ x ∈ xs, (Lit.int .i64 x).wf = true := by
  obtain ⟨g, e0, _⟩ := DataW.trod_bool Tryz.underlying4 hy0
  simp only [List.cons.injEq, and_true] at e0
  subst e0
  rcases open_ints Tryz.underlying24 Tryz.underlying3 Tryz.cells3 hy1 with ⟨hcs, _⟩ | ⟨x, l, c, zs, hcs, _, hl, hm, hz, _, hcell, hwz⟩
  · simp only [List.cons.injEq, and_true] at hcs
    subst hcs
    exact ⟨g, none, 0, 0, [], rfl, rfl, .inl rfl, rfl, Nat.zero_le _, fun x hx => by cases hx⟩
  · simp only [List.cons.injEq, and_true] at hcs
    subst hcs
    simp only [if_true] at hz
    have hlen : (zs.take l).length = l := by rw [List.length_take]; omega
    refine ⟨g, some x, l, c, zs.take l, rfl, rfl, ?_, hlen, Nat.le_trans hl hm, fun y hy => hwz y (List.mem_of_mem_take hy)⟩
    by_cases h0 : l = 0
    · subst h0; exact .inl (by simp)
    · obtain ⟨b, off, spot⟩ := x
      have hc := hcell 0 (by omega)
      have hspot : spot = none := by simpa [Addr.add] using World.cell?_spot hc
      subst hspot
      refine .inr ⟨b, off, rfl, ?_, fun i hi => ?_⟩
      · exact World.block_lt_of_cell? _ _ hc
      · have := hcell i (by omega)
        have e : (zs.take l).getD i 0 = zs.getD i 0 := by
          simp only [List.getD_eq_getElem?_getD, List.getElem?_take]
          rw [if_pos (by omega)]
        rw [e]
        by_cases hi0 : i = 0
        · subst hi0; simpa [Addr.add] using this
        · simpa [Addr.add, hi0] using this

theorem open_rat {H : Type} {enc : TypeId × Value → H} {W : World} {r : Reach} {b0 : Nat} {v : Value} {d : DataW H} {p : List MemPlace}
    (hv : Value.okWide Tryz.prog W r b0 69 v) (h : DataW.Trod enc Tryz.prog W 0 (fun _ => true) true 69 v d p) :
    ∃ (g : Bool) (a : Option Addr) (n c : Nat) (xs : List Int) (h : Bool) (b : Option Addr) (q e : Nat) (us : List Int), v = .agg #[.bool g, .slice a n c, .bool h, .slice b q e] ∧ (Sl W a xs ∧ xs.length = n ∧ n ≤ maxLen) ∧ (Sl W b us ∧ us.length = q ∧ q ≤ maxLen) := by
  obtain ⟨cs, rfl, hsz⟩ := okWide_struct Tryz.underlying69 hv
  obtain ⟨c0, c1, c2, c3, rfl⟩ := array4 (hsz.trans Tryz.cells69)
  obtain ⟨fuel, hf⟩ := h
  obtain ⟨y0, y1, n, hx, _, h0, h1⟩ := trod_struct2 Tryz.underlying69 hf
  have k0 : DataW.trod enc Tryz.prog W 0 (fun _ => true) true n 67 [c0, c1] = some y0 := by simpa [Value.cells, Tryz.cells67] using h0
  have k1 : DataW.trod enc Tryz.prog W 0 (fun _ => true) true n 67 [c2, c3] = some y1 := by simpa [Value.cells, Tryz.cells67] using h1
  obtain ⟨z0, z1, n1, _, _, p0, p1⟩ := trod_struct2 Tryz.underlying67 k0
  obtain ⟨z2, z3, n2, _, _, p2, p3⟩ := trod_struct2 Tryz.underlying67 k1
  have c_b : Tryz.prog.cellsOf 4 = 1 := by kernel_rfl
  have c_s : Tryz.prog.cellsOf 24 = 1 := by kernel_rfl
  obtain ⟨g, a, n', c, xs, rfl, rfl, s1, s2, s3, _⟩ := open_two (c0 := c0) (c1 := c1) (by simpa [c_b] using p0) (by simpa [c_s] using p1)
  obtain ⟨h, b, q, e, us, rfl, rfl, t1, t2, t3, _⟩ := open_two (c0 := c2) (c1 := c3) (by simpa [c_b] using p2) (by simpa [c_s] using p3)
  exact ⟨g, a, n', c, xs, h, b, q, e, us, rfl, ⟨s1, s2, s3⟩, ⟨t1, t2, t3⟩⟩
end Go.Proofs.YtikllcoekcglcaaGreat
namespace Go.Proofs.YtikllcoekcglcaaGreat
open Go.ChangeShapes Go.WideShapes Go.ChangeAt Go.RowKit Go.Joins
set_option linter.unusedVariables false
set_option maxRecDepth 100000
set_option linter.unusedSimpArgs false

theorem open_Q {H : Type} {enc : TypeId × Value → H} {W : World} {r : Reach} {b0 : Nat} {v : Value} {d : DataW H} {p : List MemPlace}
    (hv : Value.okWide Tryz.prog W r b0 69 v) (h : DataW.Trod enc Tryz.prog W 0 (fun _ => true) true 69 v d p) :
    ∃ (q : QV) (e : QD), v = .agg #[.bool q.num.g, .slice q.num.a q.num.n q.num.c, .bool q.den.g, .slice q.den.a q.den.n q.den.c] ∧ AllSl W [(q.num, e.num), (q.den, e.den)] ∧ q.num.n ≤ maxLen ∧ q.den.n ≤ maxLen := by
  obtain ⟨g, a, n, c, xs, g', b, q, e, us, rfl, ⟨hx, hn, hm⟩, ⟨hu, hq, hk⟩⟩ := open_rat hv h
  exact ⟨⟨⟨g, a, n, c⟩, ⟨g', b, q, e⟩⟩, ⟨⟨g, xs⟩, ⟨g', us⟩⟩, rfl, AllSl.cons ⟨rfl, hx, hn⟩ (AllSl.cons ⟨rfl, hu, hq⟩ (AllSl.nil _)), hm, hk⟩
end Go.Proofs.YtikllcoekcglcaaGreat
namespace Go.Proofs.YtikllcoekcglcaaGreat
open Go.ChangeShapes Go.WideShapes Go.ChangeAt Go.RowKit Go.Joins
set_option linter.unusedVariables false
set_option maxRecDepth 100000
set_option linter.unusedSimpArgs false

theorem Tryz.cells80 : Tryz.prog.cellsOf 80 = 8 := by kernel_rfl
theorem array_8 {α : Type} {cs : Array α} (h : cs.size = 8) : ∃ a b c d e f g k, cs = #[a, b, c, d, e, f, g, k] := by
  obtain ⟨l⟩ := cs
  match l, h with
  | [a, b, c, d, e, f, g, k], _ => exact ⟨a, b, c, d, e, f, g, k, rfl⟩

theorem open_four {H : Type} {enc : TypeId × Value → H} {W : World} {n : Nat} {c0 c1 c2 c3 : Value} {y : DataW H × List MemPlace}
    (h : DataW.trod enc Tryz.prog W 0 (fun _ => true) true n 69 [c0, c1, c2, c3] = some y) :
    ∃ (q : QV) (e : QD), c0 = .bool q.num.g ∧ c1 = .slice q.num.a q.num.n q.num.c ∧ c2 = .bool q.den.g ∧ c3 = .slice q.den.a q.den.n q.den.c ∧ AllSl W [(q.num, e.num), (q.den, e.den)] ∧ q.num.n ≤ maxLen ∧ q.den.n ≤ maxLen := by
  obtain ⟨y0, y1, n', hx, _, h0, h1⟩ := trod_struct2 Tryz.underlying69 h
  have k0 : DataW.trod enc Tryz.prog W 0 (fun _ => true) true n' 67 [c0, c1] = some y0 := by simpa [Tryz.cells67] using h0
  have k1 : DataW.trod enc Tryz.prog W 0 (fun _ => true) true n' 67 [c2, c3] = some y1 := by simpa [Tryz.cells67] using h1
  obtain ⟨z0, z1, n1, _, _, p0, p1⟩ := trod_struct2 Tryz.underlying67 k0
  obtain ⟨z2, z3, n2, _, _, p2, p3⟩ := trod_struct2 Tryz.underlying67 k1
  have c_b : Tryz.prog.cellsOf 4 = 1 := by kernel_rfl
  have c_s : Tryz.prog.cellsOf 24 = 1 := by kernel_rfl
  obtain ⟨g, a, m, c, xs, rfl, rfl, s1, s2, s3, _⟩ := open_two (c0 := c0) (c1 := c1) (by simpa [c_b] using p0) (by simpa [c_s] using p1)
  obtain ⟨g', b, q, e, us, rfl, rfl, t1, t2, t3, _⟩ := open_two (c0 := c2) (c1 := c3) (by simpa [c_b] using p2) (by simpa [c_s] using p3)
  exact ⟨⟨⟨g, a, m, c⟩, ⟨g', b, q, e⟩⟩, ⟨⟨g, xs⟩, ⟨g', us⟩⟩, rfl, rfl, rfl, rfl, AllSl.cons ⟨rfl, s1, s2⟩ (AllSl.cons ⟨rfl, t1, t2⟩ (AllSl.nil _)), s3, t3⟩

theorem open_S {H : Type} {enc : TypeId × Value → H} {W : World} {r : Reach} {b0 : Nat} {v : Value} {d : DataW H} {p : List MemPlace}
    (hv : Value.okWide Tryz.prog W r b0 80 v) (h : DataW.Trod enc Tryz.prog W 0 (fun _ => true) true 80 v d p) :
    ∃ (s : SV) (e : SD), v = .agg #[.bool s.lo.num.g, .slice s.lo.num.a s.lo.num.n s.lo.num.c, .bool s.lo.den.g, .slice s.lo.den.a s.lo.den.n s.lo.den.c, .bool s.hi.num.g, .slice s.hi.num.a s.hi.num.n s.hi.num.c, .bool s.hi.den.g, .slice s.hi.den.a s.hi.den.n s.hi.den.c] ∧ AllSl W [(s.lo.num, e.lo.num), (s.lo.den, e.lo.den), (s.hi.num, e.hi.num), (s.hi.den, e.hi.den)] ∧ s.lo.num.n ≤ maxLen ∧ s.lo.den.n ≤ maxLen ∧ s.hi.num.n ≤ maxLen ∧ s.hi.den.n ≤ maxLen := by
  obtain ⟨cs, rfl, hsz⟩ := okWide_struct Tryz.underlying80 hv
  obtain ⟨c0, c1, c2, c3, c4, c5, c6, c7, rfl⟩ := array_8 (hsz.trans Tryz.cells80)
  obtain ⟨fuel, hf⟩ := h
  obtain ⟨y0, y1, n, hx, _, h0, h1⟩ := trod_struct2 Tryz.underlying80 hf
  have k0 : DataW.trod enc Tryz.prog W 0 (fun _ => true) true n 69 [c0, c1, c2, c3] = some y0 := by simpa [Value.cells, Tryz.cells69] using h0
  have k1 : DataW.trod enc Tryz.prog W 0 (fun _ => true) true n 69 [c4, c5, c6, c7] = some y1 := by simpa [Value.cells, Tryz.cells69] using h1
  obtain ⟨q, e, rfl, rfl, rfl, rfl, s1, m1, m2⟩ := open_four k0
  obtain ⟨q', e', rfl, rfl, rfl, rfl, s2, m3, m4⟩ := open_four k1
  exact ⟨⟨q, q'⟩, ⟨e, e'⟩, rfl, AllSl.cons s1.head (AllSl.cons s1.tail.head (AllSl.cons s2.head (AllSl.cons s2.tail.head (AllSl.nil _)))), m1, m2, m3, m4⟩
end Go.Proofs.YtikllcoekcglcaaGreat
namespace Go.Proofs.YtikllcoekcglcaaGreat
open Go.RowKit
set_option linter.unusedVariables false
set_option maxRecDepth 100000
set_option linter.unusedSimpArgs false

/-- The cells of some values in a row. -/
def PAtQ (w : World) (a : Option Addr) (l : List (QV × QD)) : Prop := l = [] ∨ ∃ b off, a = some ⟨b, off, none⟩ ∧ b < w.heap.size ∧ ∀ i (h : i < l.length), w.cell? ⟨b, off + i * 4, none⟩ = some (.bool l[i].1.num.g) ∧ w.cell? ⟨b, off + i * 4 + 1, none⟩ = some (.slice l[i].1.num.a l[i].1.num.n l[i].1.num.c) ∧ w.cell? ⟨b, off + i * 4 + 2, none⟩ = some (.bool l[i].1.den.g) ∧ w.cell? ⟨b, off + i * 4 + 3, none⟩ = some (.slice l[i].1.den.a l[i].1.den.n l[i].1.den.c)
theorem PAtQ.later {w w' : World} {a : Option Addr} {l : List (QV × QD)} (h : PAtQ w a l) (hb : Below w.heap.size w w') : PAtQ w' a l := by
  rcases h with h | ⟨b, off, rfl, h1, h2⟩
  · exact .inl h
  · exact .inr ⟨b, off, rfl, Nat.lt_of_lt_of_le h1 hb.size, fun i hi => ⟨cell_later hb ((h2 i hi).1), cell_later hb ((h2 i hi).2.1), cell_later hb ((h2 i hi).2.2.1), cell_later hb ((h2 i hi).2.2.2)⟩⟩
structure PSlQ (w : World) (a : Option Addr) (l : List (QV × QD)) : Prop where
  at_ : PAtQ w a l
  rd : ∀ p ∈ l, AllSl w [(p.1.num, p.2.num), (p.1.den, p.2.den)]
theorem PSlQ.later {w w' : World} {a : Option Addr} {l : List (QV × QD)} (h : PSlQ w a l) (hb : Below w.heap.size w w') : PSlQ w' a l := ⟨h.at_.later hb, fun p hp => (h.rd p hp).later hb⟩
/-- .. as an argument. -/
structure PArQ (w : World) (a : Option Addr) (n c : Nat) (l : List (QV × QD)) : Prop where
  at_ : PAtQ w a l
  rd : ∀ p ∈ l, AllAr w [(p.1.num, p.2.num), (p.1.den, p.2.den)]
  len : l.length = n
  cap : n ≤ c
  top : c ≤ maxLen
theorem PArQ.later {w w' : World} {a : Option Addr} {n c : Nat} {l : List (QV × QD)} (h : PArQ w a n c l) (hb : Below w.heap.size w w') : PArQ w' a n c l := ⟨h.at_.later hb, fun p hp => (h.rd p hp).later hb, h.len, h.cap, h.top⟩
theorem PArQ.sl {w : World} {a : Option Addr} {n c : Nat} {l : List (QV × QD)} (h : PArQ w a n c l) : PSlQ w a l := ⟨h.at_, fun p hp => (h.rd p hp).sl⟩
def lenQ (p : QV × QD) : Nat := p.1.num.n + p.1.den.n
def lenPQ : List (QV × QD) → Nat
  | [] => 0
  | p :: l => lenQ p + lenPQ l
/-- The numbers in some values. -/
def zipPQ (l : List (QV × QD)) : List (BV × BD) := l.flatMap (fun p => [(p.1.num, p.2.num), (p.1.den, p.2.den)])
theorem zipPQ_mem {l : List (QV × QD)} {p : QV × QD} (h : p ∈ l) {x : BV × BD} (hx : x ∈ [(p.1.num, p.2.num), (p.1.den, p.2.den)]) : x ∈ zipPQ l := List.mem_flatMap.2 ⟨p, h, hx⟩
/-- Some values in a row that is the law's own, at block G; their numbers in blocks from lo to below hi. -/
structure POwQ (lo hi : Nat) (w : World) (G n c : Nat) (l : List (QV × QD)) : Prop where
  row : ∃ M, w.ownsRow G 28 4 (.slice (some ⟨G, 0, none⟩) n c) n M ∧ ∀ i (h : i < l.length), M[i * 4]? = some (.bool l[i].1.num.g) ∧ M[i * 4 + 1]? = some (.slice l[i].1.num.a l[i].1.num.n l[i].1.num.c) ∧ M[i * 4 + 2]? = some (.bool l[i].1.den.g) ∧ M[i * 4 + 3]? = some (.slice l[i].1.den.a l[i].1.den.n l[i].1.den.c)
  own : AllOwn lo hi w (zipPQ l)
  ar : ∀ p ∈ l, AllAr w [(p.1.num, p.2.num), (p.1.den, p.2.den)]
  len : l.length = n
theorem ownsRow_later {w w' : World} {G g n c size : Nat} {e : TypeId} {M : List Value} (h : w.ownsRow G e size (.slice (some ⟨g, 0, none⟩) n c) n M) (hb : Below w.heap.size w w') : w'.ownsRow G e size (.slice (some ⟨g, 0, none⟩) n c) n M := by
  refine ⟨h.1, ?_⟩
  rcases h.2 with ⟨h', _⟩ | ⟨g', cap, cur, hv, h1, hg, r⟩
  · simp at h'
  · refine .inr ⟨g', cap, cur, hv, h1, ?_, r⟩
    rw [hb.block g' (Array.getElem?_eq_some_iff.1 hg).1]
    exact hg
theorem POwQ.later {lo hi : Nat} {w w' : World} {G n c : Nat} {l : List (QV × QD)} (h : POwQ lo hi w G n c l) (hb : Below w.heap.size w w') : POwQ lo hi w' G n c l := by
  obtain ⟨M, hr, hM⟩ := h.row
  exact ⟨⟨M, ownsRow_later hr hb, hM⟩, h.own.later hb, fun p hp => (h.ar p hp).later hb, h.len⟩
theorem POwQ.arg {lo hi : Nat} {w : World} {G n c : Nat} {l : List (QV × QD)} (h : POwQ lo hi w G n c l) : PArQ w (some ⟨G, 0, none⟩) n c l := by
  obtain ⟨M, hr, hM⟩ := h.row
  have hl := h.len
  have h2 := hr.2
  rcases h2 with ⟨h', _⟩ | ⟨g', cap, cur, hv, h1, hg, r1, r2, r3⟩
  · simp at h'
  simp only [Value.slice.injEq, Option.some.injEq, Addr.mk.injEq, and_true, true_and] at hv
  obtain ⟨rfl, rfl⟩ := hv
  refine ⟨.inr ⟨G, 0, rfl, (Array.getElem?_eq_some_iff.1 hg).1, fun i hi => ?_⟩, h.ar, hl, r1, r2⟩
  have hc := hM i hi
  refine ⟨?_, ?_, ?_, ?_⟩ <;> rw [Nat.zero_add, hr.cellAt _ (by omega)]
  · exact hc.1
  · exact hc.2.1
  · exact hc.2.2.1
  · exact hc.2.2.2
theorem Tryz.info28 : (Tryz.prog.info? 28).map (fun i => (i.zero, i.size, i.bytes)) = some (some (.agg #[.bool false, .slice none 0 0, .bool false, .slice none 0 0]), 4, 64) := by kernel_rfl
end Go.Proofs.YtikllcoekcglcaaGreat
namespace Go.Proofs.YtikllcoekcglcaaGreat
open Go.RowKit
set_option linter.unusedVariables false
set_option maxRecDepth 100000
set_option linter.unusedSimpArgs false

/-- The mark that stands for a sign. -/
def sg (k : Int) : Bool := (k % 3 == 0)
/-- The cells of some fractions from block G's start on. -/
def RowQ (w : World) (G : Nat) (l : List (QV × QD)) : Prop := ∃ cur, w.heap[G]? = some (.cells cur 28 (0, 0)) ∧ ∀ j p, l[j]? = some p → cur[j * 4]? = some (.bool p.1.num.g) ∧ cur[j * 4 + 1]? = some (.slice p.1.num.a p.1.num.n p.1.num.c) ∧ cur[j * 4 + 2]? = some (.bool p.1.den.g) ∧ cur[j * 4 + 3]? = some (.slice p.1.den.a p.1.den.n p.1.den.c)
theorem mid_ne {α : Type} {pre post : List α} {y y' : α} {j : Nat} (h : j ≠ pre.length) : (pre ++ y :: post)[j]? = (pre ++ y' :: post)[j]? := by
  by_cases c : j < pre.length
  · rw [List.getElem?_append_left c, List.getElem?_append_left c]
  · rw [List.getElem?_append_right (by omega), List.getElem?_append_right (by omega)]
    obtain ⟨m, hm⟩ : ∃ m, j - pre.length = m + 1 := ⟨j - pre.length - 1, by omega⟩
    rw [hm, List.getElem?_cons_succ, List.getElem?_cons_succ]
theorem mid_eq {α : Type} {pre post : List α} {y : α} : (pre ++ y :: post)[pre.length]? = some y := by
  rw [List.getElem?_append_right (Nat.le_refl _), Nat.sub_self]; rfl
theorem RowQ.lt {w : World} {G : Nat} {l : List (QV × QD)} (h : RowQ w G l) : G < w.heap.size := by
  obtain ⟨cur, hg, _⟩ := h
  exact (Array.getElem?_eq_some_iff.1 hg).1
theorem RowQ.cellsAt {w : World} {G : Nat} {l : List (QV × QD)} (h : RowQ w G l) {i : Nat} {y : QV × QD} (hy : l[i]? = some y) : w.cell? ⟨G, i * 4, none⟩ = some (.bool y.1.num.g) ∧ w.cell? ⟨G, i * 4 + 1, none⟩ = some (.slice y.1.num.a y.1.num.n y.1.num.c) ∧ w.cell? ⟨G, i * 4 + 2, none⟩ = some (.bool y.1.den.g) ∧ w.cell? ⟨G, i * 4 + 3, none⟩ = some (.slice y.1.den.a y.1.den.n y.1.den.c) := by
  obtain ⟨cur, hg, hc⟩ := h
  have h1 := hc i y hy
  refine ⟨?_, ?_, ?_, ?_⟩ <;> rw [cell_of_row w G _ cur 28 (0, 0) hg]
  · exact h1.1
  · exact h1.2.1
  · exact h1.2.2.1
  · exact h1.2.2.2
theorem RowQ.frozen {w : World} {G : Nat} {l : List (QV × QD)} (h : RowQ w G l) (o : Nat) : w.frozen? ⟨G, o, none⟩ = false := by
  obtain ⟨cur, hg, hc⟩ := h
  exact frozen_of_row w G o cur 28 hg
theorem RowQ.but {w w' : World} {G lo hi : Nat} {l : List (QV × QD)} (h : RowQ w G l) (hb : But lo hi w w') (hG : G < lo ∨ hi ≤ G) : RowQ w' G l := by
  obtain ⟨cur, hg, hc⟩ := h
  exact ⟨cur, by rw [hb.block G (Array.getElem?_eq_some_iff.1 hg).1 hG]; exact hg, hc⟩
theorem RowQ.later {w w' : World} {G : Nat} {l : List (QV × QD)} (h : RowQ w G l) (hb : Below w.heap.size w w') : RowQ w' G l := by
  obtain ⟨cur, hg, hc⟩ := h
  exact ⟨cur, by rw [hb.block G (Array.getElem?_eq_some_iff.1 hg).1]; exact hg, hc⟩
theorem RowQ.g0 {w : World} {G i : Nat} {pre post : List (QV × QD)} {y : QV × QD} (g : Bool) (h : RowQ w G (pre ++ y :: post)) (hi : pre.length = i) : RowQ (w.setCell ⟨G, i * 4, none⟩ (.bool g)) G (pre ++ ((⟨⟨g, y.1.num.a, y.1.num.n, y.1.num.c⟩, y.1.den⟩ : QV), (⟨⟨g, y.2.num.xs⟩, y.2.den⟩ : QD)) :: post) := by
  obtain ⟨cur, hg, hc⟩ := h
  subst hi
  refine ⟨cur.setIfInBounds (pre.length * 4) (.bool g), heap_setCell_same w G (pre.length * 4) cur 28 (.bool g) hg, fun j p hp => ?_⟩
  by_cases e : j = pre.length
  · subst e
    rw [mid_eq] at hp
    obtain rfl := Option.some.inj hp
    have h1 := hc pre.length y mid_eq
    have hs : pre.length * 4 < cur.size := (Array.getElem?_eq_some_iff.1 (h1.1)).1
    refine ⟨?_, ?_, ?_, ?_⟩
    · simp [hs]
    · rw [Array.getElem?_setIfInBounds_ne (by omega)]; exact h1.2.1
    · rw [Array.getElem?_setIfInBounds_ne (by omega)]; exact h1.2.2.1
    · rw [Array.getElem?_setIfInBounds_ne (by omega)]; exact h1.2.2.2
  · rw [mid_ne e (y' := y)] at hp
    have h1 := hc j p hp
    refine ⟨?_, ?_, ?_, ?_⟩
    · rw [Array.getElem?_setIfInBounds_ne (by omega)]; exact h1.1
    · rw [Array.getElem?_setIfInBounds_ne (by omega)]; exact h1.2.1
    · rw [Array.getElem?_setIfInBounds_ne (by omega)]; exact h1.2.2.1
    · rw [Array.getElem?_setIfInBounds_ne (by omega)]; exact h1.2.2.2
theorem RowQ.g2 {w : World} {G i : Nat} {pre post : List (QV × QD)} {y : QV × QD} (g : Bool) (h : RowQ w G (pre ++ y :: post)) (hi : pre.length = i) : RowQ (w.setCell ⟨G, i * 4 + 2, none⟩ (.bool g)) G (pre ++ ((⟨y.1.num, ⟨g, y.1.den.a, y.1.den.n, y.1.den.c⟩⟩ : QV), (⟨y.2.num, ⟨g, y.2.den.xs⟩⟩ : QD)) :: post) := by
  obtain ⟨cur, hg, hc⟩ := h
  subst hi
  refine ⟨cur.setIfInBounds (pre.length * 4 + 2) (.bool g), heap_setCell_same w G (pre.length * 4 + 2) cur 28 (.bool g) hg, fun j p hp => ?_⟩
  by_cases e : j = pre.length
  · subst e
    rw [mid_eq] at hp
    obtain rfl := Option.some.inj hp
    have h1 := hc pre.length y mid_eq
    have hs : pre.length * 4 + 2 < cur.size := (Array.getElem?_eq_some_iff.1 (h1.2.2.1)).1
    refine ⟨?_, ?_, ?_, ?_⟩
    · rw [Array.getElem?_setIfInBounds_ne (by omega)]; exact h1.1
    · rw [Array.getElem?_setIfInBounds_ne (by omega)]; exact h1.2.1
    · simp [hs]
    · rw [Array.getElem?_setIfInBounds_ne (by omega)]; exact h1.2.2.2
  · rw [mid_ne e (y' := y)] at hp
    have h1 := hc j p hp
    refine ⟨?_, ?_, ?_, ?_⟩
    · rw [Array.getElem?_setIfInBounds_ne (by omega)]; exact h1.1
    · rw [Array.getElem?_setIfInBounds_ne (by omega)]; exact h1.2.1
    · rw [Array.getElem?_setIfInBounds_ne (by omega)]; exact h1.2.2.1
    · rw [Array.getElem?_setIfInBounds_ne (by omega)]; exact h1.2.2.2
theorem But.wide {lo hi lo' hi' : Nat} {w w' : World} (h : But lo hi w w') (h1 : lo' ≤ lo) (h2 : hi ≤ hi') : But lo' hi' w w' := ⟨h.os, h.tape, h.output, h.size, fun k hk hd => h.block k hk (by omega)⟩
/-- A slice of fractions that is the call's own: its row and its numbers in blocks from B to below E. -/
structure PRo (B E : Nat) (w : World) (a : Option Addr) (n c : Nat) (l : List (QV × QD)) : Prop where
  len : l.length = n
  sz : 2 * n + lenPQ l ≤ 3200000
  ml : ∀ p ∈ l, p.1.num.n ≤ 1048576 ∧ p.1.den.n ≤ 1048576
  row : n = 0 ∨ ∃ G lo hi, a = some ⟨G, 0, none⟩ ∧ B ≤ G ∧ G < lo ∧ lo ≤ hi ∧ hi ≤ E ∧ RowQ w G l ∧ AllOwn lo hi w (zipPQ l)
theorem PRo.later {B E : Nat} {w w' : World} {a : Option Addr} {n c : Nat} {l : List (QV × QD)} (h : PRo B E w a n c l) (hb : Below w.heap.size w w') : PRo B E w' a n c l := by
  refine ⟨h.len, h.sz, h.ml, ?_⟩
  rcases h.row with e | ⟨G, lo, hi, e, h1, h2, h3, h4, h5, h6⟩
  · exact .inl e
  · exact .inr ⟨G, lo, hi, e, h1, h2, h3, h4, h5.later hb, h6.later hb⟩
theorem PRo.but {B E lo' hi' : Nat} {w w' : World} {a : Option Addr} {n c : Nat} {l : List (QV × QD)} (h : PRo B E w a n c l) (hb : But lo' hi' w w') (hd : E ≤ lo' ∨ hi' ≤ B) : PRo B E w' a n c l := by
  refine ⟨h.len, h.sz, h.ml, ?_⟩
  rcases h.row with e | ⟨G, lo, hi, e, h1, h2, h3, h4, h5, h6⟩
  · exact .inl e
  · exact .inr ⟨G, lo, hi, e, h1, h2, h3, h4, h5.but hb (by omega), h6.but hb (by omega)⟩
theorem PRo.wide {B E B' E' : Nat} {w : World} {a : Option Addr} {n c : Nat} {l : List (QV × QD)} (h : PRo B E w a n c l) (h1 : B' ≤ B) (h2 : E ≤ E') : PRo B' E' w a n c l := by
  refine ⟨h.len, h.sz, h.ml, ?_⟩
  rcases h.row with e | ⟨G, lo, hi, e, k1, k2, k3, k4, k5, k6⟩
  · exact .inl e
  · exact .inr ⟨G, lo, hi, e, by omega, k2, k3, by omega, k5, k6⟩
theorem PRo.sl {B E : Nat} {w : World} {a : Option Addr} {n c : Nat} {l : List (QV × QD)} (h : PRo B E w a n c l) : PSlQ w a l := by
  rcases h.row with e | ⟨G, lo, hi, e, h1, h2, h3, h4, h5, h6⟩
  · have hl : l = [] := List.length_eq_zero_iff.1 (by rw [h.len]; exact e)
    subst hl
    exact ⟨.inl rfl, fun p hp => by cases hp⟩
  · subst e
    refine ⟨.inr ⟨G, 0, rfl, h5.lt, fun i hi => ?_⟩, fun p hp x hx => h6.sl x (zipPQ_mem hp hx)⟩
    have hc := h5.cellsAt (List.getElem?_eq_getElem hi)
    simpa using hc
theorem PRo.lens {B E : Nat} {w : World} {a : Option Addr} {n c : Nat} {l : List (QV × QD)} (h : PRo B E w a n c l) : ∀ p ∈ l, p.1.num.n ≤ maxLen ∧ p.1.den.n ≤ maxLen := fun p hp => by
  have := h.ml p hp
  unfold maxLen
  omega
theorem PRo.max {B E : Nat} {w : World} {a : Option Addr} {n c : Nat} {l : List (QV × QD)} (h : PRo B E w a n c l) : n ≤ maxLen := by
  have := h.sz
  unfold maxLen
  omega
theorem POwQ.ro {lo hi : Nat} {w : World} {G n c : Nat} {l : List (QV × QD)} (h : POwQ lo hi w G n c l) (hG : G < lo) (hl : lo ≤ hi) (sz : 2 * n + lenPQ l ≤ 3200000) (ml : ∀ p ∈ l, p.1.num.n ≤ 1048576 ∧ p.1.den.n ≤ 1048576) : PRo G hi w (some ⟨G, 0, none⟩) n c l := by
  refine ⟨h.len, sz, ml, .inr ⟨G, lo, hi, rfl, Nat.le_refl _, hG, hl, Nat.le_refl _, ?_, h.own⟩⟩
  obtain ⟨M, hr, hM⟩ := h.row
  rcases hr.2 with ⟨h', _⟩ | ⟨g', cap, cur, hv, _, hg, _, _, _, htake⟩
  · simp at h'
  simp only [Value.slice.injEq, Option.some.injEq, Addr.mk.injEq, and_true, true_and] at hv
  obtain ⟨rfl, rfl⟩ := hv
  refine ⟨cur, hg, fun j p hp => ?_⟩
  have hj : j < l.length := (List.getElem?_eq_some_iff.1 hp).1
  have hc := hM j hj
  have e : l[j] = p := by rw [List.getElem?_eq_getElem hj] at hp; exact Option.some.inj hp
  rw [e] at hc
  have hlen := h.len
  have up : ∀ t v, t < n * 4 → M[t]? = some v → cur[t]? = some v := fun t v ht hv => by
    rw [← htake, List.getElem?_take, if_pos ht] at hv
    simpa using hv
  exact ⟨up _ _ (by omega) hc.1, up _ _ (by omega) hc.2.1, up _ _ (by omega) hc.2.2.1, up _ _ (by omega) hc.2.2.2⟩
end Go.Proofs.YtikllcoekcglcaaGreat
namespace Go.Proofs.YtikllcoekcglcaaGreat
open Go.RowKit
set_option linter.unusedVariables false
set_option maxRecDepth 100000
set_option linter.unusedSimpArgs false

end Go.Proofs.YtikllcoekcglcaaGreat
