/- Marks in slices of spans, or of points of fractions: the laws' functions mark and held. No condition beyond those typed. Written by mkmarks.py. -/
import Derived.Test.YthmpikagenodjaaFlatQ
import Derived.Test.YthmpikagenodjaaPkG13
import Derived.Test.YthmpikagenodjaaPkF13
import Derived.Test.YthmpikagenodjaaFlat
namespace Go.Proofs.Ythmpikagenodjaa
open Go.RowKit
set_option linter.unusedVariables false
set_option maxRecDepth 100000
set_option linter.unusedSimpArgs false

theorem AllSl.Sl {w : World} {v : SV} {d : SD} (h : AllSl w [(v.lo.num, d.lo.num), (v.lo.den, d.lo.den), (v.hi.num, d.hi.num), (v.hi.den, d.hi.den)]) : AllSl w [(v.lo.num, d.lo.num), (v.lo.den, d.lo.den)] := fun p hp => h p (show p ∈ [(v.lo.num, d.lo.num), (v.lo.den, d.lo.den), (v.hi.num, d.hi.num), (v.hi.den, d.hi.den)] from (List.mem_append_left [(v.hi.num, d.hi.num), (v.hi.den, d.hi.den)] hp : p ∈ [(v.lo.num, d.lo.num), (v.lo.den, d.lo.den)] ++ [(v.hi.num, d.hi.num), (v.hi.den, d.hi.den)]))
theorem AllSl.Sr {w : World} {v : SV} {d : SD} (h : AllSl w [(v.lo.num, d.lo.num), (v.lo.den, d.lo.den), (v.hi.num, d.hi.num), (v.hi.den, d.hi.den)]) : AllSl w [(v.hi.num, d.hi.num), (v.hi.den, d.hi.den)] := fun p hp => h p (show p ∈ [(v.lo.num, d.lo.num), (v.lo.den, d.lo.den), (v.hi.num, d.hi.num), (v.hi.den, d.hi.den)] from (List.mem_append_right [(v.lo.num, d.lo.num), (v.lo.den, d.lo.den)] hp : p ∈ [(v.lo.num, d.lo.num), (v.lo.den, d.lo.den)] ++ [(v.hi.num, d.hi.num), (v.hi.den, d.hi.den)]))
theorem AllAr.Sl {w : World} {v : SV} {d : SD} (h : AllAr w [(v.lo.num, d.lo.num), (v.lo.den, d.lo.den), (v.hi.num, d.hi.num), (v.hi.den, d.hi.den)]) : AllAr w [(v.lo.num, d.lo.num), (v.lo.den, d.lo.den)] := fun p hp => h p (show p ∈ [(v.lo.num, d.lo.num), (v.lo.den, d.lo.den), (v.hi.num, d.hi.num), (v.hi.den, d.hi.den)] from (List.mem_append_left [(v.hi.num, d.hi.num), (v.hi.den, d.hi.den)] hp : p ∈ [(v.lo.num, d.lo.num), (v.lo.den, d.lo.den)] ++ [(v.hi.num, d.hi.num), (v.hi.den, d.hi.den)]))
theorem AllAr.Sr {w : World} {v : SV} {d : SD} (h : AllAr w [(v.lo.num, d.lo.num), (v.lo.den, d.lo.den), (v.hi.num, d.hi.num), (v.hi.den, d.hi.den)]) : AllAr w [(v.hi.num, d.hi.num), (v.hi.den, d.hi.den)] := fun p hp => h p (show p ∈ [(v.lo.num, d.lo.num), (v.lo.den, d.lo.den), (v.hi.num, d.hi.num), (v.hi.den, d.hi.den)] from (List.mem_append_right [(v.lo.num, d.lo.num), (v.lo.den, d.lo.den)] hp : p ∈ [(v.lo.num, d.lo.num), (v.lo.den, d.lo.den)] ++ [(v.hi.num, d.hi.num), (v.hi.den, d.hi.den)]))

set_option maxHeartbeats 1000000 in
theorem eqS_at (v v' : SV) (d : SD) (w : World) (h : AllSl w [(v.lo.num, d.lo.num), (v.lo.den, d.lo.den), (v.hi.num, d.hi.num), (v.hi.den, d.hi.den)]) (h' : AllSl w [(v'.lo.num, d.lo.num), (v'.lo.den, d.lo.den), (v'.hi.num, d.hi.num), (v'.hi.den, d.hi.den)]) (hm0 : v.lo.num.n ≤ maxLen) (hm1 : v.lo.den.n ≤ maxLen) (hm2 : v.hi.num.n ≤ maxLen) (hm3 : v.hi.den.n ≤ maxLen) :
    Calls Try.prog 28 #[.agg #[.bool v.lo.num.g, .slice v.lo.num.a v.lo.num.n v.lo.num.c, .bool v.lo.den.g, .slice v.lo.den.a v.lo.den.n v.lo.den.c, .bool v.hi.num.g, .slice v.hi.num.a v.hi.num.n v.hi.num.c, .bool v.hi.den.g, .slice v.hi.den.a v.hi.den.n v.hi.den.c], .agg #[.bool v'.lo.num.g, .slice v'.lo.num.a v'.lo.num.n v'.lo.num.c, .bool v'.lo.den.g, .slice v'.lo.den.a v'.lo.den.n v'.lo.den.c, .bool v'.hi.num.g, .slice v'.hi.num.a v'.hi.num.n v'.hi.num.c, .bool v'.hi.den.g, .slice v'.hi.den.a v'.hi.den.n v'.hi.den.c]] w fun e w' => e = .returned (.bool true) ∧ Below w.heap.size w w' := by
  have HX := hide h
  have HX' := hide h'
  clear h h'
  have B2 := hide (below_two w (.cells #[.bool v.lo.num.g, .slice v.lo.num.a v.lo.num.n v.lo.num.c, .bool v.lo.den.g, .slice v.lo.den.a v.lo.den.n v.lo.den.c, .bool v.hi.num.g, .slice v.hi.num.a v.hi.num.n v.hi.num.c, .bool v.hi.den.g, .slice v.hi.den.a v.hi.den.n v.hi.den.c] 52) (.cells #[.bool v'.lo.num.g, .slice v'.lo.num.a v'.lo.num.n v'.lo.num.c, .bool v'.lo.den.g, .slice v'.lo.den.a v'.lo.den.n v'.lo.den.c, .bool v'.hi.num.g, .slice v'.hi.num.a v'.hi.num.n v'.hi.num.c, .bool v'.hi.den.g, .slice v'.hi.den.a v'.hi.den.n v'.hi.den.c] 52))
  go_enter Try.func28, Try.ntmps28
  go_wp2_with fail
  refine (eqQ_at v.lo v'.lo d.lo _ ((unhide HX).Sl.later (unhide B2)) ((unhide HX').Sl.later (unhide B2)) hm0 hm1).mono ?_
  rintro e w1 ⟨rfl, hb1⟩
  have x4 : w1.cell? ⟨w.heap.size, 4, none⟩ = some (.bool v.hi.num.g) := cell_later hb1 (by simp [go_sem])
  have x5 : w1.cell? ⟨w.heap.size, 5, none⟩ = some (.slice v.hi.num.a v.hi.num.n v.hi.num.c) := cell_later hb1 (by simp [go_sem])
  have x6 : w1.cell? ⟨w.heap.size, 6, none⟩ = some (.bool v.hi.den.g) := cell_later hb1 (by simp [go_sem])
  have x7 : w1.cell? ⟨w.heap.size, 7, none⟩ = some (.slice v.hi.den.a v.hi.den.n v.hi.den.c) := cell_later hb1 (by simp [go_sem])
  have y4 : w1.cell? ⟨w.heap.size + 1, 4, none⟩ = some (.bool v'.hi.num.g) := cell_later hb1 (by simp [go_sem])
  have y5 : w1.cell? ⟨w.heap.size + 1, 5, none⟩ = some (.slice v'.hi.num.a v'.hi.num.n v'.hi.num.c) := cell_later hb1 (by simp [go_sem])
  have y6 : w1.cell? ⟨w.heap.size + 1, 6, none⟩ = some (.bool v'.hi.den.g) := cell_later hb1 (by simp [go_sem])
  have y7 : w1.cell? ⟨w.heap.size + 1, 7, none⟩ = some (.slice v'.hi.den.a v'.hi.den.n v'.hi.den.c) := cell_later hb1 (by simp [go_sem])
  have HB := hide (below_two' hb1)
  clear hb1
  go_wp2_with fail
  refine (eqQ_at v.hi v'.hi d.hi _ ((unhide HX).Sr.later (unhide HB)) ((unhide HX').Sr.later (unhide HB)) hm2 hm3).mono ?_
  rintro e w2 ⟨rfl, hb2⟩
  have HB2 := hide (below_on (unhide HB) hb2)
  clear hb2
  go_wp2
  go_ret
  exact ⟨rfl, unhide HB2⟩

end Go.Proofs.Ythmpikagenodjaa
namespace Go.Proofs.Ythmpikagenodjaa
open Go.RowKit
set_option linter.unusedVariables false
set_option maxRecDepth 100000
set_option linter.unusedSimpArgs false

theorem AllAr.lo {w : World} {v : SV} {d : SD} (h : AllAr w [(v.lo.num, d.lo.num), (v.lo.den, d.lo.den), (v.hi.num, d.hi.num), (v.hi.den, d.hi.den)]) : AllAr w [(v.lo.num, d.lo.num), (v.lo.den, d.lo.den)] := h.Sl
theorem AllAr.hi {w : World} {v : SV} {d : SD} (h : AllAr w [(v.lo.num, d.lo.num), (v.lo.den, d.lo.den), (v.hi.num, d.hi.num), (v.hi.den, d.hi.den)]) : AllAr w [(v.hi.num, d.hi.num), (v.hi.den, d.hi.den)] := h.Sr

structure IsGoodS (w : World) (v : SV) (d : SD) : Prop where
  lo : IsGood w v.lo d.lo
  hi : IsGood w v.hi d.hi
  le : nQ d.lo * dQ d.hi ≤ nQ d.hi * dQ d.lo
theorem IsGoodS.later {w w' : World} {v : SV} {d : SD} (h : IsGoodS w v d) (hb : Below w.heap.size w w') : IsGoodS w' v d := ⟨h.lo.later hb, h.hi.later hb, h.le⟩

end Go.Proofs.Ythmpikagenodjaa
namespace Go.Proofs.Ythmpikagenodjaa
open Go.RowKit
set_option linter.unusedVariables false
set_option maxRecDepth 100000
set_option linter.unusedSimpArgs false

/-- A variable of the law's own: its box at block G, what it leads to at blocks from lo to below hi. -/
structure VarS (wx : World) (G lo hi : Nat) (v : SV) (d : SD) : Prop where
  c0 : wx.cell? ⟨G, 0, none⟩ = some (.bool v.lo.num.g)
  c1 : wx.cell? ⟨G, 1, none⟩ = some (.slice v.lo.num.a v.lo.num.n v.lo.num.c)
  c2 : wx.cell? ⟨G, 2, none⟩ = some (.bool v.lo.den.g)
  c3 : wx.cell? ⟨G, 3, none⟩ = some (.slice v.lo.den.a v.lo.den.n v.lo.den.c)
  c4 : wx.cell? ⟨G, 4, none⟩ = some (.bool v.hi.num.g)
  c5 : wx.cell? ⟨G, 5, none⟩ = some (.slice v.hi.num.a v.hi.num.n v.hi.num.c)
  c6 : wx.cell? ⟨G, 6, none⟩ = some (.bool v.hi.den.g)
  c7 : wx.cell? ⟨G, 7, none⟩ = some (.slice v.hi.den.a v.hi.den.n v.hi.den.c)
  own : AllOwn lo hi wx [(v.lo.num, d.lo.num), (v.lo.den, d.lo.den), (v.hi.num, d.hi.num), (v.hi.den, d.hi.den)]
theorem VarS.later {wx wy : World} {G lo hi : Nat} {v : SV} {d : SD} (h : VarS wx G lo hi v d) (hb : Below wx.heap.size wx wy) : VarS wy G lo hi v d :=
  ⟨cell_later hb h.c0, cell_later hb h.c1, cell_later hb h.c2, cell_later hb h.c3, cell_later hb h.c4, cell_later hb h.c5, cell_later hb h.c6, cell_later hb h.c7, h.own.later hb⟩
theorem VarS.but {wx wy : World} {G lo hi lo' hi' : Nat} {v : SV} {d : SD} (h : VarS wx G lo hi v d) (hb : But lo' hi' wx wy) (hG : G < lo' ∨ hi' ≤ G) (hd : hi ≤ lo' ∨ hi' ≤ lo) : VarS wy G lo hi v d :=
  ⟨hb.cell h.c0 hG, hb.cell h.c1 hG, hb.cell h.c2 hG, hb.cell h.c3 hG, hb.cell h.c4 hG, hb.cell h.c5 hG, hb.cell h.c6 hG, hb.cell h.c7 hG, h.own.but hb hd⟩
theorem VarS.mark {wx wy : World} {G lo hi : Nat} {v : SV} {d d' : SD} (h : VarS wx G lo hi v d) (hb : But lo hi wx wy) (hG : G < lo ∨ hi ≤ G) (ho : AllOwn lo hi wy [(v.lo.num, d'.lo.num), (v.lo.den, d'.lo.den), (v.hi.num, d'.hi.num), (v.hi.den, d'.hi.den)]) : VarS wy G lo hi v d' :=
  ⟨hb.cell h.c0 hG, hb.cell h.c1 hG, hb.cell h.c2 hG, hb.cell h.c3 hG, hb.cell h.c4 hG, hb.cell h.c5 hG, hb.cell h.c6 hG, hb.cell h.c7 hG, ho⟩
theorem VarS.low {wx : World} {G lo hi lo' : Nat} {v : SV} {d : SD} (h : VarS wx G lo hi v d) (hl : lo' ≤ lo) : VarS wx G lo' hi v d := ⟨h.c0, h.c1, h.c2, h.c3, h.c4, h.c5, h.c6, h.c7, h.own.wide hl (Nat.le_refl _)⟩
theorem VarS.start {wx : World} {lo : Nat} {v : SV} {d : SD} (t : TypeId) (h : AllOwn lo wx.heap.size wx [(v.lo.num, d.lo.num), (v.lo.den, d.lo.den), (v.hi.num, d.hi.num), (v.hi.den, d.hi.den)]) : VarS (wx.alloc (.cells #[.bool v.lo.num.g, .slice v.lo.num.a v.lo.num.n v.lo.num.c, .bool v.lo.den.g, .slice v.lo.den.a v.lo.den.n v.lo.den.c, .bool v.hi.num.g, .slice v.hi.num.a v.hi.num.n v.hi.num.c, .bool v.hi.den.g, .slice v.hi.den.a v.hi.den.n v.hi.den.c] t)) wx.heap.size lo wx.heap.size v d :=
  ⟨by simp [go_sem], by simp [go_sem], by simp [go_sem], by simp [go_sem], by simp [go_sem], by simp [go_sem], by simp [go_sem], by simp [go_sem], h.later ((Below.refl _ _).alloc (Nat.le_refl _) _)⟩
theorem VarS.gt {wx : World} {G lo hi : Nat} {v : SV} {d : SD} (h : VarS wx G lo hi v d) : G < wx.heap.size := World.block_lt_of_cell? _ _ h.c0
theorem metS_but {w5 : World} {v : SV} {G : Nat} : But G (G + 1) w5 ((((((((w5.setCell ⟨G, 0, none⟩ (.bool v.lo.num.g)).setCell ⟨G, 1, none⟩ (.slice v.lo.num.a v.lo.num.n v.lo.num.c)).setCell ⟨G, 2, none⟩ (.bool v.lo.den.g)).setCell ⟨G, 3, none⟩ (.slice v.lo.den.a v.lo.den.n v.lo.den.c)).setCell ⟨G, 4, none⟩ (.bool v.hi.num.g)).setCell ⟨G, 5, none⟩ (.slice v.hi.num.a v.hi.num.n v.hi.num.c)).setCell ⟨G, 6, none⟩ (.bool v.hi.den.g)).setCell ⟨G, 7, none⟩ (.slice v.hi.den.a v.hi.den.n v.hi.den.c)) := (((((((((But.refl _ _ _).set (p := ⟨G, 0, none⟩) (Nat.le_refl _) (Nat.lt_succ_self _) _).set (p := ⟨G, 1, none⟩) (Nat.le_refl _) (Nat.lt_succ_self _) _).set (p := ⟨G, 2, none⟩) (Nat.le_refl _) (Nat.lt_succ_self _) _).set (p := ⟨G, 3, none⟩) (Nat.le_refl _) (Nat.lt_succ_self _) _).set (p := ⟨G, 4, none⟩) (Nat.le_refl _) (Nat.lt_succ_self _) _).set (p := ⟨G, 5, none⟩) (Nat.le_refl _) (Nat.lt_succ_self _) _).set (p := ⟨G, 6, none⟩) (Nat.le_refl _) (Nat.lt_succ_self _) _).set (p := ⟨G, 7, none⟩) (Nat.le_refl _) (Nat.lt_succ_self _) _)
end Go.Proofs.Ythmpikagenodjaa
namespace Go.Proofs.Ythmpikagenodjaa
open Go.RowKit
set_option linter.unusedVariables false
set_option maxRecDepth 100000
set_option linter.unusedSimpArgs false

/-- The cells of some values in a row. -/
def PAtS (w : World) (a : Option Addr) (l : List (SV × SD)) : Prop := l = [] ∨ ∃ b off, a = some ⟨b, off, none⟩ ∧ b < w.heap.size ∧ ∀ i (h : i < l.length), w.cell? ⟨b, off + i * 8, none⟩ = some (.bool l[i].1.lo.num.g) ∧ w.cell? ⟨b, off + i * 8 + 1, none⟩ = some (.slice l[i].1.lo.num.a l[i].1.lo.num.n l[i].1.lo.num.c) ∧ w.cell? ⟨b, off + i * 8 + 2, none⟩ = some (.bool l[i].1.lo.den.g) ∧ w.cell? ⟨b, off + i * 8 + 3, none⟩ = some (.slice l[i].1.lo.den.a l[i].1.lo.den.n l[i].1.lo.den.c) ∧ w.cell? ⟨b, off + i * 8 + 4, none⟩ = some (.bool l[i].1.hi.num.g) ∧ w.cell? ⟨b, off + i * 8 + 5, none⟩ = some (.slice l[i].1.hi.num.a l[i].1.hi.num.n l[i].1.hi.num.c) ∧ w.cell? ⟨b, off + i * 8 + 6, none⟩ = some (.bool l[i].1.hi.den.g) ∧ w.cell? ⟨b, off + i * 8 + 7, none⟩ = some (.slice l[i].1.hi.den.a l[i].1.hi.den.n l[i].1.hi.den.c)
theorem PAtS.later {w w' : World} {a : Option Addr} {l : List (SV × SD)} (h : PAtS w a l) (hb : Below w.heap.size w w') : PAtS w' a l := by
  rcases h with h | ⟨b, off, rfl, h1, h2⟩
  · exact .inl h
  · exact .inr ⟨b, off, rfl, Nat.lt_of_lt_of_le h1 hb.size, fun i hi => ⟨cell_later hb ((h2 i hi).1), cell_later hb ((h2 i hi).2.1), cell_later hb ((h2 i hi).2.2.1), cell_later hb ((h2 i hi).2.2.2.1), cell_later hb ((h2 i hi).2.2.2.2.1), cell_later hb ((h2 i hi).2.2.2.2.2.1), cell_later hb ((h2 i hi).2.2.2.2.2.2.1), cell_later hb ((h2 i hi).2.2.2.2.2.2.2)⟩⟩
structure PSlS (w : World) (a : Option Addr) (l : List (SV × SD)) : Prop where
  at_ : PAtS w a l
  rd : ∀ p ∈ l, AllSl w [(p.1.lo.num, p.2.lo.num), (p.1.lo.den, p.2.lo.den), (p.1.hi.num, p.2.hi.num), (p.1.hi.den, p.2.hi.den)]
theorem PSlS.later {w w' : World} {a : Option Addr} {l : List (SV × SD)} (h : PSlS w a l) (hb : Below w.heap.size w w') : PSlS w' a l := ⟨h.at_.later hb, fun p hp => (h.rd p hp).later hb⟩
/-- .. as an argument. -/
structure PArS (w : World) (a : Option Addr) (n c : Nat) (l : List (SV × SD)) : Prop where
  at_ : PAtS w a l
  rd : ∀ p ∈ l, AllAr w [(p.1.lo.num, p.2.lo.num), (p.1.lo.den, p.2.lo.den), (p.1.hi.num, p.2.hi.num), (p.1.hi.den, p.2.hi.den)]
  len : l.length = n
  cap : n ≤ c
  top : c ≤ maxLen
theorem PArS.later {w w' : World} {a : Option Addr} {n c : Nat} {l : List (SV × SD)} (h : PArS w a n c l) (hb : Below w.heap.size w w') : PArS w' a n c l := ⟨h.at_.later hb, fun p hp => (h.rd p hp).later hb, h.len, h.cap, h.top⟩
theorem PArS.sl {w : World} {a : Option Addr} {n c : Nat} {l : List (SV × SD)} (h : PArS w a n c l) : PSlS w a l := ⟨h.at_, fun p hp => (h.rd p hp).sl⟩
def lenS (p : SV × SD) : Nat := p.1.lo.num.n + p.1.lo.den.n + p.1.hi.num.n + p.1.hi.den.n
def lenPS : List (SV × SD) → Nat
  | [] => 0
  | p :: l => lenS p + lenPS l
theorem lenPS_append (l l' : List (SV × SD)) : lenPS (l ++ l') = lenPS l + lenPS l' := by
  induction l with
  | nil => simp [lenPS]
  | cons p l ih => simp only [List.cons_append, lenPS, ih]; omega
/-- The numbers in some values. -/
def zipPS (l : List (SV × SD)) : List (BV × BD) := l.flatMap (fun p => [(p.1.lo.num, p.2.lo.num), (p.1.lo.den, p.2.lo.den), (p.1.hi.num, p.2.hi.num), (p.1.hi.den, p.2.hi.den)])
theorem zipPS_append (l l' : List (SV × SD)) : zipPS (l ++ l') = zipPS l ++ zipPS l' := by simp [zipPS]
theorem zipPS_one (p : SV × SD) : zipPS [p] = [(p.1.lo.num, p.2.lo.num), (p.1.lo.den, p.2.lo.den), (p.1.hi.num, p.2.hi.num), (p.1.hi.den, p.2.hi.den)] := by simp [zipPS]
theorem zipPS_mem {l : List (SV × SD)} {p : SV × SD} (h : p ∈ l) {x : BV × BD} (hx : x ∈ [(p.1.lo.num, p.2.lo.num), (p.1.lo.den, p.2.lo.den), (p.1.hi.num, p.2.hi.num), (p.1.hi.den, p.2.hi.den)]) : x ∈ zipPS l := List.mem_flatMap.2 ⟨p, h, hx⟩
theorem take_succS {l : List (SV × SD)} {i : Nat} (h : i < l.length) : l.take (i + 1) = l.take i ++ [l[i]] := (List.take_append_getElem h).symm

theorem get_sndS {l l' : List (SV × SD)} (h : l.map Prod.snd = l'.map Prod.snd) {i : Nat} (hi : i < l.length) (hi' : i < l'.length) : l[i].2 = l'[i].2 := by
  have := congrArg (fun x => x[i]?) h
  simpa [hi, hi'] using this
set_option maxHeartbeats 4000000 in
theorem eqPS (a a' : Option Addr) (n c c' : Nat) (l l' : List (SV × SD)) (w : World) (h : PSlS w a l) (h' : PSlS w a' l') (hn : l.length = n) (he : l.map Prod.snd = l'.map Prod.snd) (hm : n ≤ maxLen) (ml : ∀ p ∈ l, p.1.lo.num.n ≤ maxLen ∧ p.1.lo.den.n ≤ maxLen ∧ p.1.hi.num.n ≤ maxLen ∧ p.1.hi.den.n ≤ maxLen) :
    Calls Try.prog 10 #[.slice a n c, .slice a' n c'] w fun e w' => e = .returned (.bool true) ∧ Below w.heap.size w w' := by
  have hn' : l'.length = n := by have := congrArg List.length he; simp at this; omega
  have HS := hide h
  have HS' := hide h'
  have HN := hide hn
  have HN' := hide hn'
  have HE := hide he
  have ML := hide ml
  clear h hn ml he hn' h'
  unfold maxLen at hm
  go_enter Try.func10, Try.ntmps10
  go_wp2
  go_loopw [5] (fun iv wr => ∃ (i : Nat), i ≤ n ∧ iv = .int .i64 i ∧ Hid (Below w.heap.size w wr)) (fun iv _ => n - (intOf iv).toNat)
  case atStart => exact ⟨0, Nat.zero_le _, rfl, hide (Below.refl _ _)⟩
  case round =>
    obtain ⟨i, hi, rfl, HB⟩ := hrel
    by_cases hlt : i < n
    · have hlt' : (i : Int) < (n : Int) := by omega
      rcases (unhide HS).at_ with e | ⟨b, off, rfl, hb, hc⟩
      · exact absurd (unhide HN) (by rw [e]; simp; omega)
      have e0 := hc i (by rw [unhide HN]; exact hlt)
      obtain ⟨y, hy⟩ : ∃ y, y = l[i]'(by rw [unhide HN]; exact hlt) := ⟨_, rfl⟩
      rw [← hy] at e0
      have MY : Hid (y ∈ l) := hide (by rw [hy]; exact List.getElem_mem _)
      have EY := hide hy
      clear hy
      have E0 : wr.cell? ⟨b, off + i * 8, none⟩ = some (.bool y.1.lo.num.g) := ((unhide HB).cell (p := ⟨b, off + i * 8, none⟩) hb).trans (e0.1)
      have E1 : wr.cell? ⟨b, off + i * 8 + 1, none⟩ = some (.slice y.1.lo.num.a y.1.lo.num.n y.1.lo.num.c) := ((unhide HB).cell (p := ⟨b, off + i * 8 + 1, none⟩) hb).trans (e0.2.1)
      have E2 : wr.cell? ⟨b, off + i * 8 + 2, none⟩ = some (.bool y.1.lo.den.g) := ((unhide HB).cell (p := ⟨b, off + i * 8 + 2, none⟩) hb).trans (e0.2.2.1)
      have E3 : wr.cell? ⟨b, off + i * 8 + 3, none⟩ = some (.slice y.1.lo.den.a y.1.lo.den.n y.1.lo.den.c) := ((unhide HB).cell (p := ⟨b, off + i * 8 + 3, none⟩) hb).trans (e0.2.2.2.1)
      have E4 : wr.cell? ⟨b, off + i * 8 + 4, none⟩ = some (.bool y.1.hi.num.g) := ((unhide HB).cell (p := ⟨b, off + i * 8 + 4, none⟩) hb).trans (e0.2.2.2.2.1)
      have E5 : wr.cell? ⟨b, off + i * 8 + 5, none⟩ = some (.slice y.1.hi.num.a y.1.hi.num.n y.1.hi.num.c) := ((unhide HB).cell (p := ⟨b, off + i * 8 + 5, none⟩) hb).trans (e0.2.2.2.2.2.1)
      have E6 : wr.cell? ⟨b, off + i * 8 + 6, none⟩ = some (.bool y.1.hi.den.g) := ((unhide HB).cell (p := ⟨b, off + i * 8 + 6, none⟩) hb).trans (e0.2.2.2.2.2.2.1)
      have E7 : wr.cell? ⟨b, off + i * 8 + 7, none⟩ = some (.slice y.1.hi.den.a y.1.hi.den.n y.1.hi.den.c) := ((unhide HB).cell (p := ⟨b, off + i * 8 + 7, none⟩) hb).trans (e0.2.2.2.2.2.2.2)
      clear e0
      clear hc
      rcases (unhide HS').at_ with e | ⟨b', off', rfl, hb', hc'⟩
      · exact absurd (unhide HN') (by rw [e]; simp; omega)
      have e0 := hc' i (by rw [unhide HN']; exact hlt)
      obtain ⟨y', hy'⟩ : ∃ y, y = l'[i]'(by rw [unhide HN']; exact hlt) := ⟨_, rfl⟩
      rw [← hy'] at e0
      have MY' : Hid (y' ∈ l') := hide (by rw [hy']; exact List.getElem_mem _)
      have ED : Hid (y.2 = y'.2) := hide (by rw [unhide EY, hy']; exact get_sndS (unhide HE) _ _)
      clear hy'
      have F0 : wr.cell? ⟨b', off' + i * 8, none⟩ = some (.bool y'.1.lo.num.g) := ((unhide HB).cell (p := ⟨b', off' + i * 8, none⟩) hb').trans (e0.1)
      have F1 : wr.cell? ⟨b', off' + i * 8 + 1, none⟩ = some (.slice y'.1.lo.num.a y'.1.lo.num.n y'.1.lo.num.c) := ((unhide HB).cell (p := ⟨b', off' + i * 8 + 1, none⟩) hb').trans (e0.2.1)
      have F2 : wr.cell? ⟨b', off' + i * 8 + 2, none⟩ = some (.bool y'.1.lo.den.g) := ((unhide HB).cell (p := ⟨b', off' + i * 8 + 2, none⟩) hb').trans (e0.2.2.1)
      have F3 : wr.cell? ⟨b', off' + i * 8 + 3, none⟩ = some (.slice y'.1.lo.den.a y'.1.lo.den.n y'.1.lo.den.c) := ((unhide HB).cell (p := ⟨b', off' + i * 8 + 3, none⟩) hb').trans (e0.2.2.2.1)
      have F4 : wr.cell? ⟨b', off' + i * 8 + 4, none⟩ = some (.bool y'.1.hi.num.g) := ((unhide HB).cell (p := ⟨b', off' + i * 8 + 4, none⟩) hb').trans (e0.2.2.2.2.1)
      have F5 : wr.cell? ⟨b', off' + i * 8 + 5, none⟩ = some (.slice y'.1.hi.num.a y'.1.hi.num.n y'.1.hi.num.c) := ((unhide HB).cell (p := ⟨b', off' + i * 8 + 5, none⟩) hb').trans (e0.2.2.2.2.2.1)
      have F6 : wr.cell? ⟨b', off' + i * 8 + 6, none⟩ = some (.bool y'.1.hi.den.g) := ((unhide HB).cell (p := ⟨b', off' + i * 8 + 6, none⟩) hb').trans (e0.2.2.2.2.2.2.1)
      have F7 : wr.cell? ⟨b', off' + i * 8 + 7, none⟩ = some (.slice y'.1.hi.den.a y'.1.hi.den.n y'.1.hi.den.c) := ((unhide HB).cell (p := ⟨b', off' + i * 8 + 7, none⟩) hb').trans (e0.2.2.2.2.2.2.2)
      clear e0 hc'
      have j0 := (unhide ML) y (unhide MY)
      have R1 := hide (((unhide HS).rd y (unhide MY)).later (unhide HB))
      have R2 := hide (((unhide HS').rd y' (unhide MY')).later (unhide HB))
      go_upto_region 6 with fail
      go_region_held3 (fun w' => w'.cell? ⟨b, off + i * 8, none⟩ = some (.bool y.1.lo.num.g) ∧ w'.cell? ⟨b, off + i * 8 + 1, none⟩ = some (.slice y.1.lo.num.a y.1.lo.num.n y.1.lo.num.c) ∧ w'.cell? ⟨b, off + i * 8 + 2, none⟩ = some (.bool y.1.lo.den.g) ∧ w'.cell? ⟨b, off + i * 8 + 3, none⟩ = some (.slice y.1.lo.den.a y.1.lo.den.n y.1.lo.den.c) ∧ w'.cell? ⟨b, off + i * 8 + 4, none⟩ = some (.bool y.1.hi.num.g) ∧ w'.cell? ⟨b, off + i * 8 + 5, none⟩ = some (.slice y.1.hi.num.a y.1.hi.num.n y.1.hi.num.c) ∧ w'.cell? ⟨b, off + i * 8 + 6, none⟩ = some (.bool y.1.hi.den.g) ∧ w'.cell? ⟨b, off + i * 8 + 7, none⟩ = some (.slice y.1.hi.den.a y.1.hi.den.n y.1.hi.den.c) ∧ w'.cell? ⟨b', off' + i * 8, none⟩ = some (.bool y'.1.lo.num.g) ∧ w'.cell? ⟨b', off' + i * 8 + 1, none⟩ = some (.slice y'.1.lo.num.a y'.1.lo.num.n y'.1.lo.num.c) ∧ w'.cell? ⟨b', off' + i * 8 + 2, none⟩ = some (.bool y'.1.lo.den.g) ∧ w'.cell? ⟨b', off' + i * 8 + 3, none⟩ = some (.slice y'.1.lo.den.a y'.1.lo.den.n y'.1.lo.den.c) ∧ w'.cell? ⟨b', off' + i * 8 + 4, none⟩ = some (.bool y'.1.hi.num.g) ∧ w'.cell? ⟨b', off' + i * 8 + 5, none⟩ = some (.slice y'.1.hi.num.a y'.1.hi.num.n y'.1.hi.num.c) ∧ w'.cell? ⟨b', off' + i * 8 + 6, none⟩ = some (.bool y'.1.hi.den.g) ∧ w'.cell? ⟨b', off' + i * 8 + 7, none⟩ = some (.slice y'.1.hi.den.a y'.1.hi.den.n y'.1.hi.den.c))
        (with_reducible (first | exact ⟨E0, E1, E2, E3, E4, E5, E6, E7, F0, F1, F2, F3, F4, F5, F6, F7⟩ | exact ⟨cd_other E0, cd_other E1, cd_other E2, cd_other E3, cd_other E4, cd_other E5, cd_other E6, cd_other E7, cd_other F0, cd_other F1, cd_other F2, cd_other F3, cd_other F4, cd_other F5, cd_other F6, cd_other F7⟩ | fail))
        (first
        | (go_at_call 28; refine (eqS_at y.1 y'.1 y.2 _ ?_ ?_ j0.1 j0.2.1 j0.2.2.1 j0.2.2.2).mono ?_; exact (unhide R1).drew; (rw [unhide ED]; exact (unhide R2).drew); rintro e w1 ⟨rfl, hb1⟩; have HB1 := hide (below_on (unhide HB) (below_of_drew hb1)); have hbx := below_of_drew hb1; replace E0 := cell_later hbx E0; replace E1 := cell_later hbx E1; replace E2 := cell_later hbx E2; replace E3 := cell_later hbx E3; replace E4 := cell_later hbx E4; replace E5 := cell_later hbx E5; replace E6 := cell_later hbx E6; replace E7 := cell_later hbx E7; replace F0 := cell_later hbx F0; replace F1 := cell_later hbx F1; replace F2 := cell_later hbx F2; replace F3 := cell_later hbx F3; replace F4 := cell_later hbx F4; replace F5 := cell_later hbx F5; replace F6 := cell_later hbx F6; replace F7 := cell_later hbx F7; clear hb1 hbx))
      clear E0 F0 E1 F1 E2 F2 E3 F3 E4 F4 E5 F5 E6 F6 E7 F7
      go_wp2
      go_roundw
      case rel => exact ⟨i + 1, by omega, by go_num, HB1⟩
      case measure => simp [intOf]; omega
    · obtain rfl : i = n := by omega
      go_wp2
      go_ret
      exact ⟨rfl, unhide HB⟩

theorem but_rowS {w : World} {G k : Nat} {u : SV} : But G (G + 1) w ((((((((w.setCell ⟨G, k * 8, none⟩ (.bool u.lo.num.g)).setCell ⟨G, k * 8 + 1, none⟩ (.slice u.lo.num.a u.lo.num.n u.lo.num.c)).setCell ⟨G, k * 8 + 2, none⟩ (.bool u.lo.den.g)).setCell ⟨G, k * 8 + 3, none⟩ (.slice u.lo.den.a u.lo.den.n u.lo.den.c)).setCell ⟨G, k * 8 + 4, none⟩ (.bool u.hi.num.g)).setCell ⟨G, k * 8 + 5, none⟩ (.slice u.hi.num.a u.hi.num.n u.hi.num.c)).setCell ⟨G, k * 8 + 6, none⟩ (.bool u.hi.den.g)).setCell ⟨G, k * 8 + 7, none⟩ (.slice u.hi.den.a u.hi.den.n u.hi.den.c)) := (((((((((But.refl _ _ _).set (p := ⟨G, k * 8, none⟩) (Nat.le_refl G) (Nat.lt_succ_self G) (.bool u.lo.num.g)).set (p := ⟨G, k * 8 + 1, none⟩) (Nat.le_refl G) (Nat.lt_succ_self G) (.slice u.lo.num.a u.lo.num.n u.lo.num.c)).set (p := ⟨G, k * 8 + 2, none⟩) (Nat.le_refl G) (Nat.lt_succ_self G) (.bool u.lo.den.g)).set (p := ⟨G, k * 8 + 3, none⟩) (Nat.le_refl G) (Nat.lt_succ_self G) (.slice u.lo.den.a u.lo.den.n u.lo.den.c)).set (p := ⟨G, k * 8 + 4, none⟩) (Nat.le_refl G) (Nat.lt_succ_self G) (.bool u.hi.num.g)).set (p := ⟨G, k * 8 + 5, none⟩) (Nat.le_refl G) (Nat.lt_succ_self G) (.slice u.hi.num.a u.hi.num.n u.hi.num.c)).set (p := ⟨G, k * 8 + 6, none⟩) (Nat.le_refl G) (Nat.lt_succ_self G) (.bool u.hi.den.g)).set (p := ⟨G, k * 8 + 7, none⟩) (Nat.le_refl G) (Nat.lt_succ_self G) (.slice u.hi.den.a u.hi.den.n u.hi.den.c))

/-- Some values in a row that is the law's own, at block G; their numbers in blocks from lo to below hi. -/
structure POwS (lo hi : Nat) (w : World) (G n c : Nat) (l : List (SV × SD)) : Prop where
  row : ∃ M, w.ownsRow G 52 8 (.slice (some ⟨G, 0, none⟩) n c) n M ∧ ∀ i (h : i < l.length), M[i * 8]? = some (.bool l[i].1.lo.num.g) ∧ M[i * 8 + 1]? = some (.slice l[i].1.lo.num.a l[i].1.lo.num.n l[i].1.lo.num.c) ∧ M[i * 8 + 2]? = some (.bool l[i].1.lo.den.g) ∧ M[i * 8 + 3]? = some (.slice l[i].1.lo.den.a l[i].1.lo.den.n l[i].1.lo.den.c) ∧ M[i * 8 + 4]? = some (.bool l[i].1.hi.num.g) ∧ M[i * 8 + 5]? = some (.slice l[i].1.hi.num.a l[i].1.hi.num.n l[i].1.hi.num.c) ∧ M[i * 8 + 6]? = some (.bool l[i].1.hi.den.g) ∧ M[i * 8 + 7]? = some (.slice l[i].1.hi.den.a l[i].1.hi.den.n l[i].1.hi.den.c)
  own : AllOwn lo hi w (zipPS l)
  ar : ∀ p ∈ l, AllAr w [(p.1.lo.num, p.2.lo.num), (p.1.lo.den, p.2.lo.den), (p.1.hi.num, p.2.hi.num), (p.1.hi.den, p.2.hi.den)]
  len : l.length = n
theorem ownsRow_laterS {w w' : World} {G g n c size : Nat} {e : TypeId} {M : List Value} (h : w.ownsRow G e size (.slice (some ⟨g, 0, none⟩) n c) n M) (hb : Below w.heap.size w w') : w'.ownsRow G e size (.slice (some ⟨g, 0, none⟩) n c) n M := by
  refine ⟨h.1, ?_⟩
  rcases h.2 with ⟨h', _⟩ | ⟨g', cap, cur, hv, h1, hg, r⟩
  · simp at h'
  · refine .inr ⟨g', cap, cur, hv, h1, ?_, r⟩
    rw [hb.block g' (Array.getElem?_eq_some_iff.1 hg).1]
    exact hg
theorem POwS.later {lo hi : Nat} {w w' : World} {G n c : Nat} {l : List (SV × SD)} (h : POwS lo hi w G n c l) (hb : Below w.heap.size w w') : POwS lo hi w' G n c l := by
  obtain ⟨M, hr, hM⟩ := h.row
  exact ⟨⟨M, ownsRow_laterS hr hb, hM⟩, h.own.later hb, fun p hp => (h.ar p hp).later hb, h.len⟩
theorem POwS.arg {lo hi : Nat} {w : World} {G n c : Nat} {l : List (SV × SD)} (h : POwS lo hi w G n c l) : PArS w (some ⟨G, 0, none⟩) n c l := by
  obtain ⟨M, hr, hM⟩ := h.row
  have hl := h.len
  have h2 := hr.2
  rcases h2 with ⟨h', _⟩ | ⟨g', cap, cur, hv, h1, hg, r1, r2, r3⟩
  · simp at h'
  simp only [Value.slice.injEq, Option.some.injEq, Addr.mk.injEq, and_true, true_and] at hv
  obtain ⟨rfl, rfl⟩ := hv
  refine ⟨.inr ⟨G, 0, rfl, (Array.getElem?_eq_some_iff.1 hg).1, fun i hi => ?_⟩, h.ar, hl, r1, r2⟩
  have hc := hM i hi
  refine ⟨?_, ?_, ?_, ?_, ?_, ?_, ?_, ?_⟩ <;> rw [Nat.zero_add, hr.cellAt _ (by omega)]
  · exact hc.1
  · exact hc.2.1
  · exact hc.2.2.1
  · exact hc.2.2.2.1
  · exact hc.2.2.2.2.1
  · exact hc.2.2.2.2.2.1
  · exact hc.2.2.2.2.2.2.1
  · exact hc.2.2.2.2.2.2.2
theorem Try.info52 : (Try.prog.info? 52).map (fun i => (i.zero, i.size, i.bytes)) = some (some (.agg #[.bool false, .slice none 0 0, .bool false, .slice none 0 0, .bool false, .slice none 0 0, .bool false, .slice none 0 0]), 8, 128) := by kernel_rfl
end Go.Proofs.Ythmpikagenodjaa
namespace Go.Proofs.Ythmpikagenodjaa
open Go.RowKit
set_option linter.unusedVariables false
set_option maxRecDepth 100000
set_option linter.unusedSimpArgs false

/-- The cells of some values in a row. -/
def PAtQ (w : World) (a : Option Addr) (l : List (QV × QD)) : Prop := l = [] ∨ ∃ b off, a = some ⟨b, off, none⟩ ∧ b < w.heap.size ∧ ∀ i (h : i < l.length), w.cell? ⟨b, off + i * 4, none⟩ = some (.bool l[i].1.num.g) ∧ w.cell? ⟨b, off + i * 4 + 1, none⟩ = some (.slice l[i].1.num.a l[i].1.num.n l[i].1.num.c) ∧ w.cell? ⟨b, off + i * 4 + 2, none⟩ = some (.bool l[i].1.den.g) ∧ w.cell? ⟨b, off + i * 4 + 3, none⟩ = some (.slice l[i].1.den.a l[i].1.den.n l[i].1.den.c)
theorem PAtQ.later {w w' : World} {a : Option Addr} {l : List (QV × QD)} (h : PAtQ w a l) (hb : Below w.heap.size w w') : PAtQ w' a l := by
  rcases h with h | ⟨b, off, rfl, h1, h2⟩
  · exact .inl h
  · exact .inr ⟨b, off, rfl, Nat.lt_of_lt_of_le h1 hb.size, fun i hi => ⟨cell_later hb ((h2 i hi).1), cell_later hb ((h2 i hi).2.1), cell_later hb ((h2 i hi).2.2.1), cell_later hb ((h2 i hi).2.2.2)⟩⟩
structure PSlQ (w : World) (a : Option Addr) (l : List (QV × QD)) : Prop where
  at_ : PAtQ w a l
  rd : ∀ p ∈ l, AllSl w [(p.1.num, p.2.num), (p.1.den, p.2.den)]
theorem PSlQ.later {w w' : World} {a : Option Addr} {l : List (QV × QD)} (h : PSlQ w a l) (hb : Below w.heap.size w w') : PSlQ w' a l := ⟨h.at_.later hb, fun p hp => (h.rd p hp).later hb⟩
/-- .. as an argument. -/
structure PArQ (w : World) (a : Option Addr) (n c : Nat) (l : List (QV × QD)) : Prop where
  at_ : PAtQ w a l
  rd : ∀ p ∈ l, AllAr w [(p.1.num, p.2.num), (p.1.den, p.2.den)]
  len : l.length = n
  cap : n ≤ c
  top : c ≤ maxLen
theorem PArQ.later {w w' : World} {a : Option Addr} {n c : Nat} {l : List (QV × QD)} (h : PArQ w a n c l) (hb : Below w.heap.size w w') : PArQ w' a n c l := ⟨h.at_.later hb, fun p hp => (h.rd p hp).later hb, h.len, h.cap, h.top⟩
theorem PArQ.sl {w : World} {a : Option Addr} {n c : Nat} {l : List (QV × QD)} (h : PArQ w a n c l) : PSlQ w a l := ⟨h.at_, fun p hp => (h.rd p hp).sl⟩
def lenQ (p : QV × QD) : Nat := p.1.num.n + p.1.den.n
def lenPQ : List (QV × QD) → Nat
  | [] => 0
  | p :: l => lenQ p + lenPQ l
/-- The numbers in some values. -/
def zipPQ (l : List (QV × QD)) : List (BV × BD) := l.flatMap (fun p => [(p.1.num, p.2.num), (p.1.den, p.2.den)])
theorem zipPQ_mem {l : List (QV × QD)} {p : QV × QD} (h : p ∈ l) {x : BV × BD} (hx : x ∈ [(p.1.num, p.2.num), (p.1.den, p.2.den)]) : x ∈ zipPQ l := List.mem_flatMap.2 ⟨p, h, hx⟩
/-- Some values in a row that is the law's own, at block G; their numbers in blocks from lo to below hi. -/
structure POwQ (lo hi : Nat) (w : World) (G n c : Nat) (l : List (QV × QD)) : Prop where
  row : ∃ M, w.ownsRow G 50 4 (.slice (some ⟨G, 0, none⟩) n c) n M ∧ ∀ i (h : i < l.length), M[i * 4]? = some (.bool l[i].1.num.g) ∧ M[i * 4 + 1]? = some (.slice l[i].1.num.a l[i].1.num.n l[i].1.num.c) ∧ M[i * 4 + 2]? = some (.bool l[i].1.den.g) ∧ M[i * 4 + 3]? = some (.slice l[i].1.den.a l[i].1.den.n l[i].1.den.c)
  own : AllOwn lo hi w (zipPQ l)
  ar : ∀ p ∈ l, AllAr w [(p.1.num, p.2.num), (p.1.den, p.2.den)]
  len : l.length = n
theorem ownsRow_later {w w' : World} {G g n c size : Nat} {e : TypeId} {M : List Value} (h : w.ownsRow G e size (.slice (some ⟨g, 0, none⟩) n c) n M) (hb : Below w.heap.size w w') : w'.ownsRow G e size (.slice (some ⟨g, 0, none⟩) n c) n M := by
  refine ⟨h.1, ?_⟩
  rcases h.2 with ⟨h', _⟩ | ⟨g', cap, cur, hv, h1, hg, r⟩
  · simp at h'
  · refine .inr ⟨g', cap, cur, hv, h1, ?_, r⟩
    rw [hb.block g' (Array.getElem?_eq_some_iff.1 hg).1]
    exact hg
theorem POwQ.later {lo hi : Nat} {w w' : World} {G n c : Nat} {l : List (QV × QD)} (h : POwQ lo hi w G n c l) (hb : Below w.heap.size w w') : POwQ lo hi w' G n c l := by
  obtain ⟨M, hr, hM⟩ := h.row
  exact ⟨⟨M, ownsRow_later hr hb, hM⟩, h.own.later hb, fun p hp => (h.ar p hp).later hb, h.len⟩
theorem POwQ.arg {lo hi : Nat} {w : World} {G n c : Nat} {l : List (QV × QD)} (h : POwQ lo hi w G n c l) : PArQ w (some ⟨G, 0, none⟩) n c l := by
  obtain ⟨M, hr, hM⟩ := h.row
  have hl := h.len
  have h2 := hr.2
  rcases h2 with ⟨h', _⟩ | ⟨g', cap, cur, hv, h1, hg, r1, r2, r3⟩
  · simp at h'
  simp only [Value.slice.injEq, Option.some.injEq, Addr.mk.injEq, and_true, true_and] at hv
  obtain ⟨rfl, rfl⟩ := hv
  refine ⟨.inr ⟨G, 0, rfl, (Array.getElem?_eq_some_iff.1 hg).1, fun i hi => ?_⟩, h.ar, hl, r1, r2⟩
  have hc := hM i hi
  refine ⟨?_, ?_, ?_, ?_⟩ <;> rw [Nat.zero_add, hr.cellAt _ (by omega)]
  · exact hc.1
  · exact hc.2.1
  · exact hc.2.2.1
  · exact hc.2.2.2
theorem Try.info50 : (Try.prog.info? 50).map (fun i => (i.zero, i.size, i.bytes)) = some (some (.agg #[.bool false, .slice none 0 0, .bool false, .slice none 0 0]), 4, 64) := by kernel_rfl
end Go.Proofs.Ythmpikagenodjaa
namespace Go.Proofs.Ythmpikagenodjaa
open Go.RowKit
set_option linter.unusedVariables false
set_option maxRecDepth 100000
set_option linter.unusedSimpArgs false

/-- The mark that stands for a sign. -/
def sg (k : Int) : Bool := (k % 3 == 0)
/-- The cells of some fractions from block G's start on. -/
def RowQ (w : World) (G : Nat) (l : List (QV × QD)) : Prop := ∃ cur, w.heap[G]? = some (.cells cur 50 (0, 0)) ∧ ∀ j p, l[j]? = some p → cur[j * 4]? = some (.bool p.1.num.g) ∧ cur[j * 4 + 1]? = some (.slice p.1.num.a p.1.num.n p.1.num.c) ∧ cur[j * 4 + 2]? = some (.bool p.1.den.g) ∧ cur[j * 4 + 3]? = some (.slice p.1.den.a p.1.den.n p.1.den.c)
theorem mid_ne {α : Type} {pre post : List α} {y y' : α} {j : Nat} (h : j ≠ pre.length) : (pre ++ y :: post)[j]? = (pre ++ y' :: post)[j]? := by
  by_cases c : j < pre.length
  · rw [List.getElem?_append_left c, List.getElem?_append_left c]
  · rw [List.getElem?_append_right (by omega), List.getElem?_append_right (by omega)]
    obtain ⟨m, hm⟩ : ∃ m, j - pre.length = m + 1 := ⟨j - pre.length - 1, by omega⟩
    rw [hm, List.getElem?_cons_succ, List.getElem?_cons_succ]
theorem mid_eq {α : Type} {pre post : List α} {y : α} : (pre ++ y :: post)[pre.length]? = some y := by
  rw [List.getElem?_append_right (Nat.le_refl _), Nat.sub_self]; rfl
theorem RowQ.lt {w : World} {G : Nat} {l : List (QV × QD)} (h : RowQ w G l) : G < w.heap.size := by
  obtain ⟨cur, hg, _⟩ := h
  exact (Array.getElem?_eq_some_iff.1 hg).1
theorem RowQ.cellsAt {w : World} {G : Nat} {l : List (QV × QD)} (h : RowQ w G l) {i : Nat} {y : QV × QD} (hy : l[i]? = some y) : w.cell? ⟨G, i * 4, none⟩ = some (.bool y.1.num.g) ∧ w.cell? ⟨G, i * 4 + 1, none⟩ = some (.slice y.1.num.a y.1.num.n y.1.num.c) ∧ w.cell? ⟨G, i * 4 + 2, none⟩ = some (.bool y.1.den.g) ∧ w.cell? ⟨G, i * 4 + 3, none⟩ = some (.slice y.1.den.a y.1.den.n y.1.den.c) := by
  obtain ⟨cur, hg, hc⟩ := h
  have h1 := hc i y hy
  refine ⟨?_, ?_, ?_, ?_⟩ <;> rw [cell_of_row w G _ cur 50 (0, 0) hg]
  · exact h1.1
  · exact h1.2.1
  · exact h1.2.2.1
  · exact h1.2.2.2
theorem RowQ.frozen {w : World} {G : Nat} {l : List (QV × QD)} (h : RowQ w G l) (o : Nat) : w.frozen? ⟨G, o, none⟩ = false := by
  obtain ⟨cur, hg, hc⟩ := h
  exact frozen_of_row w G o cur 50 hg
theorem RowQ.but {w w' : World} {G lo hi : Nat} {l : List (QV × QD)} (h : RowQ w G l) (hb : But lo hi w w') (hG : G < lo ∨ hi ≤ G) : RowQ w' G l := by
  obtain ⟨cur, hg, hc⟩ := h
  exact ⟨cur, by rw [hb.block G (Array.getElem?_eq_some_iff.1 hg).1 hG]; exact hg, hc⟩
theorem RowQ.later {w w' : World} {G : Nat} {l : List (QV × QD)} (h : RowQ w G l) (hb : Below w.heap.size w w') : RowQ w' G l := by
  obtain ⟨cur, hg, hc⟩ := h
  exact ⟨cur, by rw [hb.block G (Array.getElem?_eq_some_iff.1 hg).1]; exact hg, hc⟩
theorem RowQ.g0 {w : World} {G i : Nat} {pre post : List (QV × QD)} {y : QV × QD} (g : Bool) (h : RowQ w G (pre ++ y :: post)) (hi : pre.length = i) : RowQ (w.setCell ⟨G, i * 4, none⟩ (.bool g)) G (pre ++ ((⟨⟨g, y.1.num.a, y.1.num.n, y.1.num.c⟩, y.1.den⟩ : QV), (⟨⟨g, y.2.num.xs⟩, y.2.den⟩ : QD)) :: post) := by
  obtain ⟨cur, hg, hc⟩ := h
  subst hi
  refine ⟨cur.setIfInBounds (pre.length * 4) (.bool g), heap_setCell_same w G (pre.length * 4) cur 50 (.bool g) hg, fun j p hp => ?_⟩
  by_cases e : j = pre.length
  · subst e
    rw [mid_eq] at hp
    obtain rfl := Option.some.inj hp
    have h1 := hc pre.length y mid_eq
    have hs : pre.length * 4 < cur.size := (Array.getElem?_eq_some_iff.1 (h1.1)).1
    refine ⟨?_, ?_, ?_, ?_⟩
    · simp [hs]
    · rw [Array.getElem?_setIfInBounds_ne (by omega)]; exact h1.2.1
    · rw [Array.getElem?_setIfInBounds_ne (by omega)]; exact h1.2.2.1
    · rw [Array.getElem?_setIfInBounds_ne (by omega)]; exact h1.2.2.2
  · rw [mid_ne e (y' := y)] at hp
    have h1 := hc j p hp
    refine ⟨?_, ?_, ?_, ?_⟩
    · rw [Array.getElem?_setIfInBounds_ne (by omega)]; exact h1.1
    · rw [Array.getElem?_setIfInBounds_ne (by omega)]; exact h1.2.1
    · rw [Array.getElem?_setIfInBounds_ne (by omega)]; exact h1.2.2.1
    · rw [Array.getElem?_setIfInBounds_ne (by omega)]; exact h1.2.2.2
theorem RowQ.g2 {w : World} {G i : Nat} {pre post : List (QV × QD)} {y : QV × QD} (g : Bool) (h : RowQ w G (pre ++ y :: post)) (hi : pre.length = i) : RowQ (w.setCell ⟨G, i * 4 + 2, none⟩ (.bool g)) G (pre ++ ((⟨y.1.num, ⟨g, y.1.den.a, y.1.den.n, y.1.den.c⟩⟩ : QV), (⟨y.2.num, ⟨g, y.2.den.xs⟩⟩ : QD)) :: post) := by
  obtain ⟨cur, hg, hc⟩ := h
  subst hi
  refine ⟨cur.setIfInBounds (pre.length * 4 + 2) (.bool g), heap_setCell_same w G (pre.length * 4 + 2) cur 50 (.bool g) hg, fun j p hp => ?_⟩
  by_cases e : j = pre.length
  · subst e
    rw [mid_eq] at hp
    obtain rfl := Option.some.inj hp
    have h1 := hc pre.length y mid_eq
    have hs : pre.length * 4 + 2 < cur.size := (Array.getElem?_eq_some_iff.1 (h1.2.2.1)).1
    refine ⟨?_, ?_, ?_, ?_⟩
    · rw [Array.getElem?_setIfInBounds_ne (by omega)]; exact h1.1
    · rw [Array.getElem?_setIfInBounds_ne (by omega)]; exact h1.2.1
    · simp [hs]
    · rw [Array.getElem?_setIfInBounds_ne (by omega)]; exact h1.2.2.2
  · rw [mid_ne e (y' := y)] at hp
    have h1 := hc j p hp
    refine ⟨?_, ?_, ?_, ?_⟩
    · rw [Array.getElem?_setIfInBounds_ne (by omega)]; exact h1.1
    · rw [Array.getElem?_setIfInBounds_ne (by omega)]; exact h1.2.1
    · rw [Array.getElem?_setIfInBounds_ne (by omega)]; exact h1.2.2.1
    · rw [Array.getElem?_setIfInBounds_ne (by omega)]; exact h1.2.2.2
theorem AllOwn.resign {lo hi : Nat} {w w' : World} {pre post : List (BV × BD)} {b : BV} {d : BD} (g : Bool) (h : AllOwn lo hi w (pre ++ (b, d) :: post)) (hb : ∀ k, lo ≤ k → k < w.heap.size → w'.heap[k]? = w.heap[k]?) : AllOwn lo hi w' (pre ++ (⟨g, b.a, b.n, b.c⟩, ⟨g, d.xs⟩) :: post) := by
  have mv : ∀ (a : Option Addr) (zs : List Int), Own2 lo hi w a zs → Own2 lo hi w' a zs := fun a zs ho => by
    rcases ho with e | ⟨b', cur, e, h1, h2, hg, hc⟩
    · exact .inl e
    · exact .inr ⟨b', cur, e, h1, h2, by rw [hb b' h1 (Array.getElem?_eq_some_iff.1 hg).1]; exact hg, hc⟩
  refine ⟨fun p hp => ?_, ?_⟩
  · rcases List.mem_append.1 hp with hp | hp
    · have ho := h.own p (List.mem_append_left _ hp)
      exact ⟨ho.sg, mv _ _ ho.own, ho.len⟩
    · rcases List.mem_cons.1 hp with rfl | hp
      · have ho := h.own (b, d) (List.mem_append_right _ List.mem_cons_self)
        exact ⟨rfl, mv _ _ ho.own, ho.len⟩
      · have ho := h.own p (List.mem_append_right _ (List.mem_cons_of_mem _ hp))
        exact ⟨ho.sg, mv _ _ ho.own, ho.len⟩
  · obtain ⟨p1, p2, p3⟩ := List.pairwise_append.1 h.ap
    obtain ⟨p4, p5⟩ := List.pairwise_cons.1 p2
    refine List.pairwise_append.2 ⟨p1, List.pairwise_cons.2 ⟨fun q hq => p4 q hq, p5⟩, fun p hp q hq => ?_⟩
    rcases List.mem_cons.1 hq with rfl | hq
    · exact p3 p hp (b, d) List.mem_cons_self
    · exact p3 p hp q (List.mem_cons_of_mem _ hq)
theorem RowQ.data {w : World} {G : Nat} {pre post : List (QV × QD)} {v : QV} {d d' : QD} (h : RowQ w G (pre ++ (v, d) :: post)) : RowQ w G (pre ++ (v, d') :: post) := by
  obtain ⟨cur, hg, hc⟩ := h
  refine ⟨cur, hg, fun j p hp => ?_⟩
  by_cases e : j = pre.length
  · subst e
    rw [mid_eq] at hp
    obtain rfl := Option.some.inj hp
    exact hc pre.length (v, d) mid_eq
  · rw [mid_ne e (y' := (v, d))] at hp
    exact hc j p hp
theorem But.wide {lo hi lo' hi' : Nat} {w w' : World} (h : But lo hi w w') (h1 : lo' ≤ lo) (h2 : hi ≤ hi') : But lo' hi' w w' := ⟨h.os, h.tape, h.output, h.size, fun k hk hd => h.block k hk (by omega)⟩
theorem setCell_other {w : World} {G o k : Nat} {v : Value} (h : k ≠ G) : (w.setCell ⟨G, o, none⟩ v).heap[k]? = w.heap[k]? := heap_setCell_other w ⟨G, o, none⟩ k v h
/-- A slice of fractions that is the call's own: its row and its numbers in blocks from B to below E. -/
structure PRo (B E : Nat) (w : World) (a : Option Addr) (n c : Nat) (l : List (QV × QD)) : Prop where
  len : l.length = n
  sz : 2 * n + lenPQ l ≤ 3200000
  ml : ∀ p ∈ l, p.1.num.n ≤ 1048576 ∧ p.1.den.n ≤ 1048576
  row : n = 0 ∨ ∃ G lo hi, a = some ⟨G, 0, none⟩ ∧ B ≤ G ∧ G < lo ∧ lo ≤ hi ∧ hi ≤ E ∧ RowQ w G l ∧ AllOwn lo hi w (zipPQ l)
theorem PRo.later {B E : Nat} {w w' : World} {a : Option Addr} {n c : Nat} {l : List (QV × QD)} (h : PRo B E w a n c l) (hb : Below w.heap.size w w') : PRo B E w' a n c l := by
  refine ⟨h.len, h.sz, h.ml, ?_⟩
  rcases h.row with e | ⟨G, lo, hi, e, h1, h2, h3, h4, h5, h6⟩
  · exact .inl e
  · exact .inr ⟨G, lo, hi, e, h1, h2, h3, h4, h5.later hb, h6.later hb⟩
theorem PRo.but {B E lo' hi' : Nat} {w w' : World} {a : Option Addr} {n c : Nat} {l : List (QV × QD)} (h : PRo B E w a n c l) (hb : But lo' hi' w w') (hd : E ≤ lo' ∨ hi' ≤ B) : PRo B E w' a n c l := by
  refine ⟨h.len, h.sz, h.ml, ?_⟩
  rcases h.row with e | ⟨G, lo, hi, e, h1, h2, h3, h4, h5, h6⟩
  · exact .inl e
  · exact .inr ⟨G, lo, hi, e, h1, h2, h3, h4, h5.but hb (by omega), h6.but hb (by omega)⟩
theorem PRo.wide {B E B' E' : Nat} {w : World} {a : Option Addr} {n c : Nat} {l : List (QV × QD)} (h : PRo B E w a n c l) (h1 : B' ≤ B) (h2 : E ≤ E') : PRo B' E' w a n c l := by
  refine ⟨h.len, h.sz, h.ml, ?_⟩
  rcases h.row with e | ⟨G, lo, hi, e, k1, k2, k3, k4, k5, k6⟩
  · exact .inl e
  · exact .inr ⟨G, lo, hi, e, by omega, k2, k3, by omega, k5, k6⟩
theorem PRo.sl {B E : Nat} {w : World} {a : Option Addr} {n c : Nat} {l : List (QV × QD)} (h : PRo B E w a n c l) : PSlQ w a l := by
  rcases h.row with e | ⟨G, lo, hi, e, h1, h2, h3, h4, h5, h6⟩
  · have hl : l = [] := List.length_eq_zero_iff.1 (by rw [h.len]; exact e)
    subst hl
    exact ⟨.inl rfl, fun p hp => by cases hp⟩
  · subst e
    refine ⟨.inr ⟨G, 0, rfl, h5.lt, fun i hi => ?_⟩, fun p hp x hx => h6.sl x (zipPQ_mem hp hx)⟩
    have hc := h5.cellsAt (List.getElem?_eq_getElem hi)
    simpa using hc
theorem PRo.lens {B E : Nat} {w : World} {a : Option Addr} {n c : Nat} {l : List (QV × QD)} (h : PRo B E w a n c l) : ∀ p ∈ l, p.1.num.n ≤ maxLen ∧ p.1.den.n ≤ maxLen := fun p hp => by
  have := h.ml p hp
  unfold maxLen
  omega
theorem PRo.max {B E : Nat} {w : World} {a : Option Addr} {n c : Nat} {l : List (QV × QD)} (h : PRo B E w a n c l) : n ≤ maxLen := by
  have := h.sz
  unfold maxLen
  omega
theorem POwQ.ro {lo hi : Nat} {w : World} {G n c : Nat} {l : List (QV × QD)} (h : POwQ lo hi w G n c l) (hG : G < lo) (hl : lo ≤ hi) (sz : 2 * n + lenPQ l ≤ 3200000) (ml : ∀ p ∈ l, p.1.num.n ≤ 1048576 ∧ p.1.den.n ≤ 1048576) : PRo G hi w (some ⟨G, 0, none⟩) n c l := by
  refine ⟨h.len, sz, ml, .inr ⟨G, lo, hi, rfl, Nat.le_refl _, hG, hl, Nat.le_refl _, ?_, h.own⟩⟩
  obtain ⟨M, hr, hM⟩ := h.row
  rcases hr.2 with ⟨h', _⟩ | ⟨g', cap, cur, hv, _, hg, _, _, _, htake⟩
  · simp at h'
  simp only [Value.slice.injEq, Option.some.injEq, Addr.mk.injEq, and_true, true_and] at hv
  obtain ⟨rfl, rfl⟩ := hv
  refine ⟨cur, hg, fun j p hp => ?_⟩
  have hj : j < l.length := (List.getElem?_eq_some_iff.1 hp).1
  have hc := hM j hj
  have e : l[j] = p := by rw [List.getElem?_eq_getElem hj] at hp; exact Option.some.inj hp
  rw [e] at hc
  have hlen := h.len
  have up : ∀ t v, t < n * 4 → M[t]? = some v → cur[t]? = some v := fun t v ht hv => by
    rw [← htake, List.getElem?_take, if_pos ht] at hv
    simpa using hv
  exact ⟨up _ _ (by omega) hc.1, up _ _ (by omega) hc.2.1, up _ _ (by omega) hc.2.2.1, up _ _ (by omega) hc.2.2.2⟩
theorem PSlQ.data {w : World} {a : Option Addr} {l : List (QV × QD)} (h : PSlQ w a l) : ∀ p ∈ l, p.2.num.xs.length = p.1.num.n ∧ p.2.den.xs.length = p.1.den.n := fun p hp => ⟨(h.rd p hp).head.len, (h.rd p hp).tail.head.len⟩
end Go.Proofs.Ythmpikagenodjaa
namespace Go.Proofs.Ythmpikagenodjaa
open Go.RowKit
set_option linter.unusedVariables false
set_option maxRecDepth 100000
set_option linter.unusedSimpArgs false

set_option maxHeartbeats 1000000 in
theorem markI_consL (b n c : Nat) (k : Int) (cur : Array Value) (w : World) (hg : w.heap[b]? = some (.cells cur 3 (0, 0))) (hn : ∀ i, i < n → ∃ x, cur[i]? = some (.int .i64 x)) (h1 : n ≤ 1048576) (k0 : 0 ≤ k) (k1 : k ≤ 6000000) :
    Calls Try.prog 31 #[.slice (some ⟨b, 0, none⟩) n c, .int .i64 k] w fun e w' => e = .returned (.int .i64 (k + n)) ∧ But b (b + 1) w w' ∧ ∃ cur', w'.heap[b]? = some (.cells cur' 3 (0, 0)) ∧ ∀ i, i < n → cur'[i]? = some (.int .i64 (k + i)) := by
  have HG := hide hg
  have HN := hide hn
  clear hg hn
  go_enter Try.func31, Try.ntmps31
  go_wp2
  go_loopw [1, 5] (fun kv i wr => ∃ (j : Nat) (cur' : Array Value), j ≤ n ∧ i = .int .i64 j ∧ kv = .int .i64 (k + j) ∧ Hid (wr.heap[b]? = some (.cells cur' 3 (0, 0))) ∧ Hid (∀ i, i < j → cur'[i]? = some (.int .i64 (k + i))) ∧ Hid (∀ i, i < n → ∃ x, cur'[i]? = some (.int .i64 x)) ∧ Hid (But b (b + 1) w wr)) (fun _ i _ => n - (intOf i).toNat)
  case atStart => exact ⟨0, cur, Nat.zero_le _, rfl, by simp, HG, hide (fun i hi => absurd hi (Nat.not_lt_zero _)), HN, hide (But.refl _ _ _)⟩
  case round =>
    obtain ⟨j, cur', hj, rfl, rfl, HR, HM, HE, HB⟩ := hrel
    by_cases hlt : j < n
    · obtain ⟨x, hx⟩ := unhide HE j hlt
      have hc : wr.cell? ⟨b, j, none⟩ = some (.int .i64 x) := by rw [cell_of_row wr b j cur' 3 (0, 0) (unhide HR)]; exact hx
      have hf : wr.frozen? ⟨b, j, none⟩ = false := frozen_of_row wr b j cur' 3 (unhide HR)
      have hlt' : (j : Int) < (n : Int) := by omega
      have HR2 := hide (heap_setCell_same wr b j cur' 3 (.int .i64 (k + j)) (unhide HR))
      have HB2 := hide ((unhide HB).set (p := ⟨b, j, none⟩) (Nat.le_refl _) (Nat.lt_succ_self _) (.int .i64 (k + j)))
      have hjs : j < cur'.size := (Array.getElem?_eq_some_iff.1 hx).1
      have HM2 : Hid (∀ i, i < j + 1 → (cur'.setIfInBounds j (.int .i64 (k + j)))[i]? = some (.int .i64 (k + i))) := hide (by
        intro i hi
        by_cases e : i = j
        · subst e; simp [hjs]
        · rw [Array.getElem?_setIfInBounds_ne (by omega)]; exact unhide HM i (by omega))
      have HE2 : Hid (∀ i, i < n → ∃ x, (cur'.setIfInBounds j (.int .i64 (k + j)))[i]? = some (.int .i64 x)) := hide (by
        intro i hi
        by_cases e : i = j
        · subst e; exact ⟨k + i, by simp [hjs]⟩
        · rw [Array.getElem?_setIfInBounds_ne (by omega)]; exact unhide HE i hi)
      clear hx HM HE HR
      go_wp2
      go_roundw
      case rel => exact ⟨j + 1, _, by omega, by go_num, by go_num, HR2, HM2, HE2, HB2⟩
      case measure => simp [intOf]; omega
    · obtain rfl : j = n := by omega
      go_wp2
      go_ret
      exact ⟨rfl, unhide HB, cur', unhide HR, unhide HM⟩
set_option maxHeartbeats 1000000 in
theorem heldI_anyL (a : Option Addr) (n c : Nat) (k : Int) (w : World) (hs : Sl w a (marks k n)) (h1 : n ≤ 1048576) (k0 : 0 ≤ k) (k1 : k ≤ 6000000) :
    Calls Try.prog 32 #[.slice a n c, .int .i64 k] w fun e w' => e = .returned (.int .i64 (k + n)) ∧ w' = w := by
  have HS := hide hs
  clear hs
  go_enter Try.func32, Try.ntmps32
  go_wp2
  go_loop [1, 5] (fun kv i => ∃ j : Nat, j ≤ n ∧ i = .int .i64 j ∧ kv = .int .i64 (k + j)) (fun _ i => n - (intOf i).toNat)
  case atStart => exact ⟨0, Nat.zero_le _, rfl, by simp⟩
  case round =>
    obtain ⟨j, hj, rfl, rfl⟩ := hrel
    by_cases hlt : j < n
    · obtain ⟨b, off, rfl, hc⟩ := (unhide HS).at (k := j) (by rw [marks_len]; exact hlt)
      rw [marks_get k n j hlt] at hc
      have hlt' : (j : Int) < (n : Int) := by omega
      go_wp2
      go_round
      case rel => exact ⟨j + 1, by omega, by go_num, by go_num⟩
      case measure => simp [intOf]; omega
    · obtain rfl : j = n := by omega
      go_wp2
      go_ret
      exact ⟨rfl, rfl⟩
set_option maxHeartbeats 1000000 in
theorem mark_atL (b : BV) (d : BD) (pre post : List (BV × BD)) (k : Int) (lo hi : Nat) (w : World) (h : AllOwn lo hi w (pre ++ (b, d) :: post)) (h1 : b.n ≤ 1048576) (k0 : 0 ≤ k) (k1 : k ≤ 6000000) :
    Calls Try.prog 31 #[.slice b.a b.n b.c, .int .i64 k] w fun e w' => e = .returned (.int .i64 (k + b.n)) ∧ But lo hi w w' ∧ AllOwn lo hi w' (pre ++ (b, ⟨d.g, marks k b.n⟩) :: post) := by
  obtain ⟨g, a, n, c⟩ := b
  obtain ⟨g', xs⟩ := d
  have hm : ((⟨g, a, n, c⟩, ⟨g', xs⟩) : BV × BD) ∈ pre ++ (⟨g, a, n, c⟩, ⟨g', xs⟩) :: post := List.mem_append_right _ List.mem_cons_self
  obtain ⟨hs, ho, hl⟩ := h.own _ hm
  obtain ⟨ap1, ap2, ap3⟩ := List.pairwise_append.1 h.ap
  obtain ⟨ap4, ap5⟩ := List.pairwise_cons.1 ap2
  simp only at hs ho hl h1 ⊢
  have hml : (marks k n).length = n := marks_len _ _
  have hnil : xs = [] → marks k n = [] := fun e => List.length_eq_zero_iff.1 (by rw [hml, ← hl, e]; rfl)
  have hAp : ∀ q : BV × BD, Ap (⟨g, a, n, c⟩, ⟨g', xs⟩) q → Ap (⟨g, a, n, c⟩, ⟨g', marks k n⟩) q := fun q hq => by
    rcases hq with hq | hq | hq
    · exact .inl (hnil hq)
    · exact .inr (.inl hq)
    · exact .inr (.inr hq)
  have hpair : (pre ++ ((⟨g, a, n, c⟩, ⟨g', marks k n⟩) : BV × BD) :: post).Pairwise Ap :=
    List.pairwise_append.2 ⟨ap1, List.pairwise_cons.2 ⟨fun q hq => hAp q (ap4 q hq), ap5⟩, fun p hp q hq => by
      rcases List.mem_cons.1 hq with rfl | hq
      · exact (hAp p (ap3 p hp _ List.mem_cons_self).symm).symm
      · exact ap3 p hp q (List.mem_cons_of_mem _ hq)⟩
  by_cases hx0 : xs = []
  · subst hx0
    simp only [List.length_nil] at hl
    subst hl
    refine (markI_nil a c k w).mono ?_
    rintro e w' ⟨rfl, rfl⟩
    refine ⟨by simp, But.refl _ _ _, ⟨fun p hp => ?_, hpair⟩⟩
    rcases List.mem_append.1 hp with hp | hp
    · exact h.own p (List.mem_append_left _ hp)
    · rcases List.mem_cons.1 hp with rfl | hp
      · exact ⟨hs, .inl (hnil rfl), hml⟩
      · exact h.own p (List.mem_append_right _ (List.mem_cons_of_mem _ hp))
  · rcases ho with ho | ⟨b, cur, rfl, b1, b2, hg, hc⟩
    · exact absurd ho hx0
    refine (markI_consL b n c k cur w hg (fun i hi => ⟨_, hc i (by omega)⟩) h1 k0 k1).mono ?_
    rintro e w' ⟨rfl, hb, cur', hg', hmk⟩
    have hother : ∀ p : BV × BD, OwB2 lo hi w p.1 p.2 → Ap (⟨g, some ⟨b, 0, none⟩, n, c⟩, ⟨g', xs⟩) p → OwB2 lo hi w' p.1 p.2 := fun p ho2 hap => by
      refine ⟨ho2.sg, ?_, ho2.len⟩
      by_cases e0 : p.2.xs = []
      · exact .inl e0
      rcases ho2.own with e | ⟨bq, curq, eq, q1, q2, qg, qc⟩
      · exact .inl e
      · refine .inr ⟨bq, curq, eq, q1, q2, ?_, qc⟩
        rcases hap with e | e | ⟨b3, o3, b4, o4, e3, e4, ne⟩
        · exact absurd e hx0
        · exact absurd e e0
        · simp only [Option.some.injEq, Addr.mk.injEq, and_true] at e3
          have e5 : p.1.a = some ⟨b4, o4, none⟩ := e4
          rw [eq] at e5
          simp only [Option.some.injEq, Addr.mk.injEq, and_true] at e5
          rw [hb.block bq (Array.getElem?_eq_some_iff.1 qg).1 (by omega)]
          exact qg
    refine ⟨rfl, ⟨hb.os, hb.tape, hb.output, hb.size, fun q hq hd => hb.block q hq (by omega)⟩, ⟨fun p hp => ?_, hpair⟩⟩
    rcases List.mem_append.1 hp with hp | hp
    · exact hother p (h.own p (List.mem_append_left _ hp)) (ap3 p hp _ List.mem_cons_self).symm
    · rcases List.mem_cons.1 hp with rfl | hp
      · refine ⟨hs, .inr ⟨b, cur', rfl, b1, b2, hg', fun i hi => ?_⟩, hml⟩
        have hi2 : i < n := by rw [← hml]; exact hi
        show cur'[i]? = some (.int .i64 ((marks k n).getD i 0))
        rw [marks_get k n i hi2]
        exact hmk i hi2
      · exact hother p (h.own p (List.mem_append_right _ (List.mem_cons_of_mem _ hp))) (ap4 p hp)
end Go.Proofs.Ythmpikagenodjaa
namespace Go.Proofs.Ythmpikagenodjaa
open Go.RowKit
set_option linter.unusedVariables false
set_option maxRecDepth 100000
set_option linter.unusedSimpArgs false

def RowZ (w : World) (G : Nat) (l : List (SV × SD)) : Prop := ∃ cur, w.heap[G]? = some (.cells cur 52 (0, 0)) ∧ ∀ j p, l[j]? = some p → cur[j * 8]? = some (.bool p.1.lo.num.g) ∧ cur[j * 8 + 1]? = some (.slice p.1.lo.num.a p.1.lo.num.n p.1.lo.num.c) ∧ cur[j * 8 + 2]? = some (.bool p.1.lo.den.g) ∧ cur[j * 8 + 3]? = some (.slice p.1.lo.den.a p.1.lo.den.n p.1.lo.den.c) ∧ cur[j * 8 + 4]? = some (.bool p.1.hi.num.g) ∧ cur[j * 8 + 5]? = some (.slice p.1.hi.num.a p.1.hi.num.n p.1.hi.num.c) ∧ cur[j * 8 + 6]? = some (.bool p.1.hi.den.g) ∧ cur[j * 8 + 7]? = some (.slice p.1.hi.den.a p.1.hi.den.n p.1.hi.den.c)
theorem RowZ.lt {w : World} {G : Nat} {l : List (SV × SD)} (h : RowZ w G l) : G < w.heap.size := by
  obtain ⟨cur, hg, _⟩ := h
  exact (Array.getElem?_eq_some_iff.1 hg).1
theorem RowZ.cellsAt {w : World} {G : Nat} {l : List (SV × SD)} (h : RowZ w G l) {i : Nat} {y : SV × SD} (hy : l[i]? = some y) : w.cell? ⟨G, i * 8, none⟩ = some (.bool y.1.lo.num.g) ∧ w.cell? ⟨G, i * 8 + 1, none⟩ = some (.slice y.1.lo.num.a y.1.lo.num.n y.1.lo.num.c) ∧ w.cell? ⟨G, i * 8 + 2, none⟩ = some (.bool y.1.lo.den.g) ∧ w.cell? ⟨G, i * 8 + 3, none⟩ = some (.slice y.1.lo.den.a y.1.lo.den.n y.1.lo.den.c) ∧ w.cell? ⟨G, i * 8 + 4, none⟩ = some (.bool y.1.hi.num.g) ∧ w.cell? ⟨G, i * 8 + 5, none⟩ = some (.slice y.1.hi.num.a y.1.hi.num.n y.1.hi.num.c) ∧ w.cell? ⟨G, i * 8 + 6, none⟩ = some (.bool y.1.hi.den.g) ∧ w.cell? ⟨G, i * 8 + 7, none⟩ = some (.slice y.1.hi.den.a y.1.hi.den.n y.1.hi.den.c) := by
  obtain ⟨cur, hg, hc⟩ := h
  have h1 := hc i y hy
  refine ⟨?_, ?_, ?_, ?_, ?_, ?_, ?_, ?_⟩ <;> rw [cell_of_row w G _ cur 52 (0, 0) hg]
  · exact h1.1
  · exact h1.2.1
  · exact h1.2.2.1
  · exact h1.2.2.2.1
  · exact h1.2.2.2.2.1
  · exact h1.2.2.2.2.2.1
  · exact h1.2.2.2.2.2.2.1
  · exact h1.2.2.2.2.2.2.2
theorem RowZ.frozen {w : World} {G : Nat} {l : List (SV × SD)} (h : RowZ w G l) (o : Nat) : w.frozen? ⟨G, o, none⟩ = false := by
  obtain ⟨cur, hg, hc⟩ := h
  exact frozen_of_row w G o cur 52 hg
theorem RowZ.but {w w' : World} {G lo hi : Nat} {l : List (SV × SD)} (h : RowZ w G l) (hb : But lo hi w w') (hG : G < lo ∨ hi ≤ G) : RowZ w' G l := by
  obtain ⟨cur, hg, hc⟩ := h
  exact ⟨cur, by rw [hb.block G (Array.getElem?_eq_some_iff.1 hg).1 hG]; exact hg, hc⟩
theorem RowZ.later {w w' : World} {G : Nat} {l : List (SV × SD)} (h : RowZ w G l) (hb : Below w.heap.size w w') : RowZ w' G l := by
  obtain ⟨cur, hg, hc⟩ := h
  exact ⟨cur, by rw [hb.block G (Array.getElem?_eq_some_iff.1 hg).1]; exact hg, hc⟩
theorem RowZ.g0 {w : World} {G i : Nat} {pre post : List (SV × SD)} {y : SV × SD} (g : Bool) (h : RowZ w G (pre ++ y :: post)) (hi : pre.length = i) : RowZ (w.setCell ⟨G, i * 8, none⟩ (.bool g)) G (pre ++ ((⟨⟨⟨g, y.1.lo.num.a, y.1.lo.num.n, y.1.lo.num.c⟩, y.1.lo.den⟩, ⟨y.1.hi.num, y.1.hi.den⟩⟩ : SV), (⟨⟨⟨g, y.2.lo.num.xs⟩, y.2.lo.den⟩, ⟨y.2.hi.num, y.2.hi.den⟩⟩ : SD)) :: post) := by
  obtain ⟨cur, hg, hc⟩ := h
  subst hi
  refine ⟨cur.setIfInBounds (pre.length * 8) (.bool g), heap_setCell_same w G (pre.length * 8) cur 52 (.bool g) hg, fun j p hp => ?_⟩
  by_cases e : j = pre.length
  · subst e
    rw [mid_eq] at hp
    obtain rfl := Option.some.inj hp
    have h1 := hc pre.length y mid_eq
    have hs : pre.length * 8 < cur.size := (Array.getElem?_eq_some_iff.1 (h1.1)).1
    refine ⟨?_, ?_, ?_, ?_, ?_, ?_, ?_, ?_⟩
    · simp [hs]
    · rw [Array.getElem?_setIfInBounds_ne (by omega)]; exact h1.2.1
    · rw [Array.getElem?_setIfInBounds_ne (by omega)]; exact h1.2.2.1
    · rw [Array.getElem?_setIfInBounds_ne (by omega)]; exact h1.2.2.2.1
    · rw [Array.getElem?_setIfInBounds_ne (by omega)]; exact h1.2.2.2.2.1
    · rw [Array.getElem?_setIfInBounds_ne (by omega)]; exact h1.2.2.2.2.2.1
    · rw [Array.getElem?_setIfInBounds_ne (by omega)]; exact h1.2.2.2.2.2.2.1
    · rw [Array.getElem?_setIfInBounds_ne (by omega)]; exact h1.2.2.2.2.2.2.2
  · rw [mid_ne e (y' := y)] at hp
    have h1 := hc j p hp
    refine ⟨?_, ?_, ?_, ?_, ?_, ?_, ?_, ?_⟩
    · rw [Array.getElem?_setIfInBounds_ne (by omega)]; exact h1.1
    · rw [Array.getElem?_setIfInBounds_ne (by omega)]; exact h1.2.1
    · rw [Array.getElem?_setIfInBounds_ne (by omega)]; exact h1.2.2.1
    · rw [Array.getElem?_setIfInBounds_ne (by omega)]; exact h1.2.2.2.1
    · rw [Array.getElem?_setIfInBounds_ne (by omega)]; exact h1.2.2.2.2.1
    · rw [Array.getElem?_setIfInBounds_ne (by omega)]; exact h1.2.2.2.2.2.1
    · rw [Array.getElem?_setIfInBounds_ne (by omega)]; exact h1.2.2.2.2.2.2.1
    · rw [Array.getElem?_setIfInBounds_ne (by omega)]; exact h1.2.2.2.2.2.2.2
theorem RowZ.g1 {w : World} {G i : Nat} {pre post : List (SV × SD)} {y : SV × SD} (g : Bool) (h : RowZ w G (pre ++ y :: post)) (hi : pre.length = i) : RowZ (w.setCell ⟨G, i * 8 + 2, none⟩ (.bool g)) G (pre ++ ((⟨⟨y.1.lo.num, ⟨g, y.1.lo.den.a, y.1.lo.den.n, y.1.lo.den.c⟩⟩, ⟨y.1.hi.num, y.1.hi.den⟩⟩ : SV), (⟨⟨y.2.lo.num, ⟨g, y.2.lo.den.xs⟩⟩, ⟨y.2.hi.num, y.2.hi.den⟩⟩ : SD)) :: post) := by
  obtain ⟨cur, hg, hc⟩ := h
  subst hi
  refine ⟨cur.setIfInBounds (pre.length * 8 + 2) (.bool g), heap_setCell_same w G (pre.length * 8 + 2) cur 52 (.bool g) hg, fun j p hp => ?_⟩
  by_cases e : j = pre.length
  · subst e
    rw [mid_eq] at hp
    obtain rfl := Option.some.inj hp
    have h1 := hc pre.length y mid_eq
    have hs : pre.length * 8 + 2 < cur.size := (Array.getElem?_eq_some_iff.1 (h1.2.2.1)).1
    refine ⟨?_, ?_, ?_, ?_, ?_, ?_, ?_, ?_⟩
    · rw [Array.getElem?_setIfInBounds_ne (by omega)]; exact h1.1
    · rw [Array.getElem?_setIfInBounds_ne (by omega)]; exact h1.2.1
    · simp [hs]
    · rw [Array.getElem?_setIfInBounds_ne (by omega)]; exact h1.2.2.2.1
    · rw [Array.getElem?_setIfInBounds_ne (by omega)]; exact h1.2.2.2.2.1
    · rw [Array.getElem?_setIfInBounds_ne (by omega)]; exact h1.2.2.2.2.2.1
    · rw [Array.getElem?_setIfInBounds_ne (by omega)]; exact h1.2.2.2.2.2.2.1
    · rw [Array.getElem?_setIfInBounds_ne (by omega)]; exact h1.2.2.2.2.2.2.2
  · rw [mid_ne e (y' := y)] at hp
    have h1 := hc j p hp
    refine ⟨?_, ?_, ?_, ?_, ?_, ?_, ?_, ?_⟩
    · rw [Array.getElem?_setIfInBounds_ne (by omega)]; exact h1.1
    · rw [Array.getElem?_setIfInBounds_ne (by omega)]; exact h1.2.1
    · rw [Array.getElem?_setIfInBounds_ne (by omega)]; exact h1.2.2.1
    · rw [Array.getElem?_setIfInBounds_ne (by omega)]; exact h1.2.2.2.1
    · rw [Array.getElem?_setIfInBounds_ne (by omega)]; exact h1.2.2.2.2.1
    · rw [Array.getElem?_setIfInBounds_ne (by omega)]; exact h1.2.2.2.2.2.1
    · rw [Array.getElem?_setIfInBounds_ne (by omega)]; exact h1.2.2.2.2.2.2.1
    · rw [Array.getElem?_setIfInBounds_ne (by omega)]; exact h1.2.2.2.2.2.2.2
theorem RowZ.g2 {w : World} {G i : Nat} {pre post : List (SV × SD)} {y : SV × SD} (g : Bool) (h : RowZ w G (pre ++ y :: post)) (hi : pre.length = i) : RowZ (w.setCell ⟨G, i * 8 + 4, none⟩ (.bool g)) G (pre ++ ((⟨⟨y.1.lo.num, y.1.lo.den⟩, ⟨⟨g, y.1.hi.num.a, y.1.hi.num.n, y.1.hi.num.c⟩, y.1.hi.den⟩⟩ : SV), (⟨⟨y.2.lo.num, y.2.lo.den⟩, ⟨⟨g, y.2.hi.num.xs⟩, y.2.hi.den⟩⟩ : SD)) :: post) := by
  obtain ⟨cur, hg, hc⟩ := h
  subst hi
  refine ⟨cur.setIfInBounds (pre.length * 8 + 4) (.bool g), heap_setCell_same w G (pre.length * 8 + 4) cur 52 (.bool g) hg, fun j p hp => ?_⟩
  by_cases e : j = pre.length
  · subst e
    rw [mid_eq] at hp
    obtain rfl := Option.some.inj hp
    have h1 := hc pre.length y mid_eq
    have hs : pre.length * 8 + 4 < cur.size := (Array.getElem?_eq_some_iff.1 (h1.2.2.2.2.1)).1
    refine ⟨?_, ?_, ?_, ?_, ?_, ?_, ?_, ?_⟩
    · rw [Array.getElem?_setIfInBounds_ne (by omega)]; exact h1.1
    · rw [Array.getElem?_setIfInBounds_ne (by omega)]; exact h1.2.1
    · rw [Array.getElem?_setIfInBounds_ne (by omega)]; exact h1.2.2.1
    · rw [Array.getElem?_setIfInBounds_ne (by omega)]; exact h1.2.2.2.1
    · simp [hs]
    · rw [Array.getElem?_setIfInBounds_ne (by omega)]; exact h1.2.2.2.2.2.1
    · rw [Array.getElem?_setIfInBounds_ne (by omega)]; exact h1.2.2.2.2.2.2.1
    · rw [Array.getElem?_setIfInBounds_ne (by omega)]; exact h1.2.2.2.2.2.2.2
  · rw [mid_ne e (y' := y)] at hp
    have h1 := hc j p hp
    refine ⟨?_, ?_, ?_, ?_, ?_, ?_, ?_, ?_⟩
    · rw [Array.getElem?_setIfInBounds_ne (by omega)]; exact h1.1
    · rw [Array.getElem?_setIfInBounds_ne (by omega)]; exact h1.2.1
    · rw [Array.getElem?_setIfInBounds_ne (by omega)]; exact h1.2.2.1
    · rw [Array.getElem?_setIfInBounds_ne (by omega)]; exact h1.2.2.2.1
    · rw [Array.getElem?_setIfInBounds_ne (by omega)]; exact h1.2.2.2.2.1
    · rw [Array.getElem?_setIfInBounds_ne (by omega)]; exact h1.2.2.2.2.2.1
    · rw [Array.getElem?_setIfInBounds_ne (by omega)]; exact h1.2.2.2.2.2.2.1
    · rw [Array.getElem?_setIfInBounds_ne (by omega)]; exact h1.2.2.2.2.2.2.2
theorem RowZ.g3 {w : World} {G i : Nat} {pre post : List (SV × SD)} {y : SV × SD} (g : Bool) (h : RowZ w G (pre ++ y :: post)) (hi : pre.length = i) : RowZ (w.setCell ⟨G, i * 8 + 6, none⟩ (.bool g)) G (pre ++ ((⟨⟨y.1.lo.num, y.1.lo.den⟩, ⟨y.1.hi.num, ⟨g, y.1.hi.den.a, y.1.hi.den.n, y.1.hi.den.c⟩⟩⟩ : SV), (⟨⟨y.2.lo.num, y.2.lo.den⟩, ⟨y.2.hi.num, ⟨g, y.2.hi.den.xs⟩⟩⟩ : SD)) :: post) := by
  obtain ⟨cur, hg, hc⟩ := h
  subst hi
  refine ⟨cur.setIfInBounds (pre.length * 8 + 6) (.bool g), heap_setCell_same w G (pre.length * 8 + 6) cur 52 (.bool g) hg, fun j p hp => ?_⟩
  by_cases e : j = pre.length
  · subst e
    rw [mid_eq] at hp
    obtain rfl := Option.some.inj hp
    have h1 := hc pre.length y mid_eq
    have hs : pre.length * 8 + 6 < cur.size := (Array.getElem?_eq_some_iff.1 (h1.2.2.2.2.2.2.1)).1
    refine ⟨?_, ?_, ?_, ?_, ?_, ?_, ?_, ?_⟩
    · rw [Array.getElem?_setIfInBounds_ne (by omega)]; exact h1.1
    · rw [Array.getElem?_setIfInBounds_ne (by omega)]; exact h1.2.1
    · rw [Array.getElem?_setIfInBounds_ne (by omega)]; exact h1.2.2.1
    · rw [Array.getElem?_setIfInBounds_ne (by omega)]; exact h1.2.2.2.1
    · rw [Array.getElem?_setIfInBounds_ne (by omega)]; exact h1.2.2.2.2.1
    · rw [Array.getElem?_setIfInBounds_ne (by omega)]; exact h1.2.2.2.2.2.1
    · simp [hs]
    · rw [Array.getElem?_setIfInBounds_ne (by omega)]; exact h1.2.2.2.2.2.2.2
  · rw [mid_ne e (y' := y)] at hp
    have h1 := hc j p hp
    refine ⟨?_, ?_, ?_, ?_, ?_, ?_, ?_, ?_⟩
    · rw [Array.getElem?_setIfInBounds_ne (by omega)]; exact h1.1
    · rw [Array.getElem?_setIfInBounds_ne (by omega)]; exact h1.2.1
    · rw [Array.getElem?_setIfInBounds_ne (by omega)]; exact h1.2.2.1
    · rw [Array.getElem?_setIfInBounds_ne (by omega)]; exact h1.2.2.2.1
    · rw [Array.getElem?_setIfInBounds_ne (by omega)]; exact h1.2.2.2.2.1
    · rw [Array.getElem?_setIfInBounds_ne (by omega)]; exact h1.2.2.2.2.2.1
    · rw [Array.getElem?_setIfInBounds_ne (by omega)]; exact h1.2.2.2.2.2.2.1
    · rw [Array.getElem?_setIfInBounds_ne (by omega)]; exact h1.2.2.2.2.2.2.2
theorem RowZ.data {w : World} {G : Nat} {pre post : List (SV × SD)} {v : SV} {d d' : SD} (h : RowZ w G (pre ++ (v, d) :: post)) : RowZ w G (pre ++ (v, d') :: post) := by
  obtain ⟨cur, hg, hc⟩ := h
  refine ⟨cur, hg, fun j p hp => ?_⟩
  by_cases e : j = pre.length
  · subst e
    rw [mid_eq] at hp
    obtain rfl := Option.some.inj hp
    exact hc pre.length (v, d) mid_eq
  · rw [mid_ne e (y' := (v, d))] at hp
    exact hc j p hp
theorem zipZ_mid0 (pre post : List (SV × SD)) (y : SV × SD) : zipPS (pre ++ y :: post) = zipPS pre ++ (y.1.lo.num, y.2.lo.num) :: (y.1.lo.den, y.2.lo.den) :: (y.1.hi.num, y.2.hi.num) :: (y.1.hi.den, y.2.hi.den) :: zipPS post := by simp [zipPS]
theorem zipZ_mid1 (pre post : List (SV × SD)) (y : SV × SD) : zipPS (pre ++ y :: post) = (zipPS pre ++ [(y.1.lo.num, y.2.lo.num)]) ++ (y.1.lo.den, y.2.lo.den) :: (y.1.hi.num, y.2.hi.num) :: (y.1.hi.den, y.2.hi.den) :: zipPS post := by simp [zipPS]
theorem zipZ_mid2 (pre post : List (SV × SD)) (y : SV × SD) : zipPS (pre ++ y :: post) = (zipPS pre ++ [(y.1.lo.num, y.2.lo.num), (y.1.lo.den, y.2.lo.den)]) ++ (y.1.hi.num, y.2.hi.num) :: (y.1.hi.den, y.2.hi.den) :: zipPS post := by simp [zipPS]
theorem zipZ_mid3 (pre post : List (SV × SD)) (y : SV × SD) : zipPS (pre ++ y :: post) = (zipPS pre ++ [(y.1.lo.num, y.2.lo.num), (y.1.lo.den, y.2.lo.den), (y.1.hi.num, y.2.hi.num)]) ++ (y.1.hi.den, y.2.hi.den) :: zipPS post := by simp [zipPS]
/-- A marked value, from k on. -/
def mkZ (k : Int) (y : SV × SD) : SV × SD := ((⟨⟨⟨sg (k), y.1.lo.num.a, y.1.lo.num.n, y.1.lo.num.c⟩, ⟨sg (k + 1 + (y.1.lo.num.n : Int)), y.1.lo.den.a, y.1.lo.den.n, y.1.lo.den.c⟩⟩, ⟨⟨sg (k + 1 + (y.1.lo.num.n : Int) + 1 + (y.1.lo.den.n : Int)), y.1.hi.num.a, y.1.hi.num.n, y.1.hi.num.c⟩, ⟨sg (k + 1 + (y.1.lo.num.n : Int) + 1 + (y.1.lo.den.n : Int) + 1 + (y.1.hi.num.n : Int)), y.1.hi.den.a, y.1.hi.den.n, y.1.hi.den.c⟩⟩⟩ : SV), (⟨⟨⟨sg (k), marks (k + 1) y.1.lo.num.n⟩, ⟨sg (k + 1 + (y.1.lo.num.n : Int)), marks (k + 1 + (y.1.lo.num.n : Int) + 1) y.1.lo.den.n⟩⟩, ⟨⟨sg (k + 1 + (y.1.lo.num.n : Int) + 1 + (y.1.lo.den.n : Int)), marks (k + 1 + (y.1.lo.num.n : Int) + 1 + (y.1.lo.den.n : Int) + 1) y.1.hi.num.n⟩, ⟨sg (k + 1 + (y.1.lo.num.n : Int) + 1 + (y.1.lo.den.n : Int) + 1 + (y.1.hi.num.n : Int)), marks (k + 1 + (y.1.lo.num.n : Int) + 1 + (y.1.lo.den.n : Int) + 1 + (y.1.hi.num.n : Int) + 1) y.1.hi.den.n⟩⟩⟩ : SD))
def nxZ (k : Int) (y : SV × SD) : Int := k + 1 + (y.1.lo.num.n : Int) + 1 + (y.1.lo.den.n : Int) + 1 + (y.1.hi.num.n : Int) + 1 + (y.1.hi.den.n : Int)
def mkPZ : Int → List (SV × SD) → List (SV × SD)
  | _, [] => []
  | k, y :: l => mkZ k y :: mkPZ (nxZ k y) l
def enZ : Int → List (SV × SD) → Int
  | k, [] => k
  | k, y :: l => enZ (nxZ k y) l
theorem mkPZ_snoc (l : List (SV × SD)) (y : SV × SD) : ∀ k, mkPZ k (l ++ [y]) = mkPZ k l ++ [mkZ (enZ k l) y] := by
  induction l with
  | nil => intro k; rfl
  | cons z l ih => intro k; show mkZ k z :: mkPZ (nxZ k z) (l ++ [y]) = _; rw [ih]; rfl
theorem enZ_snoc (l : List (SV × SD)) (y : SV × SD) : ∀ k, enZ k (l ++ [y]) = nxZ (enZ k l) y := by
  induction l with
  | nil => intro k; rfl
  | cons z l ih => intro k; show enZ (nxZ k z) (l ++ [y]) = _; rw [ih]; rfl
theorem mkPZ_len (l : List (SV × SD)) : ∀ k, (mkPZ k l).length = l.length := by
  induction l with
  | nil => intro k; rfl
  | cons z l ih => intro k; show (mkPZ (nxZ k z) l).length + 1 = _; rw [ih]; rfl
theorem enZ_eq (l : List (SV × SD)) : ∀ k, enZ k l = k + 4 * (l.length : Int) + (lenPS l : Int) := by
  induction l with
  | nil => intro k; simp [enZ, lenPS]
  | cons z l ih =>
    intro k
    show enZ (nxZ k z) l = _
    rw [ih]
    have h2 : lenPS (z :: l) = lenS z + lenPS l := rfl
    have h3 : lenS z = z.1.lo.num.n + z.1.lo.den.n + z.1.hi.num.n + z.1.hi.den.n := rfl
    rw [h2, h3]
    unfold nxZ
    simp only [List.length_cons]
    omega
theorem mkPZ_get (l : List (SV × SD)) : ∀ (k : Int) (i : Nat) (h : i < l.length), (mkPZ k l)[i]? = some (mkZ (enZ k (l.take i)) l[i]) := by
  induction l with
  | nil => intro k i h; simp at h
  | cons z l ih =>
    intro k i h
    match i with
    | 0 => rfl
    | i + 1 => exact ih (nxZ k z) i (by simpa using h)

set_option maxHeartbeats 8000000 in
theorem markPZ (G n c : Nat) (l : List (SV × SD)) (k : Int) (lo hi : Nat) (w : World) (hr : RowZ w G l) (ho : AllOwn lo hi w (zipPS l)) (hn : l.length = n) (ml : ∀ p ∈ l, p.1.lo.num.n ≤ 1048576 ∧ p.1.lo.den.n ≤ 1048576 ∧ p.1.hi.num.n ≤ 1048576 ∧ p.1.hi.den.n ≤ 1048576) (hG : G < lo) (hH : lo ≤ hi) (k0 : 0 ≤ k) (k1 : k + 4 * (n : Int) + (lenPS l : Int) ≤ 4900000) :
    Calls Try.prog 13 #[.slice (some ⟨G, 0, none⟩) n c, .int .i64 k] w fun e w' => e = .returned (.int .i64 (enZ k l)) ∧ But G hi w w' ∧ RowZ w' G (mkPZ k l) ∧ AllOwn lo hi w' (zipPS (mkPZ k l)) := by
  have HR := hide hr
  have HO := hide ho
  have HN := hide hn
  have ML := hide ml
  clear hr ho hn ml
  have hn1 : n ≤ 4900000 := by omega
  go_enter Try.func13, Try.ntmps13
  go_wp2
  go_loopw [1, 5] (fun kv iv wr => ∃ (i : Nat) (a b : List (SV × SD)) (q : Int), i ≤ n ∧ iv = .int .i64 i ∧ kv = .int .i64 q ∧ 0 ≤ q ∧ a.length = i ∧ Hid (l = a ++ b) ∧ Hid (q = enZ k a) ∧ Hid (RowZ wr G (mkPZ k a ++ b)) ∧ Hid (AllOwn lo hi wr (zipPS (mkPZ k a ++ b))) ∧ Hid (But G hi w wr)) (fun _ iv _ => n - (intOf iv).toNat)
  case atStart => exact ⟨0, [], l, k, Nat.zero_le _, rfl, rfl, k0, rfl, hide rfl, hide rfl, HR, HO, hide (But.refl _ _ _)⟩
  case round =>
    clear HR HO
    obtain ⟨i, a, b, q, hi', rfl, rfl, q0, ha, EL, EQ, HR, HO, HB⟩ := hrel
    by_cases hlt : i < n
    · have hlt' : (i : Int) < (n : Int) := by omega
      obtain ⟨y, b', rfl⟩ : ∃ y b', b = y :: b' := by
        cases b with
        | nil => have h1 := unhide HN; rw [unhide EL, List.append_nil] at h1; omega
        | cons y b' => exact ⟨y, b', rfl⟩
      have LB : Hid ((y.1.lo.num.n : Int) + (y.1.lo.den.n : Int) + (y.1.hi.num.n : Int) + (y.1.hi.den.n : Int) + (q + 4) ≤ 4900000) := hide (by
        have h1 := unhide EQ
        rw [enZ_eq, ha] at h1
        have h2 : lenPS l = lenPS a + (lenS y + lenPS b') := by rw [unhide EL, lenPS_append]; rfl
        have h3 : lenS y = y.1.lo.num.n + y.1.lo.den.n + y.1.hi.num.n + y.1.hi.den.n := rfl
        have h4 := unhide HN
        rw [unhide EL] at h4
        simp at h4
        omega)
      have l1 : (y.1.lo.num.n : Int) + (y.1.lo.den.n : Int) + (y.1.hi.num.n : Int) + (y.1.hi.den.n : Int) + (q + 4) ≤ 4900000 := unhide LB
      have m0 : y.1.lo.num.n ≤ 1048576 := ((unhide ML) y (by rw [unhide EL]; simp)).1
      have m1 : y.1.lo.den.n ≤ 1048576 := ((unhide ML) y (by rw [unhide EL]; simp)).2.1
      have m2 : y.1.hi.num.n ≤ 1048576 := ((unhide ML) y (by rw [unhide EL]; simp)).2.2.1
      have m3 : y.1.hi.den.n ≤ 1048576 := ((unhide ML) y (by rw [unhide EL]; simp)).2.2.2
      have pl : (mkPZ k a).length = i := by rw [mkPZ_len]; exact ha
      obtain ⟨c0, c1, c2, c3, c4, c5, c6, c7⟩ := (unhide HR).cellsAt (i := i) (y := y) (by rw [← pl]; exact mid_eq)
      have fz := (unhide HR).frozen
      have gG : G < wr.heap.size := (unhide HR).lt
      have HR1 := hide ((unhide HR).g0 (sg (q)) pl)
      have HO1 := hide (AllOwn.resign (sg (q)) (by have h := unhide HO; rw [zipZ_mid0] at h; exact h) (w' := wr.setCell ⟨G, i * 8, none⟩ (.bool (sg (q)))) (fun k h1 _ => setCell_other (by omega)))
      have HB1 := hide ((unhide HB).set (p := ⟨G, i * 8, none⟩) (Nat.le_refl _) (by show G < hi; omega) (.bool (sg (q))))
      go_wp2_with fail
      refine (mark_atL ⟨sg (q), y.1.lo.num.a, y.1.lo.num.n, y.1.lo.num.c⟩ ⟨sg (q), y.2.lo.num.xs⟩ _ _ (q + 1) lo hi _ (unhide HO1) m0 (by omega) (by omega)).mono ?_
      rintro e w2 ⟨rfl, hbt, ho2⟩
      have HR2 : Hid (RowZ w2 G (mkPZ k a ++ ((⟨⟨⟨sg (q), y.1.lo.num.a, y.1.lo.num.n, y.1.lo.num.c⟩, y.1.lo.den⟩, ⟨y.1.hi.num, y.1.hi.den⟩⟩ : SV), (⟨⟨⟨sg (q), marks (q + 1) y.1.lo.num.n⟩, y.2.lo.den⟩, ⟨y.2.hi.num, y.2.hi.den⟩⟩ : SD)) :: b')) := hide ((unhide HR1).but hbt (.inl hG)).data
      have HO2 : Hid (AllOwn lo hi w2 (zipPS (mkPZ k a ++ ((⟨⟨⟨sg (q), y.1.lo.num.a, y.1.lo.num.n, y.1.lo.num.c⟩, y.1.lo.den⟩, ⟨y.1.hi.num, y.1.hi.den⟩⟩ : SV), (⟨⟨⟨sg (q), marks (q + 1) y.1.lo.num.n⟩, y.2.lo.den⟩, ⟨y.2.hi.num, y.2.hi.den⟩⟩ : SD)) :: b'))) := hide (by rw [zipZ_mid0]; exact ho2)
      have HB2 := hide ((unhide HB1).trans (hbt.wide (by omega) (Nat.le_refl _)))
      clear hbt ho2 c0 c1 c2 c3 c4 c5 c6 c7 fz HR HO HB HR1 HO1 HB1
      obtain ⟨c0, c1, c2, c3, c4, c5, c6, c7⟩ := (unhide HR2).cellsAt (i := i) (by rw [← pl]; exact mid_eq)
      simp only at c0 c1 c2 c3 c4 c5 c6 c7
      have fz := (unhide HR2).frozen
      have HR3 := hide ((unhide HR2).g1 (sg (q + 1 + (y.1.lo.num.n : Int))) pl)
      have HO3 := hide (AllOwn.resign (sg (q + 1 + (y.1.lo.num.n : Int))) (by have h := unhide HO2; rw [zipZ_mid1] at h; exact h) (w' := w2.setCell ⟨G, i * 8 + 2, none⟩ (.bool (sg (q + 1 + (y.1.lo.num.n : Int))))) (fun k h1 _ => setCell_other (by omega)))
      have HB3 := hide ((unhide HB2).set (p := ⟨G, i * 8 + 2, none⟩) (Nat.le_refl _) (by show G < hi; omega) (.bool (sg (q + 1 + (y.1.lo.num.n : Int)))))
      go_wp2_with fail
      refine (mark_atL ⟨sg (q + 1 + (y.1.lo.num.n : Int)), y.1.lo.den.a, y.1.lo.den.n, y.1.lo.den.c⟩ ⟨sg (q + 1 + (y.1.lo.num.n : Int)), y.2.lo.den.xs⟩ _ _ (q + 1 + (y.1.lo.num.n : Int) + 1) lo hi _ (unhide HO3) m1 (by omega) (by omega)).mono ?_
      rintro e w4 ⟨rfl, hbt, ho2⟩
      have HR4 : Hid (RowZ w4 G (mkPZ k a ++ ((⟨⟨⟨sg (q), y.1.lo.num.a, y.1.lo.num.n, y.1.lo.num.c⟩, ⟨sg (q + 1 + (y.1.lo.num.n : Int)), y.1.lo.den.a, y.1.lo.den.n, y.1.lo.den.c⟩⟩, ⟨y.1.hi.num, y.1.hi.den⟩⟩ : SV), (⟨⟨⟨sg (q), marks (q + 1) y.1.lo.num.n⟩, ⟨sg (q + 1 + (y.1.lo.num.n : Int)), marks (q + 1 + (y.1.lo.num.n : Int) + 1) y.1.lo.den.n⟩⟩, ⟨y.2.hi.num, y.2.hi.den⟩⟩ : SD)) :: b')) := hide ((unhide HR3).but hbt (.inl hG)).data
      have HO4 : Hid (AllOwn lo hi w4 (zipPS (mkPZ k a ++ ((⟨⟨⟨sg (q), y.1.lo.num.a, y.1.lo.num.n, y.1.lo.num.c⟩, ⟨sg (q + 1 + (y.1.lo.num.n : Int)), y.1.lo.den.a, y.1.lo.den.n, y.1.lo.den.c⟩⟩, ⟨y.1.hi.num, y.1.hi.den⟩⟩ : SV), (⟨⟨⟨sg (q), marks (q + 1) y.1.lo.num.n⟩, ⟨sg (q + 1 + (y.1.lo.num.n : Int)), marks (q + 1 + (y.1.lo.num.n : Int) + 1) y.1.lo.den.n⟩⟩, ⟨y.2.hi.num, y.2.hi.den⟩⟩ : SD)) :: b'))) := hide (by rw [zipZ_mid1]; exact ho2)
      have HB4 := hide ((unhide HB3).trans (hbt.wide (by omega) (Nat.le_refl _)))
      clear hbt ho2 c0 c1 c2 c3 c4 c5 c6 c7 fz HR2 HO2 HB2 HR3 HO3 HB3
      obtain ⟨c0, c1, c2, c3, c4, c5, c6, c7⟩ := (unhide HR4).cellsAt (i := i) (by rw [← pl]; exact mid_eq)
      simp only at c0 c1 c2 c3 c4 c5 c6 c7
      have fz := (unhide HR4).frozen
      have HR5 := hide ((unhide HR4).g2 (sg (q + 1 + (y.1.lo.num.n : Int) + 1 + (y.1.lo.den.n : Int))) pl)
      have HO5 := hide (AllOwn.resign (sg (q + 1 + (y.1.lo.num.n : Int) + 1 + (y.1.lo.den.n : Int))) (by have h := unhide HO4; rw [zipZ_mid2] at h; exact h) (w' := w4.setCell ⟨G, i * 8 + 4, none⟩ (.bool (sg (q + 1 + (y.1.lo.num.n : Int) + 1 + (y.1.lo.den.n : Int))))) (fun k h1 _ => setCell_other (by omega)))
      have HB5 := hide ((unhide HB4).set (p := ⟨G, i * 8 + 4, none⟩) (Nat.le_refl _) (by show G < hi; omega) (.bool (sg (q + 1 + (y.1.lo.num.n : Int) + 1 + (y.1.lo.den.n : Int)))))
      go_wp2_with fail
      refine (mark_atL ⟨sg (q + 1 + (y.1.lo.num.n : Int) + 1 + (y.1.lo.den.n : Int)), y.1.hi.num.a, y.1.hi.num.n, y.1.hi.num.c⟩ ⟨sg (q + 1 + (y.1.lo.num.n : Int) + 1 + (y.1.lo.den.n : Int)), y.2.hi.num.xs⟩ _ _ (q + 1 + (y.1.lo.num.n : Int) + 1 + (y.1.lo.den.n : Int) + 1) lo hi _ (unhide HO5) m2 (by omega) (by omega)).mono ?_
      rintro e w6 ⟨rfl, hbt, ho2⟩
      have HR6 : Hid (RowZ w6 G (mkPZ k a ++ ((⟨⟨⟨sg (q), y.1.lo.num.a, y.1.lo.num.n, y.1.lo.num.c⟩, ⟨sg (q + 1 + (y.1.lo.num.n : Int)), y.1.lo.den.a, y.1.lo.den.n, y.1.lo.den.c⟩⟩, ⟨⟨sg (q + 1 + (y.1.lo.num.n : Int) + 1 + (y.1.lo.den.n : Int)), y.1.hi.num.a, y.1.hi.num.n, y.1.hi.num.c⟩, y.1.hi.den⟩⟩ : SV), (⟨⟨⟨sg (q), marks (q + 1) y.1.lo.num.n⟩, ⟨sg (q + 1 + (y.1.lo.num.n : Int)), marks (q + 1 + (y.1.lo.num.n : Int) + 1) y.1.lo.den.n⟩⟩, ⟨⟨sg (q + 1 + (y.1.lo.num.n : Int) + 1 + (y.1.lo.den.n : Int)), marks (q + 1 + (y.1.lo.num.n : Int) + 1 + (y.1.lo.den.n : Int) + 1) y.1.hi.num.n⟩, y.2.hi.den⟩⟩ : SD)) :: b')) := hide ((unhide HR5).but hbt (.inl hG)).data
      have HO6 : Hid (AllOwn lo hi w6 (zipPS (mkPZ k a ++ ((⟨⟨⟨sg (q), y.1.lo.num.a, y.1.lo.num.n, y.1.lo.num.c⟩, ⟨sg (q + 1 + (y.1.lo.num.n : Int)), y.1.lo.den.a, y.1.lo.den.n, y.1.lo.den.c⟩⟩, ⟨⟨sg (q + 1 + (y.1.lo.num.n : Int) + 1 + (y.1.lo.den.n : Int)), y.1.hi.num.a, y.1.hi.num.n, y.1.hi.num.c⟩, y.1.hi.den⟩⟩ : SV), (⟨⟨⟨sg (q), marks (q + 1) y.1.lo.num.n⟩, ⟨sg (q + 1 + (y.1.lo.num.n : Int)), marks (q + 1 + (y.1.lo.num.n : Int) + 1) y.1.lo.den.n⟩⟩, ⟨⟨sg (q + 1 + (y.1.lo.num.n : Int) + 1 + (y.1.lo.den.n : Int)), marks (q + 1 + (y.1.lo.num.n : Int) + 1 + (y.1.lo.den.n : Int) + 1) y.1.hi.num.n⟩, y.2.hi.den⟩⟩ : SD)) :: b'))) := hide (by rw [zipZ_mid2]; exact ho2)
      have HB6 := hide ((unhide HB5).trans (hbt.wide (by omega) (Nat.le_refl _)))
      clear hbt ho2 c0 c1 c2 c3 c4 c5 c6 c7 fz HR4 HO4 HB4 HR5 HO5 HB5
      obtain ⟨c0, c1, c2, c3, c4, c5, c6, c7⟩ := (unhide HR6).cellsAt (i := i) (by rw [← pl]; exact mid_eq)
      simp only at c0 c1 c2 c3 c4 c5 c6 c7
      have fz := (unhide HR6).frozen
      have HR7 := hide ((unhide HR6).g3 (sg (q + 1 + (y.1.lo.num.n : Int) + 1 + (y.1.lo.den.n : Int) + 1 + (y.1.hi.num.n : Int))) pl)
      have HO7 := hide (AllOwn.resign (sg (q + 1 + (y.1.lo.num.n : Int) + 1 + (y.1.lo.den.n : Int) + 1 + (y.1.hi.num.n : Int))) (by have h := unhide HO6; rw [zipZ_mid3] at h; exact h) (w' := w6.setCell ⟨G, i * 8 + 6, none⟩ (.bool (sg (q + 1 + (y.1.lo.num.n : Int) + 1 + (y.1.lo.den.n : Int) + 1 + (y.1.hi.num.n : Int))))) (fun k h1 _ => setCell_other (by omega)))
      have HB7 := hide ((unhide HB6).set (p := ⟨G, i * 8 + 6, none⟩) (Nat.le_refl _) (by show G < hi; omega) (.bool (sg (q + 1 + (y.1.lo.num.n : Int) + 1 + (y.1.lo.den.n : Int) + 1 + (y.1.hi.num.n : Int)))))
      go_wp2_with fail
      refine (mark_atL ⟨sg (q + 1 + (y.1.lo.num.n : Int) + 1 + (y.1.lo.den.n : Int) + 1 + (y.1.hi.num.n : Int)), y.1.hi.den.a, y.1.hi.den.n, y.1.hi.den.c⟩ ⟨sg (q + 1 + (y.1.lo.num.n : Int) + 1 + (y.1.lo.den.n : Int) + 1 + (y.1.hi.num.n : Int)), y.2.hi.den.xs⟩ _ _ (q + 1 + (y.1.lo.num.n : Int) + 1 + (y.1.lo.den.n : Int) + 1 + (y.1.hi.num.n : Int) + 1) lo hi _ (unhide HO7) m3 (by omega) (by omega)).mono ?_
      rintro e w8 ⟨rfl, hbt, ho2⟩
      have EK : Hid (mkPZ k (a ++ [y]) ++ b' = mkPZ k a ++ mkZ q y :: b') := hide (by rw [mkPZ_snoc, ← unhide EQ, List.append_assoc]; rfl)
      have HR8 : Hid (RowZ w8 G (mkPZ k (a ++ [y]) ++ b')) := hide (by rw [unhide EK]; exact ((unhide HR7).but hbt (.inl hG)).data)
      have HO8 : Hid (AllOwn lo hi w8 (zipPS (mkPZ k (a ++ [y]) ++ b'))) := hide (by rw [unhide EK, zipZ_mid3]; exact ho2)
      have EQ4 : Hid (nxZ q y = enZ k (a ++ [y])) := hide (by rw [enZ_snoc, ← unhide EQ])
      have HB8 := hide ((unhide HB7).trans (hbt.wide (by omega) (Nat.le_refl _)))
      clear hbt ho2 c0 c1 c2 c3 c4 c5 c6 c7 fz HR6 HO6 HB6 HR7 HO7 HB7
      go_wp2
      go_roundw
      case rel => exact ⟨i + 1, a ++ [y], b', nxZ q y, by omega, by go_num, rfl, by unfold nxZ; omega, by simp [ha], hide (by rw [unhide EL, List.append_assoc]; rfl), EQ4, HR8, HO8, HB8⟩
      case measure => simp [intOf]; omega
    · obtain rfl : i = n := by omega
      have hb0 : b = [] := by
        have h1 := unhide HN
        rw [unhide EL, List.length_append] at h1
        exact List.length_eq_zero_iff.1 (by omega)
      subst hb0
      have EA : Hid (l = a) := hide (by rw [unhide EL, List.append_nil])
      go_wp2
      go_ret
      refine ⟨by rw [unhide EA, ← unhide EQ]; rfl, unhide HB, ?_, ?_⟩
      · have h := unhide HR
        rw [List.append_nil, ← unhide EA] at h
        exact h
      · have h := unhide HO
        rw [List.append_nil, ← unhide EA] at h
        exact h
theorem mkPZ_mem {l : List (SV × SD)} {k : Int} {P : SV × SD → Prop} (h : ∀ q y, y ∈ l → P (mkZ q y)) : ∀ p ∈ mkPZ k l, P p := by
  induction l generalizing k with
  | nil => intro p hp; cases hp
  | cons z l ih =>
    intro p hp
    rcases List.mem_cons.1 hp with rfl | hp
    · exact h k z List.mem_cons_self
    · exact ih (fun q y hy => h q y (List.mem_cons_of_mem _ hy)) p hp
theorem mkPZ_lenP (l : List (SV × SD)) : ∀ k, lenPS (mkPZ k l) = lenPS l := by
  induction l with
  | nil => intro k; rfl
  | cons z l ih => intro k; show lenS (mkZ k z) + lenPS (mkPZ (nxZ k z) l) = lenS z + lenPS l; rw [ih]; rfl
set_option maxHeartbeats 8000000 in
theorem heldPZ (G n c : Nat) (l : List (SV × SD)) (k : Int) (w : World) (hr : RowZ w G (mkPZ k l)) (hs : AllSl w (zipPS (mkPZ k l))) (hn : l.length = n) (ml : ∀ p ∈ l, p.1.lo.num.n ≤ 1048576 ∧ p.1.lo.den.n ≤ 1048576 ∧ p.1.hi.num.n ≤ 1048576 ∧ p.1.hi.den.n ≤ 1048576) (k0 : 0 ≤ k) (k1 : k + 4 * (n : Int) + (lenPS l : Int) ≤ 4900000) :
    Calls Try.prog 14 #[.slice (some ⟨G, 0, none⟩) n c, .int .i64 k] w fun e w' => e = .returned (.int .i64 (enZ k l)) ∧ w' = w := by
  have HR := hide hr
  have HS := hide hs
  have HN := hide hn
  have ML := hide ml
  clear hr hs hn ml
  have hn1 : n ≤ 4900000 := by omega
  go_enter Try.func14, Try.ntmps14
  go_wp2
  go_loopw [1, 5] (fun kv iv wr => ∃ (i : Nat) (q : Int), i ≤ n ∧ iv = .int .i64 i ∧ kv = .int .i64 q ∧ 0 ≤ q ∧ Hid (q = enZ k (l.take i)) ∧ wr = w) (fun _ iv _ => n - (intOf iv).toNat)
  case atStart => exact ⟨0, k, Nat.zero_le _, rfl, rfl, k0, hide (by simp [enZ]), rfl⟩
  case round =>
    obtain ⟨i, q, hi', rfl, rfl, q0, EQ, rfl⟩ := hrel
    by_cases hlt : i < n
    · have hlt' : (i : Int) < (n : Int) := by omega
      have hil : i < l.length := by rw [unhide HN]; exact hlt
      have hget := mkPZ_get l k i hil
      rw [← unhide EQ] at hget
      have TK : Hid (l.take (i + 1) = l.take i ++ [l[i]]) := hide (take_succS hil)
      have MY : Hid (l[i] ∈ l) := hide (List.getElem_mem _)
      have EQ2 : Hid (nxZ q l[i] = enZ k (l.take (i + 1))) := hide (by rw [unhide TK, enZ_snoc, ← unhide EQ])
      have LE : Hid (nxZ q l[i] ≤ 4900000) := hide (by
        rw [unhide EQ2, enZ_eq]
        have h1 : (l.take (i + 1)).length = i + 1 := by rw [List.length_take]; omega
        have h2 : lenPS l = lenPS (l.take (i + 1)) + lenPS (l.drop (i + 1)) := by rw [← lenPS_append, List.take_append_drop]
        rw [h1]
        omega)
      have hm := List.mem_of_getElem? hget
      have S0 := (unhide HS) ((mkZ q l[i]).1.lo.num, (mkZ q l[i]).2.lo.num) (zipPS_mem hm (by simp))
      have S1 := (unhide HS) ((mkZ q l[i]).1.lo.den, (mkZ q l[i]).2.lo.den) (zipPS_mem hm (by simp))
      have S2 := (unhide HS) ((mkZ q l[i]).1.hi.num, (mkZ q l[i]).2.hi.num) (zipPS_mem hm (by simp))
      have S3 := (unhide HS) ((mkZ q l[i]).1.hi.den, (mkZ q l[i]).2.hi.den) (zipPS_mem hm (by simp))
      have m0 := (unhide ML) l[i] (unhide MY)
      obtain ⟨b0, b1, b2, b3, b4, b5, b6, b7⟩ := (unhide HR).cellsAt hget
      obtain ⟨y, hy⟩ : ∃ y, y = l[i] := ⟨_, rfl⟩
      rw [← hy] at b0 b1 b2 b3 b4 b5 b6 b7 S0 S1 S2 S3 m0 EQ2 LE
      clear hy hget hm TK MY hil
      have c0 : wr.cell? ⟨G, i * 8, none⟩ = some (.bool ((q) % 3 == 0)) := b0
      have c1 : wr.cell? ⟨G, i * 8 + 1, none⟩ = some (.slice y.1.lo.num.a y.1.lo.num.n y.1.lo.num.c) := b1
      have X0 := hide (show Sl wr y.1.lo.num.a (marks (q + 1) y.1.lo.num.n) from S0.sl)
      have c2 : wr.cell? ⟨G, i * 8 + 2, none⟩ = some (.bool ((q + 1 + (y.1.lo.num.n : Int)) % 3 == 0)) := b2
      have c3 : wr.cell? ⟨G, i * 8 + 3, none⟩ = some (.slice y.1.lo.den.a y.1.lo.den.n y.1.lo.den.c) := b3
      have X1 := hide (show Sl wr y.1.lo.den.a (marks (q + 1 + (y.1.lo.num.n : Int) + 1) y.1.lo.den.n) from S1.sl)
      have c4 : wr.cell? ⟨G, i * 8 + 4, none⟩ = some (.bool ((q + 1 + (y.1.lo.num.n : Int) + 1 + (y.1.lo.den.n : Int)) % 3 == 0)) := b4
      have c5 : wr.cell? ⟨G, i * 8 + 5, none⟩ = some (.slice y.1.hi.num.a y.1.hi.num.n y.1.hi.num.c) := b5
      have X2 := hide (show Sl wr y.1.hi.num.a (marks (q + 1 + (y.1.lo.num.n : Int) + 1 + (y.1.lo.den.n : Int) + 1) y.1.hi.num.n) from S2.sl)
      have c6 : wr.cell? ⟨G, i * 8 + 6, none⟩ = some (.bool ((q + 1 + (y.1.lo.num.n : Int) + 1 + (y.1.lo.den.n : Int) + 1 + (y.1.hi.num.n : Int)) % 3 == 0)) := b6
      have c7 : wr.cell? ⟨G, i * 8 + 7, none⟩ = some (.slice y.1.hi.den.a y.1.hi.den.n y.1.hi.den.c) := b7
      have X3 := hide (show Sl wr y.1.hi.den.a (marks (q + 1 + (y.1.lo.num.n : Int) + 1 + (y.1.lo.den.n : Int) + 1 + (y.1.hi.num.n : Int) + 1) y.1.hi.den.n) from S3.sl)
      have le : q + 1 + (y.1.lo.num.n : Int) + 1 + (y.1.lo.den.n : Int) + 1 + (y.1.hi.num.n : Int) + 1 + (y.1.hi.den.n : Int) ≤ 4900000 := unhide LE
      clear b0 b1 b2 b3 b4 b5 b6 b7 S0 S1 S2 S3 LE
      go_wp2_with fail
      refine (heldI_anyL _ _ _ (q + 1) _ (unhide X0) m0.1 (by omega) (by omega)).mono ?_
      rintro e w0 ⟨rfl, rfl⟩
      have d0 : ¬ (q + 1 + (y.1.lo.num.n : Int) < 0) := by omega
      go_wp2_with fail
      refine (heldI_anyL _ _ _ (q + 1 + (y.1.lo.num.n : Int) + 1) _ (unhide X1) m0.2.1 (by omega) (by omega)).mono ?_
      rintro e w1 ⟨rfl, rfl⟩
      have d1 : ¬ (q + 1 + (y.1.lo.num.n : Int) + 1 + (y.1.lo.den.n : Int) < 0) := by omega
      go_wp2_with fail
      refine (heldI_anyL _ _ _ (q + 1 + (y.1.lo.num.n : Int) + 1 + (y.1.lo.den.n : Int) + 1) _ (unhide X2) m0.2.2.1 (by omega) (by omega)).mono ?_
      rintro e w2 ⟨rfl, rfl⟩
      have d2 : ¬ (q + 1 + (y.1.lo.num.n : Int) + 1 + (y.1.lo.den.n : Int) + 1 + (y.1.hi.num.n : Int) < 0) := by omega
      go_wp2_with fail
      refine (heldI_anyL _ _ _ (q + 1 + (y.1.lo.num.n : Int) + 1 + (y.1.lo.den.n : Int) + 1 + (y.1.hi.num.n : Int) + 1) _ (unhide X3) m0.2.2.2 (by omega) (by omega)).mono ?_
      rintro e w3 ⟨rfl, rfl⟩
      have d3 : ¬ (q + 1 + (y.1.lo.num.n : Int) + 1 + (y.1.lo.den.n : Int) + 1 + (y.1.hi.num.n : Int) + 1 + (y.1.hi.den.n : Int) < 0) := by omega
      go_wp2
      go_roundw
      case rel => exact ⟨i + 1, nxZ q y, by omega, by go_num, rfl, by unfold nxZ; omega, EQ2, trivial⟩
      case measure => simp [intOf]; omega
    · obtain rfl : i = n := by omega
      have EL : Hid (q = enZ k l) := hide (by have h := unhide EQ; rw [← unhide HN, List.take_length] at h; exact h)
      go_wp2
      go_ret
      exact ⟨by rw [← unhide EL]; rfl, rfl⟩
theorem markPZ0 (a : Option Addr) (c : Nat) (k : Int) (w : World) : Calls Try.prog 13 #[.slice a 0 c, .int .i64 k] w fun e w' => e = .returned (.int .i64 k) ∧ w' = w := by
  go_enter Try.func13, Try.ntmps13
  go_wp2
  refine wp_loop_rounds 1 ?_
  rw [rounds_succ]
  go_wp2
  go_ret
  exact ⟨rfl, rfl⟩
theorem heldPZ0 (a : Option Addr) (c : Nat) (k : Int) (w : World) : Calls Try.prog 14 #[.slice a 0 c, .int .i64 k] w fun e w' => e = .returned (.int .i64 k) ∧ w' = w := by
  go_enter Try.func14, Try.ntmps14
  go_wp2
  refine wp_loop_rounds 1 ?_
  rw [rounds_succ]
  go_wp2
  go_ret
  exact ⟨rfl, rfl⟩

/-- A slice of fractions that is the call's own: its row and its numbers in blocks from B to below E. -/
structure PRoZ (B E : Nat) (w : World) (a : Option Addr) (n c : Nat) (l : List (SV × SD)) : Prop where
  len : l.length = n
  sz : 4 * n + lenPS l ≤ 4200000
  ml : ∀ p ∈ l, p.1.lo.num.n ≤ 1048576 ∧ p.1.lo.den.n ≤ 1048576 ∧ p.1.hi.num.n ≤ 1048576 ∧ p.1.hi.den.n ≤ 1048576
  row : n = 0 ∨ ∃ G lo hi, a = some ⟨G, 0, none⟩ ∧ B ≤ G ∧ G < lo ∧ lo ≤ hi ∧ hi ≤ E ∧ RowZ w G l ∧ AllOwn lo hi w (zipPS l)
theorem PRoZ.later {B E : Nat} {w w' : World} {a : Option Addr} {n c : Nat} {l : List (SV × SD)} (h : PRoZ B E w a n c l) (hb : Below w.heap.size w w') : PRoZ B E w' a n c l := by
  refine ⟨h.len, h.sz, h.ml, ?_⟩
  rcases h.row with e | ⟨G, lo, hi, e, h1, h2, h3, h4, h5, h6⟩
  · exact .inl e
  · exact .inr ⟨G, lo, hi, e, h1, h2, h3, h4, h5.later hb, h6.later hb⟩
theorem PRoZ.but {B E lo' hi' : Nat} {w w' : World} {a : Option Addr} {n c : Nat} {l : List (SV × SD)} (h : PRoZ B E w a n c l) (hb : But lo' hi' w w') (hd : E ≤ lo' ∨ hi' ≤ B) : PRoZ B E w' a n c l := by
  refine ⟨h.len, h.sz, h.ml, ?_⟩
  rcases h.row with e | ⟨G, lo, hi, e, h1, h2, h3, h4, h5, h6⟩
  · exact .inl e
  · exact .inr ⟨G, lo, hi, e, h1, h2, h3, h4, h5.but hb (by omega), h6.but hb (by omega)⟩
theorem PRoZ.wide {B E B' E' : Nat} {w : World} {a : Option Addr} {n c : Nat} {l : List (SV × SD)} (h : PRoZ B E w a n c l) (h1 : B' ≤ B) (h2 : E ≤ E') : PRoZ B' E' w a n c l := by
  refine ⟨h.len, h.sz, h.ml, ?_⟩
  rcases h.row with e | ⟨G, lo, hi, e, k1, k2, k3, k4, k5, k6⟩
  · exact .inl e
  · exact .inr ⟨G, lo, hi, e, by omega, k2, k3, by omega, k5, k6⟩
theorem PRoZ.sl {B E : Nat} {w : World} {a : Option Addr} {n c : Nat} {l : List (SV × SD)} (h : PRoZ B E w a n c l) : PSlS w a l := by
  rcases h.row with e | ⟨G, lo, hi, e, h1, h2, h3, h4, h5, h6⟩
  · have hl : l = [] := List.length_eq_zero_iff.1 (by rw [h.len]; exact e)
    subst hl
    exact ⟨.inl rfl, fun p hp => by cases hp⟩
  · subst e
    refine ⟨.inr ⟨G, 0, rfl, h5.lt, fun i hi => ?_⟩, fun p hp x hx => h6.sl x (zipPS_mem hp hx)⟩
    have hc := h5.cellsAt (List.getElem?_eq_getElem hi)
    simpa using hc
theorem PRoZ.lens {B E : Nat} {w : World} {a : Option Addr} {n c : Nat} {l : List (SV × SD)} (h : PRoZ B E w a n c l) : ∀ p ∈ l, p.1.lo.num.n ≤ maxLen ∧ p.1.lo.den.n ≤ maxLen ∧ p.1.hi.num.n ≤ maxLen ∧ p.1.hi.den.n ≤ maxLen := fun p hp => by
  have := h.ml p hp
  unfold maxLen
  omega
theorem PRoZ.max {B E : Nat} {w : World} {a : Option Addr} {n c : Nat} {l : List (SV × SD)} (h : PRoZ B E w a n c l) : n ≤ maxLen := by
  have := h.sz
  unfold maxLen
  omega
theorem mkPZ_ml {l : List (SV × SD)} (k : Int) (h : ∀ p ∈ l, p.1.lo.num.n ≤ 1048576 ∧ p.1.lo.den.n ≤ 1048576 ∧ p.1.hi.num.n ≤ 1048576 ∧ p.1.hi.den.n ≤ 1048576) : ∀ p ∈ mkPZ k l, p.1.lo.num.n ≤ 1048576 ∧ p.1.lo.den.n ≤ 1048576 ∧ p.1.hi.num.n ≤ 1048576 ∧ p.1.hi.den.n ≤ 1048576 := mkPZ_mem (fun q y hy => h y hy)
theorem markRZ (B E : Nat) (a : Option Addr) (n c : Nat) (l : List (SV × SD)) (w : World) (h : PRoZ B E w a n c l) (hE : E ≤ w.heap.size) :
    Calls Try.prog 13 #[.slice a n c, .int .i64 1] w fun e w' => e = .returned (.int .i64 (enZ 1 l)) ∧ But B E w w' ∧ PRoZ B E w' a n c (mkPZ 1 l) := by
  have hs := h.sz
  rcases h.row with e | ⟨G, lo, hi, e, h1, h2, h3, h4, h5, h6⟩
  · have hl : l = [] := List.length_eq_zero_iff.1 (by rw [h.len]; exact e)
    subst hl e
    refine (markPZ0 a c 1 w).mono ?_
    rintro e w' ⟨rfl, rfl⟩
    exact ⟨rfl, But.refl _ _ _, ⟨rfl, by simp [mkPZ, lenPS], fun p hp => (by cases hp), .inl rfl⟩⟩
  · subst e
    refine (markPZ G n c l 1 lo hi w h5 h6 h.len h.ml h2 h3 (by omega) (by omega)).mono ?_
    rintro e w' ⟨rfl, hb, hr, ho⟩
    exact ⟨rfl, hb.wide h1 h4, ⟨by rw [mkPZ_len]; exact h.len, by rw [mkPZ_lenP]; exact h.sz, mkPZ_ml 1 h.ml, .inr ⟨G, lo, hi, rfl, h1, h2, h3, h4, hr, ho⟩⟩⟩
theorem heldRZ (B E : Nat) (a : Option Addr) (n c : Nat) (l : List (SV × SD)) (w : World) (h : PRoZ B E w a n c (mkPZ 1 l)) (h0 : 4 * n + lenPS l ≤ 4200000) (ml : ∀ p ∈ l, p.1.lo.num.n ≤ 1048576 ∧ p.1.lo.den.n ≤ 1048576 ∧ p.1.hi.num.n ≤ 1048576 ∧ p.1.hi.den.n ≤ 1048576) :
    Calls Try.prog 14 #[.slice a n c, .int .i64 1] w fun e w' => e = .returned (.int .i64 (enZ 1 l)) ∧ w' = w := by
  have hl' : l.length = n := by have := h.len; rw [mkPZ_len] at this; exact this
  rcases h.row with e | ⟨G, lo, hi, e, h1, h2, h3, h4, h5, h6⟩
  · have hl : l = [] := List.length_eq_zero_iff.1 (by omega)
    subst hl e
    exact heldPZ0 a c 1 w
  · subst e
    exact heldPZ G n c l 1 w h5 h6.sl hl' ml (by omega) (by omega)
theorem POwS.ro {lo hi : Nat} {w : World} {G n c : Nat} {l : List (SV × SD)} (h : POwS lo hi w G n c l) (hG : G < lo) (hl : lo ≤ hi) (sz : 4 * n + lenPS l ≤ 4200000) (ml : ∀ p ∈ l, p.1.lo.num.n ≤ 1048576 ∧ p.1.lo.den.n ≤ 1048576 ∧ p.1.hi.num.n ≤ 1048576 ∧ p.1.hi.den.n ≤ 1048576) : PRoZ G hi w (some ⟨G, 0, none⟩) n c l := by
  refine ⟨h.len, sz, ml, .inr ⟨G, lo, hi, rfl, Nat.le_refl _, hG, hl, Nat.le_refl _, ?_, h.own⟩⟩
  obtain ⟨M, hr, hM⟩ := h.row
  rcases hr.2 with ⟨h', _⟩ | ⟨g', cap, cur, hv, _, hg, _, _, _, htake⟩
  · simp at h'
  simp only [Value.slice.injEq, Option.some.injEq, Addr.mk.injEq, and_true, true_and] at hv
  obtain ⟨rfl, rfl⟩ := hv
  refine ⟨cur, hg, fun j p hp => ?_⟩
  have hj : j < l.length := (List.getElem?_eq_some_iff.1 hp).1
  have hc := hM j hj
  have e : l[j] = p := by rw [List.getElem?_eq_getElem hj] at hp; exact Option.some.inj hp
  rw [e] at hc
  have hlen := h.len
  have up : ∀ t v, t < n * 8 → M[t]? = some v → cur[t]? = some v := fun t v ht hv => by
    rw [← htake, List.getElem?_take, if_pos ht] at hv
    simpa using hv
  exact ⟨up _ _ (by omega) hc.1, up _ _ (by omega) hc.2.1, up _ _ (by omega) hc.2.2.1, up _ _ (by omega) hc.2.2.2.1, up _ _ (by omega) hc.2.2.2.2.1, up _ _ (by omega) hc.2.2.2.2.2.1, up _ _ (by omega) hc.2.2.2.2.2.2.1, up _ _ (by omega) hc.2.2.2.2.2.2.2⟩
theorem PSlS.data {w : World} {a : Option Addr} {l : List (SV × SD)} (h : PSlS w a l) : ∀ p ∈ l, p.2.lo.num.xs.length = p.1.lo.num.n ∧ p.2.lo.den.xs.length = p.1.lo.den.n ∧ p.2.hi.num.xs.length = p.1.hi.num.n ∧ p.2.hi.den.xs.length = p.1.hi.den.n := fun p hp => ⟨(h.rd p hp).head.len, (h.rd p hp).tail.head.len, (h.rd p hp).tail.tail.head.len, (h.rd p hp).tail.tail.tail.head.len⟩
def RetPrZ (w : World) (U : List SD → Bool → Prop) (e : Ending) (w' : World) : Prop := ∃ (a : Option Addr) (n c : Nat) (l : List (SV × SD)) (ok : Bool), e = .returned (.tuple #[.slice a n c, .bool ok]) ∧ Below w.heap.size w w' ∧ PSlS w' a l ∧ l.length = n ∧ U (l.map Prod.snd) ok
def RetPoZ (w : World) (U : List SD → Bool → Prop) (e : Ending) (w' : World) : Prop := ∃ (a : Option Addr) (n c : Nat) (l : List (SV × SD)) (ok : Bool), e = .returned (.tuple #[.slice a n c, .bool ok]) ∧ Below w.heap.size w w' ∧ PRoZ w.heap.size w'.heap.size w' a n c l ∧ U (l.map Prod.snd) ok
end Go.Proofs.Ythmpikagenodjaa
