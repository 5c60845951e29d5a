/- Arguments that are slices of integers, in laws whose answer is a number. No condition beyond those typed. -/
import Derived.Test.YtaaajmdneaaeeaaFlatQ
import Derived.Test.YtaaajmdneaaeeaaRatF
import Derived.Test.YtaaajmdneaaeeaaFlat
import Derived.Test.YtaaajmdneaaeeaaLow
import Derived.Test.YtaaajmdneaaeeaaNum
import Derived.Test.YtaaajmdneaaeeaaRatE
import Derived.Deep.MidRow
import Derived.DeepKeys
import Derived.Deep.RegionHeld3
import Derived.Test.YtaaajmdneaaeeaaDivI
import Derived.Test.YtaaajmdneaaeeaaRatG
import Derived.Deep.AppendLies
import Derived.Test.YtaaajmdneaaeeaaSgs
import Derived.Test.YtaaajmdneaaeeaaVarB
import Derived.Test.YtaaajmdneaaeeaaSubI
namespace Go.Proofs.Ytaaajmdneaaeeaa
open Go.RowKit
set_option linter.unusedVariables false
set_option maxRecDepth 100000
set_option linter.unusedSimpArgs false

theorem AllSl.Sl {w : World} {v : SV} {d : SD} (h : AllSl w [(v.lo.num, d.lo.num), (v.lo.den, d.lo.den), (v.hi.num, d.hi.num), (v.hi.den, d.hi.den)]) : AllSl w [(v.lo.num, d.lo.num), (v.lo.den, d.lo.den)] := fun p hp => h p (show p ∈ [(v.lo.num, d.lo.num), (v.lo.den, d.lo.den), (v.hi.num, d.hi.num), (v.hi.den, d.hi.den)] from (List.mem_append_left [(v.hi.num, d.hi.num), (v.hi.den, d.hi.den)] hp : p ∈ [(v.lo.num, d.lo.num), (v.lo.den, d.lo.den)] ++ [(v.hi.num, d.hi.num), (v.hi.den, d.hi.den)]))
theorem AllSl.Sr {w : World} {v : SV} {d : SD} (h : AllSl w [(v.lo.num, d.lo.num), (v.lo.den, d.lo.den), (v.hi.num, d.hi.num), (v.hi.den, d.hi.den)]) : AllSl w [(v.hi.num, d.hi.num), (v.hi.den, d.hi.den)] := fun p hp => h p (show p ∈ [(v.lo.num, d.lo.num), (v.lo.den, d.lo.den), (v.hi.num, d.hi.num), (v.hi.den, d.hi.den)] from (List.mem_append_right [(v.lo.num, d.lo.num), (v.lo.den, d.lo.den)] hp : p ∈ [(v.lo.num, d.lo.num), (v.lo.den, d.lo.den)] ++ [(v.hi.num, d.hi.num), (v.hi.den, d.hi.den)]))
theorem AllAr.Sl {w : World} {v : SV} {d : SD} (h : AllAr w [(v.lo.num, d.lo.num), (v.lo.den, d.lo.den), (v.hi.num, d.hi.num), (v.hi.den, d.hi.den)]) : AllAr w [(v.lo.num, d.lo.num), (v.lo.den, d.lo.den)] := fun p hp => h p (show p ∈ [(v.lo.num, d.lo.num), (v.lo.den, d.lo.den), (v.hi.num, d.hi.num), (v.hi.den, d.hi.den)] from (List.mem_append_left [(v.hi.num, d.hi.num), (v.hi.den, d.hi.den)] hp : p ∈ [(v.lo.num, d.lo.num), (v.lo.den, d.lo.den)] ++ [(v.hi.num, d.hi.num), (v.hi.den, d.hi.den)]))
theorem AllAr.Sr {w : World} {v : SV} {d : SD} (h : AllAr w [(v.lo.num, d.lo.num), (v.lo.den, d.lo.den), (v.hi.num, d.hi.num), (v.hi.den, d.hi.den)]) : AllAr w [(v.hi.num, d.hi.num), (v.hi.den, d.hi.den)] := fun p hp => h p (show p ∈ [(v.lo.num, d.lo.num), (v.lo.den, d.lo.den), (v.hi.num, d.hi.num), (v.hi.den, d.hi.den)] from (List.mem_append_right [(v.lo.num, d.lo.num), (v.lo.den, d.lo.den)] hp : p ∈ [(v.lo.num, d.lo.num), (v.lo.den, d.lo.den)] ++ [(v.hi.num, d.hi.num), (v.hi.den, d.hi.den)]))

end Go.Proofs.Ytaaajmdneaaeeaa
namespace Go.Proofs.Ytaaajmdneaaeeaa
open Go.RowKit
set_option linter.unusedVariables false
set_option maxRecDepth 100000
set_option linter.unusedSimpArgs false

theorem AllAr.lo {w : World} {v : SV} {d : SD} (h : AllAr w [(v.lo.num, d.lo.num), (v.lo.den, d.lo.den), (v.hi.num, d.hi.num), (v.hi.den, d.hi.den)]) : AllAr w [(v.lo.num, d.lo.num), (v.lo.den, d.lo.den)] := h.Sl
theorem AllAr.hi {w : World} {v : SV} {d : SD} (h : AllAr w [(v.lo.num, d.lo.num), (v.lo.den, d.lo.den), (v.hi.num, d.hi.num), (v.hi.den, d.hi.den)]) : AllAr w [(v.hi.num, d.hi.num), (v.hi.den, d.hi.den)] := h.Sr

structure IsGoodS (w : World) (v : SV) (d : SD) : Prop where
  lo : IsGood w v.lo d.lo
  hi : IsGood w v.hi d.hi
  le : nQ d.lo * dQ d.hi ≤ nQ d.hi * dQ d.lo
theorem IsGoodS.later {w w' : World} {v : SV} {d : SD} (h : IsGoodS w v d) (hb : Below w.heap.size w w') : IsGoodS w' v d := ⟨h.lo.later hb, h.hi.later hb, h.le⟩

end Go.Proofs.Ytaaajmdneaaeeaa
namespace Go.Proofs.Ytaaajmdneaaeeaa
open Go.RowKit
set_option linter.unusedVariables false
set_option maxRecDepth 100000
set_option linter.unusedSimpArgs false

/-- A variable of the law's own: its box at block G, what it leads to at blocks from lo to below hi. -/
structure VarS (wx : World) (G lo hi : Nat) (v : SV) (d : SD) : Prop where
  c0 : wx.cell? ⟨G, 0, none⟩ = some (.bool v.lo.num.g)
  c1 : wx.cell? ⟨G, 1, none⟩ = some (.slice v.lo.num.a v.lo.num.n v.lo.num.c)
  c2 : wx.cell? ⟨G, 2, none⟩ = some (.bool v.lo.den.g)
  c3 : wx.cell? ⟨G, 3, none⟩ = some (.slice v.lo.den.a v.lo.den.n v.lo.den.c)
  c4 : wx.cell? ⟨G, 4, none⟩ = some (.bool v.hi.num.g)
  c5 : wx.cell? ⟨G, 5, none⟩ = some (.slice v.hi.num.a v.hi.num.n v.hi.num.c)
  c6 : wx.cell? ⟨G, 6, none⟩ = some (.bool v.hi.den.g)
  c7 : wx.cell? ⟨G, 7, none⟩ = some (.slice v.hi.den.a v.hi.den.n v.hi.den.c)
  own : AllOwn lo hi wx [(v.lo.num, d.lo.num), (v.lo.den, d.lo.den), (v.hi.num, d.hi.num), (v.hi.den, d.hi.den)]
theorem VarS.later {wx wy : World} {G lo hi : Nat} {v : SV} {d : SD} (h : VarS wx G lo hi v d) (hb : Below wx.heap.size wx wy) : VarS wy G lo hi v d :=
  ⟨cell_later hb h.c0, cell_later hb h.c1, cell_later hb h.c2, cell_later hb h.c3, cell_later hb h.c4, cell_later hb h.c5, cell_later hb h.c6, cell_later hb h.c7, h.own.later hb⟩
theorem VarS.but {wx wy : World} {G lo hi lo' hi' : Nat} {v : SV} {d : SD} (h : VarS wx G lo hi v d) (hb : But lo' hi' wx wy) (hG : G < lo' ∨ hi' ≤ G) (hd : hi ≤ lo' ∨ hi' ≤ lo) : VarS wy G lo hi v d :=
  ⟨hb.cell h.c0 hG, hb.cell h.c1 hG, hb.cell h.c2 hG, hb.cell h.c3 hG, hb.cell h.c4 hG, hb.cell h.c5 hG, hb.cell h.c6 hG, hb.cell h.c7 hG, h.own.but hb hd⟩
theorem VarS.mark {wx wy : World} {G lo hi : Nat} {v : SV} {d d' : SD} (h : VarS wx G lo hi v d) (hb : But lo hi wx wy) (hG : G < lo ∨ hi ≤ G) (ho : AllOwn lo hi wy [(v.lo.num, d'.lo.num), (v.lo.den, d'.lo.den), (v.hi.num, d'.hi.num), (v.hi.den, d'.hi.den)]) : VarS wy G lo hi v d' :=
  ⟨hb.cell h.c0 hG, hb.cell h.c1 hG, hb.cell h.c2 hG, hb.cell h.c3 hG, hb.cell h.c4 hG, hb.cell h.c5 hG, hb.cell h.c6 hG, hb.cell h.c7 hG, ho⟩
theorem VarS.low {wx : World} {G lo hi lo' : Nat} {v : SV} {d : SD} (h : VarS wx G lo hi v d) (hl : lo' ≤ lo) : VarS wx G lo' hi v d := ⟨h.c0, h.c1, h.c2, h.c3, h.c4, h.c5, h.c6, h.c7, h.own.wide hl (Nat.le_refl _)⟩
theorem VarS.start {wx : World} {lo : Nat} {v : SV} {d : SD} (t : TypeId) (h : AllOwn lo wx.heap.size wx [(v.lo.num, d.lo.num), (v.lo.den, d.lo.den), (v.hi.num, d.hi.num), (v.hi.den, d.hi.den)]) : VarS (wx.alloc (.cells #[.bool v.lo.num.g, .slice v.lo.num.a v.lo.num.n v.lo.num.c, .bool v.lo.den.g, .slice v.lo.den.a v.lo.den.n v.lo.den.c, .bool v.hi.num.g, .slice v.hi.num.a v.hi.num.n v.hi.num.c, .bool v.hi.den.g, .slice v.hi.den.a v.hi.den.n v.hi.den.c] t)) wx.heap.size lo wx.heap.size v d :=
  ⟨by simp [go_sem], by simp [go_sem], by simp [go_sem], by simp [go_sem], by simp [go_sem], by simp [go_sem], by simp [go_sem], by simp [go_sem], h.later ((Below.refl _ _).alloc (Nat.le_refl _) _)⟩
theorem VarS.gt {wx : World} {G lo hi : Nat} {v : SV} {d : SD} (h : VarS wx G lo hi v d) : G < wx.heap.size := World.block_lt_of_cell? _ _ h.c0
end Go.Proofs.Ytaaajmdneaaeeaa
namespace Go.Proofs.Ytaaajmdneaaeeaa
open Go.RowKit
set_option linter.unusedVariables false
set_option maxRecDepth 100000
set_option linter.unusedSimpArgs false

end Go.Proofs.Ytaaajmdneaaeeaa
namespace Go.Proofs.Ytaaajmdneaaeeaa
open Go.RowKit
set_option linter.unusedVariables false
set_option maxRecDepth 100000
set_option linter.unusedSimpArgs false

theorem szB_in (v : BV) (left : Int) (w : World) (h0 : 0 ≤ left) (h1 : left ≤ 1048576) (h : (v.n : Int) ≤ left) :
    Calls Try.prog 96 #[.agg #[.bool v.g, .slice v.a v.n v.c], .int .i64 left] w fun e w' => e = .returned (.int .i64 (left - (v.n : Int))) ∧ Below w.heap.size w w' := sz_in v.g v.a v.n v.c left w h0 h1 h
theorem szB_out (v : BV) (left : Int) (w : World) (h0 : 0 ≤ left) (h1 : left ≤ 1048576) (hm : v.n ≤ maxLen) (h : left < (v.n : Int)) :
    Calls Try.prog 96 #[.agg #[.bool v.g, .slice v.a v.n v.c], .int .i64 left] w fun e w' => e = .returned (.int .i64 (-1)) ∧ Below w.heap.size w w' := sz_out v.g v.a v.n v.c left w h0 h1 hm h
theorem toB_l (b : BV) (d : BD) (w : World) (h : AllSl w [(b, d)]) (h1 : b.n ≤ 1048576) :
    Calls Try.prog 97 #[.agg #[.bool b.g, .slice b.a b.n b.c]] w fun e w' => ∃ v : BV, e = .returned (.agg #[.bool v.g, .slice v.a v.n v.c]) ∧ Below w.heap.size w w' ∧ v.n = b.n ∧ AllOwn w.heap.size w'.heap.size w' [(v, d)] ∧ AllAr w' [(v, d)] := toB_at b d w h.head h1
theorem eqB_l (b b' : BV) (d : BD) (w : World) (h : AllSl w [(b, d)]) (h' : AllSl w [(b', d)]) (hm : b.n ≤ maxLen) :
    Calls Try.prog 24 #[.agg #[.bool b.g, .slice b.a b.n b.c], .agg #[.bool b'.g, .slice b'.a b'.n b'.c]] w fun e w' => e = .returned (.bool true) ∧ Below w.heap.size w w' := eqB_at b b' d w h.head h'.head hm
/-- The cells of some values in a row. -/
def PAtB (w : World) (a : Option Addr) (l : List (BV × BD)) : Prop := l = [] ∨ ∃ b off, a = some ⟨b, off, none⟩ ∧ b < w.heap.size ∧ ∀ i (h : i < l.length), w.cell? ⟨b, off + i * 2, none⟩ = some (.bool l[i].1.g) ∧ w.cell? ⟨b, off + i * 2 + 1, none⟩ = some (.slice l[i].1.a l[i].1.n l[i].1.c)
theorem PAtB.later {w w' : World} {a : Option Addr} {l : List (BV × BD)} (h : PAtB w a l) (hb : Below w.heap.size w w') : PAtB w' a l := by
  rcases h with h | ⟨b, off, rfl, h1, h2⟩
  · exact .inl h
  · exact .inr ⟨b, off, rfl, Nat.lt_of_lt_of_le h1 hb.size, fun i hi => ⟨cell_later hb ((h2 i hi).1), cell_later hb ((h2 i hi).2)⟩⟩
structure PSlB (w : World) (a : Option Addr) (l : List (BV × BD)) : Prop where
  at_ : PAtB w a l
  rd : ∀ p ∈ l, AllSl w [(p.1, p.2)]
theorem PSlB.later {w w' : World} {a : Option Addr} {l : List (BV × BD)} (h : PSlB w a l) (hb : Below w.heap.size w w') : PSlB w' a l := ⟨h.at_.later hb, fun p hp => (h.rd p hp).later hb⟩
/-- .. as an argument. -/
structure PArB (w : World) (a : Option Addr) (n c : Nat) (l : List (BV × BD)) : Prop where
  at_ : PAtB w a l
  rd : ∀ p ∈ l, AllAr w [(p.1, p.2)]
  len : l.length = n
  cap : n ≤ c
  top : c ≤ maxLen
theorem PArB.later {w w' : World} {a : Option Addr} {n c : Nat} {l : List (BV × BD)} (h : PArB w a n c l) (hb : Below w.heap.size w w') : PArB w' a n c l := ⟨h.at_.later hb, fun p hp => (h.rd p hp).later hb, h.len, h.cap, h.top⟩
theorem PArB.sl {w : World} {a : Option Addr} {n c : Nat} {l : List (BV × BD)} (h : PArB w a n c l) : PSlB w a l := ⟨h.at_, fun p hp => (h.rd p hp).sl⟩
def lenB (p : BV × BD) : Nat := p.1.n
def lenPB : List (BV × BD) → Nat
  | [] => 0
  | p :: l => lenB p + lenPB l
theorem lenPB_append (l l' : List (BV × BD)) : lenPB (l ++ l') = lenPB l + lenPB l' := by
  induction l with
  | nil => simp [lenPB]
  | cons p l ih => simp only [List.cons_append, lenPB, ih]; omega
theorem lenPB_mem {l : List (BV × BD)} {p : BV × BD} (h : p ∈ l) : lenB p ≤ lenPB l := by
  induction l with
  | nil => cases h
  | cons q l ih =>
    unfold lenPB
    rcases List.mem_cons.1 h with rfl | h
    · omega
    · have := ih h; omega
/-- The numbers in some values. -/
def zipPB (l : List (BV × BD)) : List (BV × BD) := l.flatMap (fun p => [(p.1, p.2)])
theorem zipPB_append (l l' : List (BV × BD)) : zipPB (l ++ l') = zipPB l ++ zipPB l' := by simp [zipPB]
theorem zipPB_one (p : BV × BD) : zipPB [p] = [(p.1, p.2)] := by simp [zipPB]
theorem zipPB_mem {l : List (BV × BD)} {p : BV × BD} (h : p ∈ l) {x : BV × BD} (hx : x ∈ [(p.1, p.2)]) : x ∈ zipPB l := List.mem_flatMap.2 ⟨p, h, hx⟩
theorem take_succB {l : List (BV × BD)} {i : Nat} (h : i < l.length) : l.take (i + 1) = l.take i ++ [l[i]] := (List.take_append_getElem h).symm

set_option maxHeartbeats 2000000 in
theorem szPB (a : Option Addr) (n c : Nat) (l : List (BV × BD)) (left : Int) (w : World) (h : PSlB w a l) (hn : l.length = n) (hm : n ≤ maxLen) (ml : ∀ p ∈ l, p.1.n ≤ maxLen) (h0 : 0 ≤ left) (h1 : left ≤ 1048576) :
    Calls Try.prog 54 #[.slice a n c, .int .i64 left] w fun e w' => ∃ r : Int, e = .returned (.int .i64 r) ∧ Below w.heap.size w w' ∧ (r = -1 ∨ (0 ≤ r ∧ r = left - (n : Int) - (lenPB l : Int))) := by
  have HS := hide h
  have HN := hide hn
  have ML := hide ml
  clear h hn ml
  unfold maxLen at hm
  by_cases c0 : left - (n : Int) < 0
  · go_enter Try.func54, Try.ntmps54
    go_wp2
    go_ret
    exact ⟨_, rfl, Below.refl _ _, .inl rfl⟩
  · go_enter Try.func54, Try.ntmps54
    go_wp2
    go_loopw [1, 5] (fun lv iv wr => ∃ (i : Nat) (r : Int), i ≤ n ∧ iv = .int .i64 i ∧ lv = .int .i64 r ∧ 0 ≤ r ∧ r ≤ 1048576 ∧ Hid (r = left - (n : Int) - (lenPB (l.take i) : Int)) ∧ Hid (Below w.heap.size w wr)) (fun _ iv _ => n - (intOf iv).toNat)
    case atStart => exact ⟨0, _, Nat.zero_le _, rfl, rfl, by omega, by omega, hide (by simp [lenPB]), hide (Below.refl _ _)⟩
    case round =>
      obtain ⟨i, r, hi, rfl, rfl, r0, r1, ER, HB⟩ := hrel
      by_cases hlt : i < n
      · have hlt' : (i : Int) < (n : Int) := by omega
        rcases (unhide HS).at_ with e | ⟨b, off, rfl, hb, hc⟩
        · exact absurd (unhide HN) (by rw [e]; simp; omega)
        have e0 := hc i (by rw [unhide HN]; exact hlt)
        obtain ⟨y, hy⟩ : ∃ y, y = l[i]'(by rw [unhide HN]; exact hlt) := ⟨_, rfl⟩
        rw [← hy] at e0
        have MY : Hid (y ∈ l) := hide (by rw [hy]; exact List.getElem_mem _)
        have EY := hide hy
        clear hy
        have E0 : wr.cell? ⟨b, off + i * 2, none⟩ = some (.bool y.1.g) := ((unhide HB).cell (p := ⟨b, off + i * 2, none⟩) hb).trans (e0.1)
        have E1 : wr.cell? ⟨b, off + i * 2 + 1, none⟩ = some (.slice y.1.a y.1.n y.1.c) := ((unhide HB).cell (p := ⟨b, off + i * 2 + 1, none⟩) hb).trans (e0.2)
        clear e0
        have TK : Hid (l.take (i + 1) = l.take i ++ [y]) := hide (by have h := take_succB (l := l) (i := i) (by rw [unhide HN]; exact hlt); rw [← unhide EY] at h; exact h)
        have j0 := (unhide ML) y (unhide MY)
        have lo : lenB y = y.1.n := rfl
        have TL : Hid ((lenPB (l.take (i + 1)) : Int) = (lenPB (l.take i) : Int) + ((y.1.n : Int))) := hide (by rw [unhide TK, lenPB_append]; show ((_ + (lenB y + 0) : Nat) : Int) = _; omega)
        clear hc lo
        by_cases c1 : (y.1.n : Int) ≤ r
        · have c2 : ¬ (r - (y.1.n : Int) < 0) := by omega
          go_wp2_with fail
          refine (szB_in y.1 r _ r0 r1 c1).mono ?_
          rintro e w1 ⟨rfl, hb1⟩
          have HB1 := hide (below_on (unhide HB) hb1)
          clear hb1 E0 E1
          go_wp2
          go_roundw
          case rel => exact ⟨i + 1, _, by omega, by go_num, rfl, by omega, by omega, hide (by rw [unhide TL]; have := unhide ER; omega), HB1⟩
          case measure => simp [intOf]; omega
        · go_wp2_with fail
          refine (szB_out y.1 r _ r0 r1 j0 (by omega)).mono ?_
          rintro e w1 ⟨rfl, hb1⟩
          have HB1 := hide (below_on (unhide HB) hb1)
          clear hb1 E0 E1
          go_wp2
          go_ret
          exact ⟨_, rfl, unhide HB1, .inl rfl⟩
      · obtain rfl : i = n := by omega
        have EL := hide (show r = left - (i : Int) - (lenPB l : Int) from by have := unhide ER; rw [← unhide HN, List.take_length, unhide HN] at this; exact this)
        go_wp2
        go_ret
        exact ⟨_, rfl, unhide HB, .inr ⟨r0, unhide EL⟩⟩

theorem get_sndB {l l' : List (BV × BD)} (h : l.map Prod.snd = l'.map Prod.snd) {i : Nat} (hi : i < l.length) (hi' : i < l'.length) : l[i].2 = l'[i].2 := by
  have := congrArg (fun x => x[i]?) h
  simpa [hi, hi'] using this
set_option maxHeartbeats 4000000 in
theorem eqPB (a a' : Option Addr) (n c c' : Nat) (l l' : List (BV × BD)) (w : World) (h : PSlB w a l) (h' : PSlB w a' l') (hn : l.length = n) (he : l.map Prod.snd = l'.map Prod.snd) (hm : n ≤ maxLen) (ml : ∀ p ∈ l, p.1.n ≤ maxLen) :
    Calls Try.prog 56 #[.slice a n c, .slice a' n c'] w fun e w' => e = .returned (.bool true) ∧ Below w.heap.size w w' := by
  have hn' : l'.length = n := by have := congrArg List.length he; simp at this; omega
  have HS := hide h
  have HS' := hide h'
  have HN := hide hn
  have HN' := hide hn'
  have HE := hide he
  have ML := hide ml
  clear h hn ml he hn' h'
  unfold maxLen at hm
  go_enter Try.func56, Try.ntmps56
  go_wp2
  go_loopw [5] (fun iv wr => ∃ (i : Nat), i ≤ n ∧ iv = .int .i64 i ∧ Hid (Below w.heap.size w wr)) (fun iv _ => n - (intOf iv).toNat)
  case atStart => exact ⟨0, Nat.zero_le _, rfl, hide (Below.refl _ _)⟩
  case round =>
    obtain ⟨i, hi, rfl, HB⟩ := hrel
    by_cases hlt : i < n
    · have hlt' : (i : Int) < (n : Int) := by omega
      rcases (unhide HS).at_ with e | ⟨b, off, rfl, hb, hc⟩
      · exact absurd (unhide HN) (by rw [e]; simp; omega)
      have e0 := hc i (by rw [unhide HN]; exact hlt)
      obtain ⟨y, hy⟩ : ∃ y, y = l[i]'(by rw [unhide HN]; exact hlt) := ⟨_, rfl⟩
      rw [← hy] at e0
      have MY : Hid (y ∈ l) := hide (by rw [hy]; exact List.getElem_mem _)
      have EY := hide hy
      clear hy
      have E0 : wr.cell? ⟨b, off + i * 2, none⟩ = some (.bool y.1.g) := ((unhide HB).cell (p := ⟨b, off + i * 2, none⟩) hb).trans (e0.1)
      have E1 : wr.cell? ⟨b, off + i * 2 + 1, none⟩ = some (.slice y.1.a y.1.n y.1.c) := ((unhide HB).cell (p := ⟨b, off + i * 2 + 1, none⟩) hb).trans (e0.2)
      clear e0
      clear hc
      rcases (unhide HS').at_ with e | ⟨b', off', rfl, hb', hc'⟩
      · exact absurd (unhide HN') (by rw [e]; simp; omega)
      have e0 := hc' i (by rw [unhide HN']; exact hlt)
      obtain ⟨y', hy'⟩ : ∃ y, y = l'[i]'(by rw [unhide HN']; exact hlt) := ⟨_, rfl⟩
      rw [← hy'] at e0
      have MY' : Hid (y' ∈ l') := hide (by rw [hy']; exact List.getElem_mem _)
      have ED : Hid (y.2 = y'.2) := hide (by rw [unhide EY, hy']; exact get_sndB (unhide HE) _ _)
      clear hy'
      have F0 : wr.cell? ⟨b', off' + i * 2, none⟩ = some (.bool y'.1.g) := ((unhide HB).cell (p := ⟨b', off' + i * 2, none⟩) hb').trans (e0.1)
      have F1 : wr.cell? ⟨b', off' + i * 2 + 1, none⟩ = some (.slice y'.1.a y'.1.n y'.1.c) := ((unhide HB).cell (p := ⟨b', off' + i * 2 + 1, none⟩) hb').trans (e0.2)
      clear e0 hc'
      have j0 := (unhide ML) y (unhide MY)
      have R1 := hide (((unhide HS).rd y (unhide MY)).later (unhide HB))
      have R2 := hide (((unhide HS').rd y' (unhide MY')).later (unhide HB))
      go_upto_region 6 with fail
      go_region_held3 (fun w' => w'.cell? ⟨b, off + i * 2, none⟩ = some (.bool y.1.g) ∧ w'.cell? ⟨b, off + i * 2 + 1, none⟩ = some (.slice y.1.a y.1.n y.1.c) ∧ w'.cell? ⟨b', off' + i * 2, none⟩ = some (.bool y'.1.g) ∧ w'.cell? ⟨b', off' + i * 2 + 1, none⟩ = some (.slice y'.1.a y'.1.n y'.1.c))
        (with_reducible (first | exact ⟨E0, E1, F0, F1⟩ | exact ⟨cd_other E0, cd_other E1, cd_other F0, cd_other F1⟩ | fail))
        (first
        | (go_at_call 24; refine (eqB_l y.1 y'.1 y.2 _ ?_ ?_ j0).mono ?_; exact (unhide R1).drew; (rw [unhide ED]; exact (unhide R2).drew); rintro e w1 ⟨rfl, hb1⟩; have HB1 := hide (below_on (unhide HB) (below_of_drew hb1)); have hbx := below_of_drew hb1; replace E0 := cell_later hbx E0; replace E1 := cell_later hbx E1; replace F0 := cell_later hbx F0; replace F1 := cell_later hbx F1; clear hb1 hbx))
      clear E0 F0 E1 F1
      go_wp2
      go_roundw
      case rel => exact ⟨i + 1, by omega, by go_num, HB1⟩
      case measure => simp [intOf]; omega
    · obtain rfl : i = n := by omega
      go_wp2
      go_ret
      exact ⟨rfl, unhide HB⟩

theorem but_rowB {w : World} {G k : Nat} {u : BV} : But G (G + 1) w ((w.setCell ⟨G, k * 2, none⟩ (.bool u.g)).setCell ⟨G, k * 2 + 1, none⟩ (.slice u.a u.n u.c)) := (((But.refl _ _ _).set (p := ⟨G, k * 2, none⟩) (Nat.le_refl G) (Nat.lt_succ_self G) (.bool u.g)).set (p := ⟨G, k * 2 + 1, none⟩) (Nat.le_refl G) (Nat.lt_succ_self G) (.slice u.a u.n u.c))

/-- Some values in a row that is the law's own, at block G; their numbers in blocks from lo to below hi. -/
structure POwB (lo hi : Nat) (w : World) (G n c : Nat) (l : List (BV × BD)) : Prop where
  row : ∃ M, w.ownsRow G 27 2 (.slice (some ⟨G, 0, none⟩) n c) n M ∧ ∀ i (h : i < l.length), M[i * 2]? = some (.bool l[i].1.g) ∧ M[i * 2 + 1]? = some (.slice l[i].1.a l[i].1.n l[i].1.c)
  own : AllOwn lo hi w (zipPB l)
  ar : ∀ p ∈ l, AllAr w [(p.1, p.2)]
  len : l.length = n
theorem ownsRow_laterB {w w' : World} {G g n c size : Nat} {e : TypeId} {M : List Value} (h : w.ownsRow G e size (.slice (some ⟨g, 0, none⟩) n c) n M) (hb : Below w.heap.size w w') : w'.ownsRow G e size (.slice (some ⟨g, 0, none⟩) n c) n M := by
  refine ⟨h.1, ?_⟩
  rcases h.2 with ⟨h', _⟩ | ⟨g', cap, cur, hv, h1, hg, r⟩
  · simp at h'
  · refine .inr ⟨g', cap, cur, hv, h1, ?_, r⟩
    rw [hb.block g' (Array.getElem?_eq_some_iff.1 hg).1]
    exact hg
theorem POwB.later {lo hi : Nat} {w w' : World} {G n c : Nat} {l : List (BV × BD)} (h : POwB lo hi w G n c l) (hb : Below w.heap.size w w') : POwB lo hi w' G n c l := by
  obtain ⟨M, hr, hM⟩ := h.row
  exact ⟨⟨M, ownsRow_laterB hr hb, hM⟩, h.own.later hb, fun p hp => (h.ar p hp).later hb, h.len⟩
theorem POwB.arg {lo hi : Nat} {w : World} {G n c : Nat} {l : List (BV × BD)} (h : POwB lo hi w G n c l) : PArB w (some ⟨G, 0, none⟩) n c l := by
  obtain ⟨M, hr, hM⟩ := h.row
  have hl := h.len
  have h2 := hr.2
  rcases h2 with ⟨h', _⟩ | ⟨g', cap, cur, hv, h1, hg, r1, r2, r3⟩
  · simp at h'
  simp only [Value.slice.injEq, Option.some.injEq, Addr.mk.injEq, and_true, true_and] at hv
  obtain ⟨rfl, rfl⟩ := hv
  refine ⟨.inr ⟨G, 0, rfl, (Array.getElem?_eq_some_iff.1 hg).1, fun i hi => ?_⟩, h.ar, hl, r1, r2⟩
  have hc := hM i hi
  refine ⟨?_, ?_⟩ <;> rw [Nat.zero_add, hr.cellAt _ (by omega)]
  · exact hc.1
  · exact hc.2
theorem Try.info27 : (Try.prog.info? 27).map (fun i => (i.zero, i.size, i.bytes)) = some (some (.agg #[.bool false, .slice none 0 0]), 2, 32) := by kernel_rfl
theorem set_rowB {M : List Value} {us : List (BV × BD)} {n k : Nat} {u : BV} {d : BD} (hM : M.length = n * 2) (hk : k < n) (hu : us.length = k) (h : ∀ i (h : i < us.length), M[i * 2]? = some (.bool us[i].1.g) ∧ M[i * 2 + 1]? = some (.slice us[i].1.a us[i].1.n us[i].1.c)) :
    ∀ i (h : i < (us ++ [(u, d)]).length), ((M.set (k * 2) (.bool u.g)).set (k * 2 + 1) (.slice u.a u.n u.c))[i * 2]? = some (.bool (us ++ [(u, d)])[i].1.g) ∧ ((M.set (k * 2) (.bool u.g)).set (k * 2 + 1) (.slice u.a u.n u.c))[i * 2 + 1]? = some (.slice (us ++ [(u, d)])[i].1.a (us ++ [(u, d)])[i].1.n (us ++ [(u, d)])[i].1.c) := by
  intro i hi
  by_cases e : i < k
  · have hi' : i < us.length := by omega
    have h1 := h i hi'
    rw [List.getElem_append_left hi']
    simp only [List.getElem?_set]
    refine ⟨?_, ?_⟩
    · rw [if_neg (by omega), if_neg (by omega)]; exact h1.1
    · rw [if_neg (by omega), if_neg (by omega)]; exact h1.2
  · obtain rfl : i = k := by simp at hi; omega
    subst hu
    rw [List.getElem_append_right (Nat.le_refl _)]
    simp only [Nat.sub_self, List.getElem_cons_zero]
    refine ⟨?_, ?_⟩
    · simp only [List.getElem?_set, List.length_set]; rw [if_neg (by omega)]; rw [if_pos trivial, if_pos (by omega)]
    · simp only [List.getElem?_set, List.length_set]; rw [if_pos trivial, if_pos (by omega)]

set_option maxHeartbeats 4000000 in
theorem toPB (a : Option Addr) (n c : Nat) (l : List (BV × BD)) (w : World) (h : PSlB w a l) (hn : l.length = n) (h1 : n ≤ 1048576) (ml : ∀ p ∈ l, p.1.n ≤ 1048576) :
    Calls Try.prog 55 #[.slice a n c] w fun e w' => ∃ l' : List (BV × BD), e = .returned (.slice (some ⟨w.heap.size, 0, none⟩) n n) ∧ Below w.heap.size w w' ∧ w.heap.size < w'.heap.size ∧ l'.map Prod.snd = l.map Prod.snd ∧ POwB (w.heap.size + 1) w'.heap.size w' w.heap.size n n l' := by
  obtain ⟨i0, hi, hz0, hz1, hz2⟩ := info_parts Try.info27
  have HS := hide h
  have HN := hide hn
  have ML := hide ml
  clear h hn ml
  go_enter Try.func55, Try.ntmps55
  go_wp2_with (at_make; refine wpList_make_full _ rfl _ _ 33 rfl w.heap.size 27 i0 (.agg #[.bool false, .slice none 0 0]) 2 Try.underlying33 hi hz0 hz1 .i64 .i64 _ _ n rfl rfl rfl rfl ?c1 ?c2 ?c3 ?_)
  case c1 => rw [hz2]; omega
  case c2 => unfold maxLen; omega
  case c3 => exact Nat.le_refl _
  intro w1 hown hgrow
  have hb0 : Below w.heap.size w w1 := (Below.refl _ _).grown hgrow (Nat.le_refl _) (fun k e => by cases e)
  have P0 : Hid (∃ M, w1.ownsRow w.heap.size 27 2 (.slice (some ⟨w.heap.size, 0, none⟩) n n) n M) := hide ⟨_, hown⟩
  have z0 : w.heap.size < w1.heap.size := by
    rcases hown.2 with ⟨h', _⟩ | ⟨g', cap, cur, hv, _, hg, _⟩
    · simp at h'
    · simp only [Value.slice.injEq, Option.some.injEq, Addr.mk.injEq, and_true, true_and] at hv
      have := (Array.getElem?_eq_some_iff.1 hg).1
      omega
  clear hown hgrow hi hz0 hz1 hz2
  have HB0 := hide hb0
  clear hb0
  go_wp2
  go_loopw [4] (fun iv wr => ∃ (k : Nat) (us : List (BV × BD)), k ≤ n ∧ iv = .int .i64 k ∧ us.length = k ∧ w.heap.size < wr.heap.size ∧ Hid (us.map Prod.snd = (l.take k).map Prod.snd) ∧ Hid (∃ M, wr.ownsRow w.heap.size 27 2 (.slice (some ⟨w.heap.size, 0, none⟩) n n) n M ∧ ∀ i (h : i < us.length), M[i * 2]? = some (.bool us[i].1.g) ∧ M[i * 2 + 1]? = some (.slice us[i].1.a us[i].1.n us[i].1.c)) ∧ Hid (AllOwn (w.heap.size + 1) wr.heap.size wr (zipPB us)) ∧ Hid (∀ p ∈ us, AllAr wr [(p.1, p.2)]) ∧ Hid (Below w.heap.size w wr)) (fun iv _ => n - (intOf iv).toNat)
  case atStart =>
    obtain ⟨M, hM⟩ := unhide P0
    exact ⟨0, [], Nat.zero_le _, rfl, rfl, z0, hide (by simp), hide ⟨M, hM, fun i hi => absurd hi (by simp)⟩, hide (AllOwn.nil _ _ _), hide (fun p hp => by cases hp), HB0⟩
  case round =>
    clear P0 HB0 z0
    obtain ⟨k, us, hk, rfl, hu, z1, ED, EM, OO, AA, HB⟩ := hrel
    by_cases hlt : k < n
    · have hlt' : (k : Int) < (n : Int) := by omega
      rcases (unhide HS).at_ with e | ⟨b, off, rfl, hb, hc⟩
      · exact absurd (unhide HN) (by rw [e]; simp; omega)
      have e0 := hc k (by rw [unhide HN]; exact hlt)
      obtain ⟨y, hy⟩ : ∃ y, y = l[k]'(by rw [unhide HN]; exact hlt) := ⟨_, rfl⟩
      rw [← hy] at e0
      have MY : Hid (y ∈ l) := hide (by rw [hy]; exact List.getElem_mem _)
      have EY := hide hy
      clear hy
      have E0 : wr.cell? ⟨b, off + k * 2, none⟩ = some (.bool y.1.g) := ((unhide HB).cell (p := ⟨b, off + k * 2, none⟩) hb).trans (e0.1)
      have E1 : wr.cell? ⟨b, off + k * 2 + 1, none⟩ = some (.slice y.1.a y.1.n y.1.c) := ((unhide HB).cell (p := ⟨b, off + k * 2 + 1, none⟩) hb).trans (e0.2)
      clear e0
      have TK : Hid ((l.take (k + 1)).map Prod.snd = us.map Prod.snd ++ [y.2]) := hide (by have h := take_succB (l := l) (i := k) (by rw [unhide HN]; exact hlt); rw [← unhide EY] at h; rw [h, List.map_append, ← unhide ED]; rfl)
      have j0 := (unhide ML) y (unhide MY)
      have R1 := hide (((unhide HS).rd y (unhide MY)).later (unhide HB))
      clear hc
      go_wp2_with fail
      refine (toB_l y.1 y.2 _ (unhide R1) j0).mono ?_
      rintro e w2 ⟨u, rfl, hb2, hlens, ho, ha⟩
      clear hlens
      have z2 := hb2.size
      have HB1 := hide (below_on (unhide HB) hb2)
      obtain ⟨M, hM, hL⟩ := unhide EM
      replace hM := ownsRow_laterB hM hb2
      have OO2 := hide ((unhide OO).later hb2)
      have AA2 := hide (fun p hp => ((unhide AA) p hp).later hb2)
      have AU := hide ho
      have AV := hide ha
      have old0 : ∃ x, w2.cell? ⟨w.heap.size, k * 2, none⟩ = some x := by
        have hl := hM.1
        rw [hM.cellAt _ (by omega)]
        exact ⟨_, List.getElem?_eq_getElem (by omega)⟩
      obtain ⟨x0, o0⟩ := old0
      have old1 : ∃ x, w2.cell? ⟨w.heap.size, k * 2 + 1, none⟩ = some x := by
        have hl := hM.1
        rw [hM.cellAt _ (by omega)]
        exact ⟨_, List.getElem?_eq_getElem (by omega)⟩
      obtain ⟨x1, o1⟩ := old1
      have fr : ∀ o, w2.frozen? ⟨w.heap.size, o, none⟩ = false := fun o => hM.frozenAt o
      have HM := hide hM
      have HL := hide hL
      clear hM hL hb2 ho ha EM OO AA E0 E1
      go_wp2
      go_roundw
      case rel =>
        have hM := unhide HM
        have bt : But w.heap.size (w.heap.size + 1) w2 ((w2.setCell ⟨w.heap.size, k * 2, none⟩ (.bool u.g)).setCell ⟨w.heap.size, k * 2 + 1, none⟩ (.slice u.a u.n u.c)) := but_rowB
        refine ⟨k + 1, us ++ [(u, y.2)], by omega, by go_num, by simp [hu], Nat.lt_of_lt_of_le (by omega) bt.size, hide (by rw [unhide TK, List.map_append]; rfl), hide ⟨_, (World.ownsRow.stored (World.ownsRow.stored hM (k * 2) (.bool u.g)).1 (k * 2 + 1) (.slice u.a u.n u.c)).1, set_rowB hM.1 hlt hu (unhide HL)⟩, hide ?_, hide ?_, hide ?_⟩
        · rw [zipPB_append, zipPB_one]
          exact (((unhide OO2).join (unhide AU) (by omega) (by omega)).but bt (.inr (Nat.le_refl _))).wide (Nat.le_refl _) bt.size
        · intro p hp x hx
          have own := (((unhide OO2).join (unhide AU) (by omega) (by omega)))
          have hAr : AllAr w2 (zipPB us ++ [(u, y.2)]) := fun x hx => by
            rcases List.mem_append.1 hx with hx | hx
            · obtain ⟨p, hp, hx⟩ := List.mem_flatMap.1 hx
              exact (unhide AA2) p hp x hx
            · exact (unhide AV) x hx
          refine ar_fin bt own hAr (Nat.le_refl _) x ?_
          rcases List.mem_append.1 hp with hp | hp
          · exact List.mem_append_left _ (zipPB_mem hp hx)
          · obtain rfl := List.mem_singleton.1 hp
            exact List.mem_append_right _ hx
        · exact bt.below (unhide HB1) (Nat.le_refl _) (by have := (unhide HB1).size; omega)
      case measure => simp [intOf]; omega
    · obtain rfl : k = n := by omega
      have EL := hide (show us.map Prod.snd = l.map Prod.snd from by have := unhide ED; rw [← unhide HN, List.take_length] at this; exact this)
      go_wp2
      go_ret
      exact ⟨us, rfl, unhide HB, z1, unhide EL, ⟨unhide EM, unhide OO, unhide AA, hu⟩⟩
end Go.Proofs.Ytaaajmdneaaeeaa
namespace Go.Proofs.Ytaaajmdneaaeeaa
set_option linter.unusedVariables false
set_option maxRecDepth 100000
set_option linter.unusedSimpArgs false

def sumTo : Nat → (Nat → Int) → Int
  | 0, _ => 0
  | n + 1, f => sumTo n f + f n
theorem sumTo_congr {n : Nat} {f g : Nat → Int} (h : ∀ i, i < n → f i = g i) : sumTo n f = sumTo n g := by
  induction n with
  | zero => rfl
  | succ n ih => simp only [sumTo]; rw [ih (fun i hi => h i (by omega)), h n (by omega)]
theorem sumTo_add (n : Nat) (f g : Nat → Int) : sumTo n (fun i => f i + g i) = sumTo n f + sumTo n g := by
  induction n with
  | zero => rfl
  | succ n ih => simp only [sumTo]; rw [ih]; omega
theorem sumTo_mul (n : Nat) (a : Int) (f : Nat → Int) : sumTo n (fun i => a * f i) = a * sumTo n f := by
  induction n with
  | zero => simp [sumTo]
  | succ n ih => simp only [sumTo]; rw [ih, Int.mul_add]
theorem sumTo_zero {n : Nat} {f : Nat → Int} (h : ∀ i, i < n → f i = 0) : sumTo n f = 0 := by
  induction n with
  | zero => rfl
  | succ n ih => simp only [sumTo]; rw [ih (fun i hi => h i (by omega)), h n (by omega)]; rfl
theorem sumTo_split (a b : Nat) (f : Nat → Int) : sumTo (a + b) f = sumTo a f + sumTo b (fun i => f (a + i)) := by
  induction b with
  | zero => simp [sumTo]
  | succ b ih => rw [← Nat.add_assoc]; simp only [sumTo]; rw [ih]; omega
theorem sumTo_left (n : Nat) (f : Nat → Int) : sumTo (n + 1) f = f 0 + sumTo n (fun i => f (i + 1)) := by
  rw [Nat.add_comm, sumTo_split]
  simp [sumTo, Nat.add_comm]
theorem sumTo_swap (m n : Nat) (f : Nat → Nat → Int) : sumTo m (fun i => sumTo n (fun j => f i j)) = sumTo n (fun j => sumTo m (fun i => f i j)) := by
  induction m with
  | zero => simp only [sumTo]; rw [sumTo_zero (fun _ _ => rfl)]
  | succ m ih => simp only [sumTo]; rw [ih, ← sumTo_add]
def alt (i : Nat) : Int := if i % 2 = 0 then 1 else -1
theorem alt_succ (i : Nat) : alt (i + 1) = - alt i := by
  unfold alt
  split <;> split <;> omega
theorem alt_two (i : Nat) : alt (i + i) = 1 := by
  unfold alt
  rw [if_pos (by omega)]
/-- The determinant of rows (by name) and columns (as functions of a row's name), by its first row. -/
def det : List Nat → List (Nat → Int) → Int
  | [], _ => 1
  | r :: rs, cs => sumTo cs.length (fun i => alt i * (cs.getD i (fun _ => 0)) r * det rs (cs.eraseIdx i))
theorem getD_left {α : Type} (L R : List α) (d : α) {i : Nat} (h : i < L.length) : (L ++ R).getD i d = L.getD i d := by
  simp [List.getD_eq_getElem?_getD, List.getElem?_append_left h]
theorem det_cons (r : Nat) (rs : List Nat) (cs : List (Nat → Int)) : det (r :: rs) cs = sumTo cs.length (fun i => alt i * (cs.getD i (fun _ => 0)) r * det rs (cs.eraseIdx i)) := rfl
/-- The sum by the first row, with one column in view. -/
theorem det_mid (r : Nat) (rs : List Nat) (L R : List (Nat → Int)) (x : Nat → Int) :
    det (r :: rs) (L ++ x :: R) = sumTo L.length (fun i => alt i * (L.getD i (fun _ => 0)) r * det rs (L.eraseIdx i ++ x :: R)) + (alt L.length * x r * det rs (L ++ R) + sumTo R.length (fun i => alt (L.length + (1 + i)) * (R.getD i (fun _ => 0)) r * det rs (L ++ x :: R.eraseIdx i))) := by
  rw [det_cons, show (L ++ x :: R).length = L.length + (1 + R.length) by simp; omega, sumTo_split, sumTo_split]
  congr 1
  · refine sumTo_congr (fun i hi => ?_)
    rw [List.eraseIdx_append_of_lt_length hi, getD_left _ _ _ hi]
  · congr 1
    · simp [sumTo, List.eraseIdx_append_of_length_le]
    · refine sumTo_congr (fun i hi => ?_)
      rw [List.eraseIdx_append_of_length_le (by omega)]
      congr 2
      · congr 1
        simp [List.getElem?_append_right, show L.length + (1 + i) - L.length = i + 1 by omega]
      · rw [show L.length + (1 + i) - L.length = i + 1 by omega]; rfl
theorem det_lin (rs : List Nat) : ∀ (L R : List (Nat → Int)) (u v : Nat → Int) (a b : Int), rs.length = L.length + 1 + R.length →
    det rs (L ++ (fun r => a * u r + b * v r) :: R) = a * det rs (L ++ u :: R) + b * det rs (L ++ v :: R) := by
  induction rs with
  | nil => intro L R u v a b h; simp at h; omega
  | cons r rs ih =>
    intro L R u v a b h
    simp only [List.length_cons] at h
    rw [det_mid, det_mid, det_mid]
    have e1 : sumTo L.length (fun i => alt i * (L.getD i (fun _ => 0)) r * det rs (L.eraseIdx i ++ (fun r => a * u r + b * v r) :: R)) = sumTo L.length (fun i => a * (alt i * (L.getD i (fun _ => 0)) r * det rs (L.eraseIdx i ++ u :: R)) + b * (alt i * (L.getD i (fun _ => 0)) r * det rs (L.eraseIdx i ++ v :: R))) := by
      refine sumTo_congr (fun i hi => ?_)
      rw [ih (L.eraseIdx i) R u v a b (by rw [List.length_eraseIdx_of_lt hi]; omega)]
      grind
    have e2 : sumTo R.length (fun i => alt (L.length + (1 + i)) * (R.getD i (fun _ => 0)) r * det rs (L ++ (fun r => a * u r + b * v r) :: R.eraseIdx i)) = sumTo R.length (fun i => a * (alt (L.length + (1 + i)) * (R.getD i (fun _ => 0)) r * det rs (L ++ u :: R.eraseIdx i)) + b * (alt (L.length + (1 + i)) * (R.getD i (fun _ => 0)) r * det rs (L ++ v :: R.eraseIdx i))) := by
      refine sumTo_congr (fun i hi => ?_)
      rw [ih L (R.eraseIdx i) u v a b (by rw [List.length_eraseIdx_of_lt hi]; omega)]
      grind
    rw [e1, e2, sumTo_add, sumTo_add, sumTo_mul, sumTo_mul, sumTo_mul, sumTo_mul]
    grind
theorem det_adj (rs : List Nat) : ∀ (L R : List (Nat → Int)) (x : Nat → Int), rs.length = L.length + 2 + R.length → det rs (L ++ x :: x :: R) = 0 := by
  induction rs with
  | nil => intro L R x h; simp at h; omega
  | cons r rs ih =>
    intro L R x h
    simp only [List.length_cons] at h
    rw [det_mid, List.length_cons, Nat.add_comm R.length 1, sumTo_split]
    have e1 : sumTo L.length (fun i => alt i * (L.getD i (fun _ => 0)) r * det rs (L.eraseIdx i ++ x :: x :: R)) = 0 := sumTo_zero (fun i hi => by
      rw [ih (L.eraseIdx i) R x (by rw [List.length_eraseIdx_of_lt hi]; omega)]; simp)
    have e2 : sumTo R.length (fun i => alt (L.length + (1 + (1 + i))) * ((x :: R).getD (1 + i) (fun _ => 0)) r * det rs (L ++ x :: (x :: R).eraseIdx (1 + i))) = 0 := sumTo_zero (fun i hi => by
      rw [show (x :: R).eraseIdx (1 + i) = x :: R.eraseIdx i by rw [Nat.add_comm]; rfl]
      rw [ih L (R.eraseIdx i) x (by rw [List.length_eraseIdx_of_lt hi]; omega)]; simp)
    rw [e1, e2]
    simp only [sumTo]
    simp [alt_succ]
    grind
theorem det_swap (rs : List Nat) (L R : List (Nat → Int)) (x y : Nat → Int) (h : rs.length = L.length + 2 + R.length) : det rs (L ++ x :: y :: R) = - det rs (L ++ y :: x :: R) := by
  have h0 := det_adj rs L R (fun r => 1 * x r + 1 * y r) h
  rw [det_lin rs L ((fun r => 1 * x r + 1 * y r) :: R) x y 1 1 (by simp; omega)] at h0
  have h1 := det_lin rs (L ++ [x]) R x y 1 1 (by simp; omega)
  have h2 := det_lin rs (L ++ [y]) R x y 1 1 (by simp; omega)
  simp only [List.append_assoc, List.singleton_append] at h1 h2
  rw [h1, h2, det_adj rs L R x h, det_adj rs L R y h] at h0
  omega
theorem det_eq (rs : List Nat) (R : List (Nat → Int)) (x : Nat → Int) : ∀ (M L : List (Nat → Int)), rs.length = L.length + M.length + 2 + R.length → det rs (L ++ x :: (M ++ x :: R)) = 0 := by
  intro M
  induction M with
  | nil => intro L h; exact det_adj rs L R x (by simp at h; omega)
  | cons m M ih =>
    intro L h
    simp only [List.length_cons] at h
    rw [List.cons_append, det_swap rs L (M ++ x :: R) x m (by simp; omega)]
    have := ih (L ++ [m]) (by simp; omega)
    simp only [List.append_assoc, List.singleton_append] at this
    rw [this]; rfl
theorem getD_snoc_lt (cs : List (Nat → Int)) (c : Nat → Int) {i : Nat} (h : i < cs.length) : (cs ++ [c]).getD i (fun _ => 0) = cs.getD i (fun _ => 0) := getD_left _ _ _ h
/-- By the last column. -/
theorem det_last (rs : List Nat) : ∀ (cs : List (Nat → Int)) (c : Nat → Int), rs.length = cs.length + 1 →
    det rs (cs ++ [c]) = sumTo rs.length (fun t => alt (cs.length + t) * det (rs.eraseIdx t) cs * c (rs.getD t 0)) := by
  induction rs with
  | nil => intro cs c h; simp at h
  | cons r rs ih =>
    intro cs c h
    simp only [List.length_cons, Nat.add_right_cancel_iff] at h
    rw [List.length_cons, sumTo_left, det_cons, List.length_append, List.length_singleton]
    simp only [sumTo]
    have e1 : sumTo cs.length (fun i => alt i * ((cs ++ [c]).getD i (fun _ => 0)) r * det rs ((cs ++ [c]).eraseIdx i)) = sumTo cs.length (fun i => sumTo rs.length (fun t => alt (cs.length + (t + 1)) * (alt i * (cs.getD i (fun _ => 0)) r * det (rs.eraseIdx t) (cs.eraseIdx i)) * c (rs.getD t 0))) := by
      refine sumTo_congr (fun i hi => ?_)
      rw [List.eraseIdx_append_of_lt_length hi, getD_snoc_lt _ _ hi, ih (cs.eraseIdx i) c (by rw [List.length_eraseIdx_of_lt hi]; omega), ← sumTo_mul]
      refine sumTo_congr (fun t ht => ?_)
      have ea : alt (cs.length + (t + 1)) = alt ((cs.eraseIdx i).length + t) := by
        rw [List.length_eraseIdx_of_lt hi]
        have : cs.length + (t + 1) = (cs.length - 1 + t) + 1 + 1 := by omega
        rw [this, alt_succ, alt_succ]; omega
      rw [ea]
      grind
    have e2 : sumTo cs.length (fun i => sumTo rs.length (fun t => alt (cs.length + (t + 1)) * (alt i * (cs.getD i (fun _ => 0)) r * det (rs.eraseIdx t) (cs.eraseIdx i)) * c (rs.getD t 0))) = sumTo rs.length (fun t => alt (cs.length + (t + 1)) * det (r :: rs.eraseIdx t) cs * c (rs.getD t 0)) := by
      rw [sumTo_swap]
      refine sumTo_congr (fun t ht => ?_)
      rw [det_cons, show ∀ S : Int, alt (cs.length + (t + 1)) * S * c (rs.getD t 0) = (alt (cs.length + (t + 1)) * c (rs.getD t 0)) * S from fun S => by grind, ← sumTo_mul]
      exact sumTo_congr (fun i _ => by grind)
    rw [e1, e2]
    have e3 : (cs ++ [c]).getD cs.length (fun _ => 0) = c := by simp [List.getD_eq_getElem?_getD]
    have e4 : (cs ++ [c]).eraseIdx cs.length = cs := by rw [List.eraseIdx_append_of_length_le (Nat.le_refl _)]; simp
    rw [e3, e4]
    simp only [List.eraseIdx_cons_succ, List.getD_cons_succ, List.eraseIdx_zero, List.tail_cons, List.getD_cons_zero, Nat.add_zero]
    grind

/-- Entries by names of rows and of columns. -/
def col (A : Nat → Nat → Int) (j : Nat) : Nat → Int := fun r => A r j
def base (A : Nat → Nat → Int) (k : Nat) : List (Nat → Int) := (List.range k).map (col A)
theorem base_len (A : Nat → Nat → Int) (k : Nat) : (base A k).length = k := by simp [base]
theorem base_succ (A : Nat → Nat → Int) (k : Nat) : base A (k + 1) = base A k ++ [col A k] := by simp [base, List.range_succ]
/-- The determinant of the first k rows and the row i, of the first k columns and the column j. -/
def mnr (A : Nat → Nat → Int) (k i j : Nat) : Int := det (List.range k ++ [i]) (base A k ++ [col A j])
def lead (A : Nat → Nat → Int) (k : Nat) : Int := det (List.range k) (base A k)
theorem lead_zero (A : Nat → Nat → Int) : lead A 0 = 1 := rfl
theorem lead_succ (A : Nat → Nat → Int) (k : Nat) : lead A (k + 1) = mnr A k k k := by unfold lead mnr; rw [List.range_succ, base_succ]
theorem mnr_zero (A : Nat → Nat → Int) (i j : Nat) : mnr A 0 i j = A i j := by
  simp [mnr, base, det, sumTo, alt, col]
theorem mnr_low (A : Nat → Nat → Int) (k i : Nat) {j : Nat} (h : j < k) : mnr A k i j = 0 := by
  have e : base A k = (base A k).take j ++ col A j :: (base A k).drop (j + 1) := by
    have h1 : j < (base A k).length := by rw [base_len]; exact h
    have h2 : (base A k)[j] = col A j := by simp [base]
    rw [← h2]
    simp
  unfold mnr
  rw [e, List.append_assoc, List.cons_append]
  refine det_eq _ [] (col A j) _ _ ?_
  simp [base_len]
  omega
theorem mnr_row (A : Nat → Nat → Int) (k i : Nat) : ∃ e : Nat → Int, ∀ j, mnr A k i j = sumTo k (fun t => e t * A t j) + lead A k * A i j := by
  refine ⟨fun t => alt (k + t) * det ((List.range k ++ [i]).eraseIdx t) (base A k), fun j => ?_⟩
  unfold mnr
  rw [det_last _ _ _ (by simp [base_len]), List.length_append, List.length_range, List.length_singleton, base_len]
  simp only [sumTo]
  congr 1
  · refine sumTo_congr (fun t ht => ?_)
    rw [getD_left _ _ _ (by simpa using ht)]
    simp [List.getD_eq_getElem?_getD, ht, col]
  · rw [alt_two, List.eraseIdx_append_of_length_le (by simp)]
    simp [lead, List.getD_eq_getElem?_getD, col]
theorem mnr_two (A : Nat → Nat → Int) (k i : Nat) : ∃ e : Nat → Int, ∀ j, mnr A (k + 1) i j = sumTo k (fun t => e t * A t j) - mnr A k i k * A k j + mnr A k k k * A i j := by
  refine ⟨fun t => alt (k + 1 + t) * det ((List.range (k + 1) ++ [i]).eraseIdx t) (base A (k + 1)), fun j => ?_⟩
  rw [← lead_succ]
  show det (List.range (k + 1) ++ [i]) (base A (k + 1) ++ [col A j]) = _
  rw [det_last _ _ _ (by simp [base_len]), List.length_append, List.length_range, List.length_singleton, base_len]
  simp only [sumTo]
  have e1 : alt (k + 1 + (k + 1)) = 1 := alt_two _
  have e2 : alt (k + 1 + k) = -1 := by rw [show k + 1 + k = (k + k) + 1 by omega, alt_succ, alt_two]
  have e3 : (List.range (k + 1) ++ [i]).eraseIdx (k + 1) = List.range (k + 1) := by rw [List.eraseIdx_append_of_length_le (by simp)]; simp
  have e4 : (List.range (k + 1) ++ [i]).eraseIdx k = List.range k ++ [i] := by
    rw [List.range_succ, List.append_assoc, List.eraseIdx_append_of_length_le (by simp)]; simp
  have e5 : (List.range (k + 1) ++ [i]).getD (k + 1) 0 = i := by simp [List.getD_eq_getElem?_getD]
  have e6 : (List.range (k + 1) ++ [i]).getD k 0 = k := by simp [List.getD_eq_getElem?_getD, List.getElem?_append]
  rw [e1, e2, e3, e4, e5, e6]
  have e7 : det (List.range k ++ [i]) (base A (k + 1)) = mnr A k i k := by unfold mnr; rw [base_succ]
  rw [e7]
  have e8 : sumTo k (fun t => alt (k + 1 + t) * det ((List.range (k + 1) ++ [i]).eraseIdx t) (base A (k + 1)) * col A j ((List.range (k + 1) ++ [i]).getD t 0)) = sumTo k (fun t => alt (k + 1 + t) * det ((List.range (k + 1) ++ [i]).eraseIdx t) (base A (k + 1)) * A t j) := by
    refine sumTo_congr (fun t ht => ?_)
    rw [getD_left _ _ _ (by simp; omega)]
    have : (List.range (k + 1)).getD t 0 = t := by simp [List.getD_eq_getElem?_getD, show t < k + 1 by omega]
    rw [this]; rfl
  rw [e8]
  show _ + (-1 * _ * A k j) + (1 * lead A (k + 1) * A i j) = _
  grind
/-- Rows whose leading determinants are not 0 bear no sum of noughts. -/
theorem rows_free (A : Nat → Nat → Int) : ∀ (k : Nat), (∀ r, r ≤ k → lead A r ≠ 0) → ∀ e : Nat → Int, (∀ j, j < k → sumTo k (fun t => e t * A t j) = 0) → ∀ t, t < k → e t = 0 := by
  intro k
  induction k with
  | zero => intro _ e _ t ht; omega
  | succ k ih =>
    intro hl e h
    obtain ⟨f, hf⟩ := mnr_row A k k
    have l0 := hl k (by omega)
    have l1 := hl (k + 1) (by omega)
    rw [lead_succ] at l1
    have key : ∀ j, lead A k * sumTo (k + 1) (fun t => e t * A t j) = sumTo k (fun t => (lead A k * e t - e k * f t) * A t j) + e k * mnr A k k j := by
      intro j
      simp only [sumTo]
      rw [hf j, Int.mul_add, Int.mul_add, ← sumTo_mul, ← sumTo_mul]
      have : sumTo k (fun t => (lead A k * e t - e k * f t) * A t j) + sumTo k (fun t => e k * (f t * A t j)) = sumTo k (fun t => lead A k * (e t * A t j)) := by
        rw [← sumTo_add]
        exact sumTo_congr (fun t _ => by grind)
      rw [← this]
      grind
    have low : ∀ t, t < k → lead A k * e t - e k * f t = 0 := by
      refine ih (fun r hr => hl r (by omega)) (fun t => lead A k * e t - e k * f t) (fun j hj => ?_)
      have := key j
      rw [h j (by omega), mnr_low A k k hj] at this
      simp at this
      omega
    have ek : e k = 0 := by
      have := key k
      rw [h k (by omega), sumTo_zero (fun t ht => by rw [low t ht]; simp)] at this
      rw [Int.mul_zero, Int.zero_add] at this
      rcases Int.mul_eq_zero.1 this.symm with h | h
      · exact h
      · exact absurd h l1
    intro t ht
    by_cases htk : t = k
    · rw [htk]; exact ek
    · have := low t (by omega)
      rw [ek, Int.zero_mul, Int.sub_zero] at this
      rcases Int.mul_eq_zero.1 this with h | h
      · exact absurd h l0
      · exact h
/-- Bareiss: what is divided leaves nothing. -/
theorem bareiss (A : Nat → Nat → Int) (k i j : Nat) (hl : ∀ r, r ≤ k → lead A r ≠ 0) : lead A k * mnr A (k + 1) i j = mnr A k k k * mnr A k i j - mnr A k i k * mnr A k k j := by
  obtain ⟨e, he⟩ := mnr_two A k i
  obtain ⟨f, hf⟩ := mnr_row A k i
  obtain ⟨g, hg⟩ := mnr_row A k k
  have key : ∀ j, (mnr A k k k * mnr A k i j - mnr A k i k * mnr A k k j) - lead A k * mnr A (k + 1) i j = sumTo k (fun t => (mnr A k k k * f t - mnr A k i k * g t - lead A k * e t) * A t j) := by
    intro j
    rw [he j, hf j, hg j]
    have : sumTo k (fun t => (mnr A k k k * f t - mnr A k i k * g t - lead A k * e t) * A t j) = sumTo k (fun t => mnr A k k k * (f t * A t j) + (- mnr A k i k * (g t * A t j) + - lead A k * (e t * A t j))) := sumTo_congr (fun t _ => by grind)
    rw [this, sumTo_add, sumTo_add, sumTo_mul, sumTo_mul, sumTo_mul]
    have e1 := hf k
    have e2 := hg k
    grind
  have z := rows_free A k hl (fun t => mnr A k k k * f t - mnr A k i k * g t - lead A k * e t) (fun j hj => by
    rw [← key j, mnr_low A k i hj, mnr_low A k k hj, mnr_low A (k + 1) i (by omega)]; simp)
  have := key j
  rw [sumTo_zero (fun t ht => by rw [z t ht]; simp)] at this
  omega
theorem map_erase {α β : Type} (f : α → β) : ∀ (l : List α) (i : Nat), (l.map f).eraseIdx i = (l.eraseIdx i).map f
  | [], _ => rfl
  | _ :: _, 0 => rfl
  | a :: l, i + 1 => by simp [map_erase f l i]
theorem det_congr {A A' : Nat → Nat → Int} (rs : List Nat) : ∀ js : List Nat, (∀ r ∈ rs, ∀ j ∈ js, A r j = A' r j) → det rs (js.map (col A)) = det rs (js.map (col A')) := by
  induction rs with
  | nil => intro js h; rfl
  | cons r rs ih =>
    intro js h
    rw [det_cons, det_cons, List.length_map, List.length_map]
    refine sumTo_congr (fun i hi => ?_)
    rw [map_erase, map_erase, ih (js.eraseIdx i) (fun r' hr j hj => h r' (List.mem_cons_of_mem _ hr) j (List.mem_of_mem_eraseIdx hj))]
    simp only [List.getD_eq_getElem?_getD, List.getElem?_map, List.getElem?_eq_getElem hi, Option.map_some, Option.getD_some, col]
    rw [h r List.mem_cons_self _ (List.getElem_mem hi)]
def fct : Nat → Nat
  | 0 => 1
  | n + 1 => (n + 1) * fct n
theorem sumTo_abs (n : Nat) (f : Nat → Int) (B : Nat) (h : ∀ i, i < n → (f i).natAbs ≤ B) : (sumTo n f).natAbs ≤ n * B := by
  induction n with
  | zero => simp [sumTo]
  | succ n ih =>
    have h1 := ih (fun i hi => h i (by omega))
    have h2 := h n (by omega)
    have h3 := Int.natAbs_add_le (sumTo n f) (f n)
    simp only [sumTo, Nat.succ_mul]
    omega
theorem alt_abs (i : Nat) : (alt i).natAbs = 1 := by unfold alt; split <;> rfl
theorem det_abs {B : Nat} (rs : List Nat) : ∀ cs : List (Nat → Int), rs.length = cs.length → (∀ r ∈ rs, ∀ c ∈ cs, (c r).natAbs ≤ B) → (det rs cs).natAbs ≤ fct rs.length * B ^ rs.length := by
  induction rs with
  | nil => intro cs h hB; simp [det, fct]
  | cons r rs ih =>
    intro cs h hB
    simp only [List.length_cons] at h
    rw [det_cons, List.length_cons]
    have h1 := sumTo_abs cs.length (fun i => alt i * (cs.getD i (fun _ => 0)) r * det rs (cs.eraseIdx i)) (B * (fct rs.length * B ^ rs.length)) (fun i hi => by
      rw [Int.natAbs_mul, Int.natAbs_mul, alt_abs, Nat.one_mul]
      refine Nat.mul_le_mul ?_ ?_
      · have : cs.getD i (fun _ => 0) = cs[i] := by simp [List.getD_eq_getElem?_getD, hi]
        rw [this]
        exact hB r List.mem_cons_self _ (List.getElem_mem hi)
      · exact ih (cs.eraseIdx i) (by rw [List.length_eraseIdx_of_lt hi]; omega) (fun r' hr c hc => hB r' (List.mem_cons_of_mem _ hr) c (List.mem_of_mem_eraseIdx hc)))
    refine Nat.le_trans h1 (Nat.le_of_eq ?_)
    rw [← h]
    simp only [fct, Nat.pow_succ]
    grind
theorem det_map (f : Nat → Nat) (A : Nat → Nat → Int) (rs : List Nat) : ∀ js : List Nat, det (rs.map f) (js.map (col A)) = det rs (js.map (col (fun r j => A (f r) j))) := by
  induction rs with
  | nil => intro js; rfl
  | cons r rs ih =>
    intro js
    rw [List.map_cons, det_cons, det_cons, List.length_map, List.length_map]
    refine sumTo_congr (fun i hi => ?_)
    rw [map_erase, map_erase, ih (js.eraseIdx i)]
    simp only [List.getD_eq_getElem?_getD, List.getElem?_map, List.getElem?_eq_getElem hi, Option.map_some, Option.getD_some, col]
/-- Two rows change places. -/
def sw (a b i : Nat) : Nat := if i = a then b else if i = b then a else i
def swp (M : Nat → Nat → Int) (a b : Nat) : Nat → Nat → Int := fun i j => M (sw a b i) j
theorem mnr_swp (A : Nat → Nat → Int) (k a b r j : Nat) (ha : k ≤ a) (hb : k ≤ b) : mnr (swp A a b) k r j = mnr A k (sw a b r) j := by
  have e : List.range k ++ [sw a b r] = (List.range k ++ [r]).map (sw a b) := by
    rw [List.map_append]
    congr 1
    conv => lhs; rw [← List.map_id (List.range k)]
    refine List.map_congr_left (fun t ht => ?_)
    have := List.mem_range.1 ht
    unfold sw
    rw [if_neg (by omega), if_neg (by omega)]; rfl
  have h1 : ∀ B : Nat → Nat → Int, base B k ++ [col B j] = (List.range k ++ [j]).map (col B) := fun B => by simp [base]
  unfold mnr
  rw [h1, h1, e, det_map]
  rfl
theorem lead_swp (A : Nat → Nat → Int) (k a b : Nat) (ha : k ≤ a) (hb : k ≤ b) : lead (swp A a b) k = lead A k := by
  unfold lead base
  refine det_congr _ _ (fun r hr j hj => ?_)
  have := List.mem_range.1 hr
  show A (sw a b r) j = _
  unfold sw
  rw [if_neg (by omega), if_neg (by omega)]
/-- One step: all behind k. -/
def stp (M : Nat → Nat → Int) (k : Nat) (l : Int) : Nat → Nat → Int := fun i j => if k < i ∧ k < j then (M k k * M i j - M i k * M k j) / l else M i j
def nxt (M : Nat → Nat → Int) (n k : Nat) : Option Nat := (List.range n).find? (fun i => decide (k ≤ i) && decide (M i k ≠ 0))
theorem nxt_some {M : Nat → Nat → Int} {n k i : Nat} (h : nxt M n k = some i) : k ≤ i ∧ i < n ∧ M i k ≠ 0 := by
  unfold nxt at h
  have h1 := List.find?_some h
  have h2 := List.mem_range.1 (List.mem_of_find?_eq_some h)
  simp at h1
  exact ⟨h1.1, h2, h1.2⟩
/-- Two rows are alike. -/
def Alk (A : Nat → Nat → Int) (n : Nat) : Prop := ∃ p q, p < n ∧ q < n ∧ p ≠ q ∧ ∀ j, j < n → A p j = A q j
/-- What holds at each step, of a matrix A' that has A's rows. -/
structure Binv (A : Nat → Nat → Int) (n B : Nat) (k : Nat) (M : Nat → Nat → Int) (l : Int) (A' : Nat → Nat → Int) : Prop where
  bd : ∀ r c, r < n → c < n → (A' r c).natAbs ≤ B
  al : Alk A n → Alk A' n
  m : ∀ i j, k ≤ i → i < n → k ≤ j → j < n → M i j = mnr A' k i j
  l : l = lead A' k
  nz : ∀ r, r ≤ k → lead A' r ≠ 0
theorem sw_lt {a b i n : Nat} (ha : a < n) (hb : b < n) (hi : i < n) : sw a b i < n := by unfold sw; split <;> (try split) <;> omega
theorem sw_inj {a b i j : Nat} (h : i ≠ j) : sw a b i ≠ sw a b j := by unfold sw; split <;> split <;> (try split) <;> (try split) <;> omega
theorem sw_sw (a b i : Nat) : sw a b (sw a b i) = i := by unfold sw; split <;> (try split) <;> (try split) <;> (try split) <;> omega
theorem sw_ge {a b i k : Nat} (ha : k ≤ a) (hb : k ≤ b) (hi : k ≤ i) : k ≤ sw a b i := by unfold sw; split <;> (try split) <;> omega
theorem Binv.next {A : Nat → Nat → Int} {n B k i : Nat} {M A' : Nat → Nat → Int} {l : Int} (h : Binv A n B k M l A') (hi : nxt M n k = some i) : Binv A n B (k + 1) (stp (swp M k i) k l) (M i k) (swp A' k i) := by
  obtain ⟨h1, h2, h3⟩ := nxt_some hi
  have hm : ∀ r j, k ≤ r → r < n → k ≤ j → j < n → swp M k i r j = mnr (swp A' k i) k r j := fun r j a b c d => by
    rw [mnr_swp A' k k i r j (Nat.le_refl _) h1]
    exact h.m _ j (sw_ge (Nat.le_refl _) h1 a) (sw_lt (by omega) h2 b) c d
  have nz : ∀ r, r ≤ k → lead (swp A' k i) r ≠ 0 := fun r hr => by
    rw [lead_swp A' r k i hr (by omega)]
    exact h.nz r hr
  have hp : M i k = mnr (swp A' k i) k k k := by
    rw [← hm k k (Nat.le_refl _) (by omega) (Nat.le_refl _) (by omega)]
    show _ = M (sw k i k) k
    unfold sw
    rw [if_pos rfl]
  have hl : l = lead (swp A' k i) k := by rw [lead_swp A' k k i (Nat.le_refl _) h1]; exact h.l
  refine ⟨fun r c hr hc => h.bd _ c (sw_lt (by omega) h2 hr) hc, fun ha => ?_, fun r j a b c d => ?_, ?_, fun r hr => ?_⟩
  · obtain ⟨p, q, hp, hq, hne, he⟩ := h.al ha
    refine ⟨sw k i p, sw k i q, sw_lt (by omega) h2 hp, sw_lt (by omega) h2 hq, sw_inj hne, fun j hj => ?_⟩
    show A' (sw k i (sw k i p)) j = A' (sw k i (sw k i q)) j
    rw [sw_sw, sw_sw]
    exact he j hj
  · unfold stp
    rw [if_pos ⟨by omega, by omega⟩, hm k k (Nat.le_refl _) (by omega) (Nat.le_refl _) (by omega), hm r j (by omega) b (by omega) d, hm r k (by omega) b (Nat.le_refl _) (by omega), hm k j (Nat.le_refl _) (by omega) (by omega) d, ← bareiss (swp A' k i) k r j nz, hl]
    exact Int.mul_ediv_cancel_left _ (nz k (Nat.le_refl _))
  · rw [lead_succ]; exact hp
  · by_cases e : r = k + 1
    · rw [e, lead_succ, ← hp]; exact h3
    · exact nz r (by omega)
/-- What is divided at a step leaves nothing. -/
theorem Binv.exact {A : Nat → Nat → Int} {n B k i : Nat} {M A' : Nat → Nat → Int} {l : Int} (h : Binv A n B k M l A') (hi : nxt M n k = some i) {r j : Nat} (a : k < r) (b : r < n) (c : k < j) (d : j < n) : l * stp (swp M k i) k l r j = swp M k i k k * swp M k i r j - swp M k i r k * swp M k i k j := by
  obtain ⟨h1, h2, h3⟩ := nxt_some hi
  have hn := h.next hi
  have hm : ∀ r j, k ≤ r → r < n → k ≤ j → j < n → swp M k i r j = mnr (swp A' k i) k r j := fun r j a b c d => by
    rw [mnr_swp A' k k i r j (Nat.le_refl _) h1]
    exact h.m _ j (sw_ge (Nat.le_refl _) h1 a) (sw_lt (by omega) h2 b) c d
  have nz : ∀ r, r ≤ k → lead (swp A' k i) r ≠ 0 := fun r hr => by
    rw [lead_swp A' r k i hr (by omega)]
    exact h.nz r hr
  have hl : l = lead (swp A' k i) k := by rw [lead_swp A' k k i (Nat.le_refl _) h1]; exact h.l
  rw [hn.m r j (by omega) b (by omega) d, hm k k (Nat.le_refl _) (by omega) (Nat.le_refl _) (by omega), hm r j (by omega) b (by omega) d, hm r k (by omega) b (Nat.le_refl _) (by omega), hm k j (Nat.le_refl _) (by omega) (by omega) d, ← bareiss (swp A' k i) k r j nz, hl]
theorem Binv.start (A : Nat → Nat → Int) (n B : Nat) (h : ∀ r c, r < n → c < n → (A r c).natAbs ≤ B) : Binv A n B 0 A 1 A :=
  ⟨h, id, fun i j _ _ _ _ => (mnr_zero A i j).symm, rfl, fun r hr => by obtain rfl : r = 0 := by omega
                                                                        rw [lead_zero]; decide⟩
end Go.Proofs.Ytaaajmdneaaeeaa
namespace Go.Proofs.Ytaaajmdneaaeeaa
open Go.RowKit
set_option linter.unusedVariables false
set_option maxRecDepth 100000
set_option linter.unusedSimpArgs false

theorem cs7_hit {w : World} {b o : Nat} {v z : Value} (h : w.cell? ⟨b, o, none⟩ = some z) : (w.setCell ⟨b, o, none⟩ v).cell? ⟨b, o, none⟩ = some v := by
  simp [go_sem, h]
theorem cs7_skip {w : World} {G i b o : Nat} {v x : Value} (h : w.cell? ⟨b, o, none⟩ = some x) (hne : b ≠ G ∨ o ≠ i) : (w.setCell ⟨G, i, none⟩ v).cell? ⟨b, o, none⟩ = some x := by
  by_cases e : b = G
  · subst e
    have hn : o ≠ i := by rcases hne with h | h; exact absurd rfl h; exact h
    rw [← h]
    simp [go_sem, h, Ne.symm hn, hn]
  · exact cs_other h e
/-- No whole number. -/
def NotI (v : Value) : Prop := ∀ k n, v ≠ .int k n
theorem notI_b (g : Bool) : NotI (.bool g) := fun k n h => by cases h
theorem notI_s (a : Option Addr) (n c : Nat) : NotI (.slice a n c) := fun k n h => by cases h
/-- Limbs lie in no block whose first cell is no whole number. -/
theorem Ow.blk {lo hi F : Nat} {w w' : World} {b : BV} {V : Int} {v : Value} (h : Ow lo hi w b V) (hb : But F (F + 1) w w') (hc : w.cell? ⟨F, 0, none⟩ = some v) (hv : NotI v) : Ow lo hi w' b V := by
  obtain ⟨xs, k1, k2, k3⟩ := h
  have o : AllOwn lo hi w' [(b, ⟨decide (V < 0), xs⟩)] := ⟨fun p hp => by
    have hp := List.mem_singleton.1 hp
    subst hp
    have q := k1.own _ (List.mem_singleton.2 rfl)
    refine ⟨q.sg, ?_, q.len⟩
    rcases q.own with e | ⟨bb, cur, ea, h1, h2, hg, hx⟩
    · exact .inl e
    · by_cases hx0 : xs = []
      · exact .inl hx0
      refine .inr ⟨bb, cur, ea, h1, h2, (hb.block bb (Array.getElem?_eq_some_iff.1 hg).1 ?_).trans hg, hx⟩
      have hne : bb ≠ F := fun e => by
        subst e
        have h0 := hx 0 (by have := List.length_pos_iff.2 hx0; exact this)
        have h3 : w.cell? ⟨bb, 0, none⟩ = some (.int .i64 (xs.getD 0 0)) := by
          simp only [World.cell?, hg]
          simpa using h0
        rw [h3] at hc
        exact hv _ _ (Option.some.inj hc).symm
      omega, List.pairwise_singleton _ _⟩
  exact ⟨xs, o, fun p hp => ⟨(k2 p hp).sg, ⟨(o.sl p hp).sl, (k2 p hp).ar.len, (k2 p hp).ar.cap, (k2 p hp).ar.top, (k2 p hp).ar.addr⟩⟩, k3⟩
theorem But.hp {lo hi : Nat} {w w' : World} (h : But lo hi w w') : w.heap.size ≤ w'.heap.size := h.size
theorem But.fz7 {lo hi : Nat} {w w' : World} (h : But lo hi w w') {b o : Nat} {x : Bool} (hc : w.frozen? ⟨b, o, none⟩ = x) (h0 : b < w.heap.size) (hb : b < lo ∨ hi ≤ b) : w'.frozen? ⟨b, o, none⟩ = x := (World.frozen?_of_block (a := ⟨b, o, none⟩) (h.block b h0 hb)).trans hc

/-- m rows of n numbers each, of their own: the list of rows at block G, row i at block R i; all in blocks from lo on. -/
structure MatW (lo : Nat) (w : World) (G m n : Nat) (R : Nat → Nat) (M : Nat → Nat → Int) : Prop where
  glo : lo ≤ G
  ghi : G < w.heap.size
  out : ∀ i, i < m → ∃ c, w.cell? ⟨G, i, none⟩ = some (.slice (some ⟨R i, 0, none⟩) n c) ∧ n ≤ c ∧ c ≤ maxLen
  gfz : ∀ o, w.frozen? ⟨G, o, none⟩ = false
  rlo : ∀ i, i < m → lo ≤ R i ∧ R i < w.heap.size ∧ R i ≠ G
  rfz : ∀ i, i < m → ∀ o, w.frozen? ⟨R i, o, none⟩ = false
  inj : ∀ i j, i < m → j < m → i ≠ j → R i ≠ R j
  el : ∀ i j, i < m → j < n → ∃ b : BV, w.cell? ⟨R i, j * 2, none⟩ = some (.bool b.g) ∧ w.cell? ⟨R i, j * 2 + 1, none⟩ = some (.slice b.a b.n b.c) ∧ Ow lo w.heap.size w b (M i j)
theorem MatW.later {lo : Nat} {w w' : World} {G m n : Nat} {R : Nat → Nat} {M : Nat → Nat → Int} (h : MatW lo w G m n R M) (hb : Below w.heap.size w w') : MatW lo w' G m n R M := by
  have hs := hb.size
  refine ⟨h.glo, Nat.lt_of_lt_of_le h.ghi hs, fun i hi => ?_, fun o => frozen_later hb h.ghi (h.gfz o), fun i hi => ?_, fun i hi o => frozen_later hb (h.rlo i hi).2.1 (h.rfz i hi o), h.inj, fun i j hi hj => ?_⟩
  · obtain ⟨c, h1, h2⟩ := h.out i hi
    exact ⟨c, cell_later hb h1, h2⟩
  · obtain ⟨h1, h2, h3⟩ := h.rlo i hi
    exact ⟨h1, Nat.lt_of_lt_of_le h2 hs, h3⟩
  · obtain ⟨b, h1, h2, h3⟩ := h.el i j hi hj
    exact ⟨b, cell_later hb h1, cell_later hb h2, (h3.later hb).wide (Nat.le_refl _) hs⟩
/-- A box elsewhere is written. -/
theorem MatW.but {lo F : Nat} {w w' : World} {G m n : Nat} {R : Nat → Nat} {M : Nat → Nat → Int} {v : Value} (h : MatW lo w G m n R M) (hb : But F (F + 1) w w') (hc : w.cell? ⟨F, 0, none⟩ = some v) (hv : NotI v) (hG : F ≠ G) (hR : ∀ i, i < m → F ≠ R i) : MatW lo w' G m n R M := by
  have hs := hb.size
  refine ⟨h.glo, Nat.lt_of_lt_of_le h.ghi hs, fun i hi => ?_, fun o => hb.fz7 (h.gfz o) h.ghi (by omega), fun i hi => ?_, fun i hi o => hb.fz7 (h.rfz i hi o) (h.rlo i hi).2.1 (by have := hR i hi; omega), h.inj, fun i j hi hj => ?_⟩
  · obtain ⟨c, h1, h2⟩ := h.out i hi
    exact ⟨c, hb.cell h1 (by omega), h2⟩
  · obtain ⟨h1, h2, h3⟩ := h.rlo i hi
    exact ⟨h1, Nat.lt_of_lt_of_le h2 hs, h3⟩
  · obtain ⟨b, h1, h2, h3⟩ := h.el i j hi hj
    have := hR i hi
    exact ⟨b, hb.cell h1 (by omega), hb.cell h2 (by omega), (h3.blk hb hc hv).wide (Nat.le_refl _) hs⟩
def upd (M : Nat → Nat → Int) (i j : Nat) (V : Int) : Nat → Nat → Int := fun r c => if r = i ∧ c = j then V else M r c
theorem but_row7 {w : World} {F k : Nat} {u : BV} : But F (F + 1) w ((w.setCell ⟨F, k * 2, none⟩ (.bool u.g)).setCell ⟨F, k * 2 + 1, none⟩ (.slice u.a u.n u.c)) := (((But.refl _ _ _).set (p := ⟨F, k * 2, none⟩) (Nat.le_refl F) (Nat.lt_succ_self F) (.bool u.g)).set (p := ⟨F, k * 2 + 1, none⟩) (Nat.le_refl F) (Nat.lt_succ_self F) (.slice u.a u.n u.c))
/-- A number is stored. -/
theorem MatW.set {lo : Nat} {w : World} {G m n : Nat} {R : Nat → Nat} {M : Nat → Nat → Int} (h : MatW lo w G m n R M) {i j : Nat} (hi : i < m) (hj : j < n) {u : BV} {V : Int} (ho : Ow lo w.heap.size w u V) :
    MatW lo ((w.setCell ⟨R i, j * 2, none⟩ (.bool u.g)).setCell ⟨R i, j * 2 + 1, none⟩ (.slice u.a u.n u.c)) G m n R (upd M i j V) := by
  have hb : But (R i) (R i + 1) w ((w.setCell ⟨R i, j * 2, none⟩ (.bool u.g)).setCell ⟨R i, j * 2 + 1, none⟩ (.slice u.a u.n u.c)) := but_row7
  obtain ⟨b0, z1, z2, z3⟩ := h.el i 0 hi (by omega)
  have hs := hb.size
  obtain ⟨r1, r2, r3⟩ := h.rlo i hi
  refine ⟨h.glo, Nat.lt_of_lt_of_le h.ghi hs, fun i' hi' => ?_, fun o => hb.fz7 (h.gfz o) h.ghi (by omega), fun i' hi' => ?_, fun i' hi' o => ?_, h.inj, fun i' j' hi' hj' => ?_⟩
  · obtain ⟨c, h1, h2⟩ := h.out i' hi'
    exact ⟨c, hb.cell h1 (by omega), h2⟩
  · obtain ⟨h1, h2, h3⟩ := h.rlo i' hi'
    exact ⟨h1, Nat.lt_of_lt_of_le h2 hs, h3⟩
  · simp only [World.frozen?_setCell]
    exact h.rfz i' hi' o
  · obtain ⟨b, h1, h2, h3⟩ := h.el i' j' hi' hj'
    by_cases e : i' = i
    · subst e
      by_cases e2 : j' = j
      · subst e2
        refine ⟨u, cs7_skip (cs7_hit h1) (.inr (by omega)), cs7_hit (cs7_skip h2 (.inr (by omega))), ?_⟩
        unfold upd
        rw [if_pos ⟨rfl, rfl⟩]
        exact (ho.blk hb z1 (notI_b _)).wide (Nat.le_refl _) hs
      · refine ⟨b, cs7_skip (cs7_skip h1 (.inr (by omega))) (.inr (by omega)), cs7_skip (cs7_skip h2 (.inr (by omega))) (.inr (by omega)), ?_⟩
        unfold upd
        rw [if_neg (fun h => e2 h.2)]
        exact (h3.blk hb z1 (notI_b _)).wide (Nat.le_refl _) hs
    · have hne := h.inj i' i hi' hi e
      refine ⟨b, hb.cell h1 (by omega), hb.cell h2 (by omega), ?_⟩
      unfold upd
      rw [if_neg (fun h => e h.1)]
      exact (h3.blk hb z1 (notI_b _)).wide (Nat.le_refl _) hs
theorem MatW.congr {lo : Nat} {w : World} {G m n : Nat} {R : Nat → Nat} {M M' : Nat → Nat → Int} (h : MatW lo w G m n R M) (e : ∀ i j, i < m → j < n → M i j = M' i j) : MatW lo w G m n R M' :=
  ⟨h.glo, h.ghi, h.out, h.gfz, h.rlo, h.rfz, h.inj, fun i j hi hj => by rw [← e i j hi hj]; exact h.el i j hi hj⟩

/-- A row more, at a block that is new. -/
theorem MatW.more {lo : Nat} {w : World} {G m n F c : Nat} {R : Nat → Nat} {M M' : Nat → Nat → Int} (h : MatW lo w G m n R M) (hn : n ≤ c) (hc : c ≤ maxLen) (hF : lo ≤ F) (hF2 : F < w.heap.size) (hG : F ≠ G) (hR : ∀ i, i < m → F ≠ R i) (fz : ∀ o, w.frozen? ⟨F, o, none⟩ = false)
    (hcell : w.cell? ⟨G, m, none⟩ = some (.slice (some ⟨F, 0, none⟩) n c)) (hel : ∀ j, j < n → ∃ b : BV, w.cell? ⟨F, j * 2, none⟩ = some (.bool b.g) ∧ w.cell? ⟨F, j * 2 + 1, none⟩ = some (.slice b.a b.n b.c) ∧ Ow lo w.heap.size w b (M' m j)) (hM : ∀ i j, i < m → j < n → M' i j = M i j) :
    MatW lo w G (m + 1) n (fun i => if i = m then F else R i) M' := by
  refine ⟨h.glo, h.ghi, fun i hi => ?_, h.gfz, fun i hi => ?_, fun i hi o => ?_, fun i j hi hj hne => ?_, fun i j hi hj => ?_⟩
  · by_cases e : i = m
    · subst e; exact ⟨c, by rw [if_pos rfl]; exact hcell, hn, hc⟩
    · obtain ⟨c', h1, h2⟩ := h.out i (by omega)
      exact ⟨c', by rw [if_neg e]; exact h1, h2⟩
  · by_cases e : i = m
    · rw [if_pos e]; exact ⟨hF, hF2, hG⟩
    · rw [if_neg e]; exact h.rlo i (by omega)
  · by_cases e : i = m
    · rw [if_pos e]; exact fz o
    · rw [if_neg e]; exact h.rfz i (by omega) o
  · by_cases e : i = m
    · by_cases e2 : j = m
      · omega
      · rw [if_pos e, if_neg e2]; exact hR j (by omega)
    · by_cases e2 : j = m
      · rw [if_neg e, if_pos e2]; exact (hR i (by omega)).symm
      · rw [if_neg e, if_neg e2]; exact h.inj i j (by omega) (by omega) hne
  · by_cases e : i = m
    · subst e; rw [if_pos rfl]; exact hel j hj
    · rw [if_neg e, hM i j (by omega) hj]; exact h.el i j (by omega) hj
theorem Ow.nought7 (lo hi : Nat) (w : World) : Ow lo hi w ⟨false, none, 0, 0⟩ 0 := ⟨[], ⟨fun p hp => by
    rw [List.mem_singleton.1 hp]
    exact ⟨rfl, .inl rfl, rfl⟩, List.pairwise_singleton _ _⟩, fun p hp => by
    rw [List.mem_singleton.1 hp]
    exact ⟨rfl, Arg.none w⟩, Nm.zero⟩
/-- A matrix that is read: n rows of n numbers. -/
def MatV (w : World) (a : Option Addr) (n : Nat) (M : Nat → Nat → Int) : Prop :=
  ∃ G off, a = some ⟨G, off, none⟩ ∧ G < w.heap.size ∧ ∀ i, i < n → ∃ Ri o c, w.cell? ⟨G, off + i, none⟩ = some (.slice (some ⟨Ri, o, none⟩) n c) ∧ n ≤ c ∧ c ≤ maxLen ∧ Ri < w.heap.size ∧ ∀ j, j < n → ∃ b : BV, w.cell? ⟨Ri, o + j * 2, none⟩ = some (.bool b.g) ∧ w.cell? ⟨Ri, o + j * 2 + 1, none⟩ = some (.slice b.a b.n b.c) ∧ IsB w b (M i j)
theorem MatV.later {w w' : World} {a : Option Addr} {n : Nat} {M : Nat → Nat → Int} (h : MatV w a n M) (hb : Below w.heap.size w w') : MatV w' a n M := by
  obtain ⟨G, off, rfl, hG, h⟩ := h
  refine ⟨G, off, rfl, Nat.lt_of_lt_of_le hG hb.size, fun i hi => ?_⟩
  obtain ⟨Ri, o, c, h1, h2, h3, h4, h5⟩ := h i hi
  refine ⟨Ri, o, c, cell_later hb h1, h2, h3, Nat.lt_of_lt_of_le h4 hb.size, fun j hj => ?_⟩
  obtain ⟨b, h6, h7, h8⟩ := h5 j hj
  exact ⟨b, cell_later hb h6, cell_later hb h7, h8.later hb⟩
theorem MatV.congr {w : World} {a : Option Addr} {n : Nat} {M M' : Nat → Nat → Int} (h : MatV w a n M) (e : ∀ i j, i < n → j < n → M i j = M' i j) : MatV w a n M' := by
  obtain ⟨G, off, rfl, hG, h⟩ := h
  refine ⟨G, off, rfl, hG, fun i hi => ?_⟩
  obtain ⟨Ri, o, c, h1, h2, h3, h4, h5⟩ := h i hi
  refine ⟨Ri, o, c, h1, h2, h3, h4, fun j hj => ?_⟩
  obtain ⟨b, h6, h7, h8⟩ := h5 j hj
  exact ⟨b, h6, h7, by rw [← e i j hi hj]; exact h8⟩
theorem MatW.v {lo : Nat} {w : World} {G n : Nat} {R : Nat → Nat} {M : Nat → Nat → Int} (h : MatW lo w G n n R M) : MatV w (some ⟨G, 0, none⟩) n M := by
  refine ⟨G, 0, rfl, h.ghi, fun i hi => ?_⟩
  obtain ⟨c, h1, h2, h3⟩ := h.out i hi
  refine ⟨R i, 0, c, by rw [Nat.zero_add]; exact h1, h2, h3, (h.rlo i hi).2.1, fun j hj => ?_⟩
  obtain ⟨b, h4, h5, h6⟩ := h.el i j hi hj
  exact ⟨b, by rw [Nat.zero_add]; exact h4, by rw [Nat.zero_add]; exact h5, h6.is⟩
end Go.Proofs.Ytaaajmdneaaeeaa
namespace Go.Proofs.Ytaaajmdneaaeeaa
open Go.RowKit
set_option linter.unusedVariables false
set_option maxRecDepth 100000
set_option linter.unusedSimpArgs false

theorem made_big (n j : Nat) (h : j < n) : (madeCells #[.bool false, .slice none 0 0] (n * 2)).toList[j * 2]? = some (.bool false) ∧ (madeCells #[.bool false, .slice none 0 0] (n * 2)).toList[j * 2 + 1]? = some (.slice none 0 0) := by
  constructor
  · simp [madeCells, show j * 2 < n * 2 by omega]
  · simp [madeCells, show j * 2 + 1 < n * 2 by omega, Nat.add_mod]
theorem made_sl (n i : Nat) (h : i < n) : (madeCells #[.slice none 0 0] n).toList[i]? = some (.slice none 0 0) := by
  rw [toList_madeCells_one]
  simp [h]
theorem Try.info33 : (Try.prog.info? 33).map (fun i => (i.zero, i.size, i.bytes)) = some (some (.slice none 0 0), 1, 24) := by kernel_rfl
/-- A row of n noughts that was made. -/
structure Made7 (w : World) (F n : Nat) : Prop where
  lt : F < w.heap.size
  fz : ∀ o, w.frozen? ⟨F, o, none⟩ = false
  el : ∀ j, j < n → w.cell? ⟨F, j * 2, none⟩ = some (.bool false) ∧ w.cell? ⟨F, j * 2 + 1, none⟩ = some (.slice none 0 0)
theorem made7_of {w : World} {B F n : Nat} (h : w.ownsRow B 27 2 (.slice (some ⟨F, 0, none⟩) n n) n (madeCells #[.bool false, .slice none 0 0] (n * 2)).toList) : Made7 w F n := by
  refine ⟨?_, h.frozenAt, fun j hj => ?_⟩
  · rcases h.2 with ⟨h', _⟩ | ⟨g', cap, cur, hv, _, hg, _⟩
    · simp at h'
    · simp only [Value.slice.injEq, Option.some.injEq, Addr.mk.injEq, and_true, true_and] at hv
      have := (Array.getElem?_eq_some_iff.1 hg).1
      omega
  · rw [h.cellAt _ (by omega), h.cellAt _ (by omega)]
    exact made_big n j hj
/-- A list of n rows that was made, none in it yet. -/
structure MadeO (w : World) (G n m : Nat) : Prop where
  lt : G < w.heap.size
  fz : ∀ o, w.frozen? ⟨G, o, none⟩ = false
  el : ∀ i, m ≤ i → i < n → w.cell? ⟨G, i, none⟩ = some (.slice none 0 0)
theorem madeO_of {w : World} {B G n : Nat} (h : w.ownsRow B 33 1 (.slice (some ⟨G, 0, none⟩) n n) n (madeCells #[.slice none 0 0] n).toList) : MadeO w G n 0 := by
  refine ⟨?_, h.frozenAt, fun i _ hi => ?_⟩
  · rcases h.2 with ⟨h', _⟩ | ⟨g', cap, cur, hv, _, hg, _⟩
    · simp at h'
    · simp only [Value.slice.injEq, Option.some.injEq, Addr.mk.injEq, and_true, true_and] at hv
      have := (Array.getElem?_eq_some_iff.1 hg).1
      omega
  · rw [h.cellAt _ (by omega)]
    exact made_sl n i hi
theorem MadeO.later {w w' : World} {G n m : Nat} (h : MadeO w G n m) (hb : Below w.heap.size w w') : MadeO w' G n m := ⟨Nat.lt_of_lt_of_le h.lt hb.size, fun o => frozen_later hb h.lt (h.fz o), fun i h1 h2 => cell_later hb (h.el i h1 h2)⟩
theorem MadeO.but {w w' : World} {G n m F : Nat} (h : MadeO w G n m) (hb : But F (F + 1) w w') (hne : F ≠ G) : MadeO w' G n m := ⟨Nat.lt_of_lt_of_le h.lt hb.size, fun o => hb.fz7 (h.fz o) h.lt (by omega), fun i h1 h2 => hb.cell (h.el i h1 h2) (by omega)⟩
/-- A row of noughts is laid as the next one. -/
theorem MatW.lay {lo G n m F : Nat} {w w1 : World} {R : Nat → Nat} {M M' : Nat → Nat → Int} (h : MatW lo w G m n R M) (hO : MadeO w G n m) (hm : m < n) (hnm : n ≤ maxLen) (hb : Below w.heap.size w w1) (hF : F = w.heap.size) (hx : Made7 w1 F n) (hlo : lo ≤ w.heap.size) (e : ∀ i j, i < m → j < n → M' i j = M i j) (e0 : ∀ j, j < n → M' m j = 0) :
    ∃ R', MatW lo (w1.setCell ⟨G, m, none⟩ (.slice (some ⟨F, 0, none⟩) n n)) G (m + 1) n R' M' ∧ MadeO (w1.setCell ⟨G, m, none⟩ (.slice (some ⟨F, 0, none⟩) n n)) G n (m + 1) := by
  have h1 := h.later hb
  have hO1 := hO.later hb
  have lt := h.ghi
  have bt : But G (G + 1) w1 (w1.setCell ⟨G, m, none⟩ (.slice (some ⟨F, 0, none⟩) n n)) := (But.refl _ _ _).set (p := ⟨G, m, none⟩) (Nat.le_refl G) (Nat.lt_succ_self G) _
  have hs := bt.size
  have c0 := hO1.el m (Nat.le_refl _) hm
  -- what lies in the list of rows is no number
  have hR : ∀ i, i < m → R i < w.heap.size := fun i hi => (h.rlo i hi).2.1
  have h2 : MatW lo (w1.setCell ⟨G, m, none⟩ (.slice (some ⟨F, 0, none⟩) n n)) G m n R M := by
    have z0 : ∃ v, w1.cell? ⟨G, 0, none⟩ = some v ∧ NotI v := by
      by_cases e : m = 0
      · subst e; exact ⟨_, c0, notI_s _ _ _⟩
      · obtain ⟨c, k1, _⟩ := h1.out 0 (by omega)
        exact ⟨_, k1, notI_s _ _ _⟩
    obtain ⟨v, z1, z2⟩ := z0
    refine ⟨h1.glo, Nat.lt_of_lt_of_le h1.ghi hs, fun i hi => ?_, fun o => ?_, fun i hi => ?_, fun i hi o => ?_, h1.inj, fun i j hi hj => ?_⟩
    · obtain ⟨c, k1, k2⟩ := h1.out i hi
      exact ⟨c, cs7_skip k1 (.inr (by omega)), k2⟩
    · simp only [World.frozen?_setCell]; exact h1.gfz o
    · obtain ⟨k1, k2, k3⟩ := h1.rlo i hi
      exact ⟨k1, Nat.lt_of_lt_of_le k2 hs, k3⟩
    · simp only [World.frozen?_setCell]; exact h1.rfz i hi o
    · obtain ⟨b, k1, k2, k3⟩ := h1.el i j hi hj
      have := (h1.rlo i hi).2.2
      exact ⟨b, cs7_skip k1 (.inl this), cs7_skip k2 (.inl this), (k3.blk bt z1 z2).wide (Nat.le_refl _) hs⟩
  have hx2 : ∀ j, j < n → (w1.setCell ⟨G, m, none⟩ (.slice (some ⟨F, 0, none⟩) n n)).cell? ⟨F, j * 2, none⟩ = some (.bool false) ∧ (w1.setCell ⟨G, m, none⟩ (.slice (some ⟨F, 0, none⟩) n n)).cell? ⟨F, j * 2 + 1, none⟩ = some (.slice none 0 0) := fun j hj => by
    obtain ⟨k1, k2⟩ := hx.el j hj
    exact ⟨cs7_skip k1 (.inl (by omega)), cs7_skip k2 (.inl (by omega))⟩
  refine ⟨_, h2.more (M' := M') (Nat.le_refl n) hnm (F := F) (by omega) (Nat.lt_of_lt_of_le hx.lt hs) (by omega) (fun i hi => by have := hR i hi; omega) (fun o => by simp only [World.frozen?_setCell]; exact hx.fz o) (cs7_hit c0) (fun j hj => ⟨⟨false, none, 0, 0⟩, (hx2 j hj).1, (hx2 j hj).2, ?_⟩) e, ?_⟩
  · rw [e0 j hj]; exact Ow.nought7 _ _ _
  · exact ⟨Nat.lt_of_lt_of_le hO1.lt hs, fun o => by simp only [World.frozen?_setCell]; exact hO1.fz o, fun i a b => cs7_skip (hO1.el i (by omega) b) (.inr (by omega))⟩
end Go.Proofs.Ytaaajmdneaaeeaa
namespace Go.Proofs.Ytaaajmdneaaeeaa
open Go.RowKit
set_option linter.unusedVariables false
set_option maxRecDepth 100000
set_option linter.unusedSimpArgs false

/-- N cells of a block. -/
structure Arr (w : World) (F N : Nat) (f : Nat → Value) : Prop where
  lt : F < w.heap.size
  fz : ∀ o, o < N → w.frozen? ⟨F, o, none⟩ = false
  el : ∀ p, p < N → w.cell? ⟨F, p, none⟩ = some (f p)
theorem Arr.later {w w' : World} {F N : Nat} {f : Nat → Value} (h : Arr w F N f) (hb : Below w.heap.size w w') : Arr w' F N f := ⟨Nat.lt_of_lt_of_le h.lt hb.size, fun o ho => frozen_later hb h.lt (h.fz o ho), fun p hp => cell_later hb (h.el p hp)⟩
theorem Arr.but {w w' : World} {F N H : Nat} {f : Nat → Value} (h : Arr w F N f) (hb : But H (H + 1) w w') (hne : F ≠ H) : Arr w' F N f := ⟨Nat.lt_of_lt_of_le h.lt hb.size, fun o ho => hb.fz7 (h.fz o ho) h.lt (by omega), fun p hp => hb.cell (h.el p hp) (by omega)⟩
theorem Arr.set {w : World} {F N p : Nat} {f f' : Nat → Value} {v : Value} (h : Arr w F N f) (hp : p < N) (e : ∀ q, q < N → f' q = if q = p then v else f q) : Arr (w.setCell ⟨F, p, none⟩ v) F N f' := by
  refine ⟨Nat.lt_of_lt_of_le h.lt (by simp [World.setCell]), fun o ho => by simp only [World.frozen?_setCell]; exact h.fz o ho, fun q hq => ?_⟩
  rw [e q hq]
  by_cases c : q = p
  · subst c; rw [if_pos rfl]; exact cs7_hit (h.el q hq)
  · rw [if_neg c]; exact cs7_skip (h.el q hq) (.inr c)
theorem Arr.range {w : World} {F N : Nat} {f : Nat → Value} (h : Arr w F N f) {o n : Nat} (hn : o + n ≤ N) : w.rangeAt F o ((List.range n).map (fun j => f (o + j))) := fun j v hv => by
  have hj : j < n := by simpa using (List.getElem?_eq_some_iff.1 hv).1
  rw [List.getElem?_map, List.getElem?_range hj] at hv
  rw [h.el _ (by omega)]
  simpa using hv
end Go.Proofs.Ytaaajmdneaaeeaa
namespace Go.Proofs.Ytaaajmdneaaeeaa
open Go.RowKit
set_option linter.unusedVariables false
set_option maxRecDepth 100000
set_option linter.unusedSimpArgs false

theorem c3 : Try.prog.cellsOf 3 = 1 := by kernel_rfl
theorem c4 : Try.prog.cellsOf 4 = 1 := by kernel_rfl
end Go.Proofs.Ytaaajmdneaaeeaa
namespace Go.Proofs.Ytaaajmdneaaeeaa
open Go.RowKit
set_option linter.unusedVariables false
set_option maxRecDepth 100000
set_option linter.unusedSimpArgs false

/-- The limbs of a number with the other sign are its own. -/
theorem turnI_v (b : BV) (V : Int) (lo hi : Nat) (w : World) (h : Ow lo hi w b V) : Calls Try.prog 76 #[.agg #[.bool b.g, .slice b.a b.n b.c]] w fun e w' => ∃ x : BV, e = .returned (.agg #[.bool x.g, .slice x.a x.n x.c]) ∧ Below w.heap.size w w' ∧ Ow lo hi w' x (-V) := by
  obtain ⟨xs, k1, k2, k3⟩ := h
  have O := hide (k1.own (b, ⟨decide (V < 0), xs⟩) (List.mem_singleton.2 rfl)).own
  have A := hide k2.head.ar
  have sg : b.g = decide (V < 0) := k2.head.sg
  have NX := hide k3
  have SX : Hid (sU (!b.g) (V.natAbs : Int) = -V) := hide (by rw [sg]; unfold sU; by_cases e : V < 0 <;> simp [e] <;> omega)
  clear k1 k2 k3 sg
  have B0 := hide (show Below w.heap.size w ((w.alloc (.cells #[.bool b.g, .slice b.a b.n b.c] 27)).alloc (.cells #[.bool false, .slice none 0 0] 27)) from (((Below.refl _ _).alloc (by simp) _).alloc (by simp) _))
  go_enter Try.func76, Try.ntmps76
  go_wp2_with fail
  refine (signI_v _ b.a b.n b.c xs _ lo hi _ ((unhide A).later (unhide B0)) ((unhide O).later (unhide B0)) (unhide NX)).mono ?_
  rintro e w1 ⟨x1, rfl, hb, ow, ar⟩
  rw [unhide SX] at ow ar
  have OW := hide (outN_ow ow ar (by rw [Int.natAbs_neg]; exact unhide NX))
  have s1 : w.heap.size + 2 ≤ w1.heap.size := by have := hb.size; simp at this; omega
  have k1_0 : w1.cell? ⟨w.heap.size + 1, 0, none⟩ = some (.bool false) := cell_later hb (by simp [go_sem])
  have k1_1 : w1.cell? ⟨w.heap.size + 1, 1, none⟩ = some (.slice none 0 0) := cell_later hb (by simp [go_sem])
  have z1 : ∀ o, w1.frozen? ⟨w.heap.size + 1, o, none⟩ = false := fun o => frozen_later hb (by simp) (by simp [go_sem])
  have HB := hide (below_on (unhide B0) hb)
  clear hb
  clear ow ar
  go_wp2
  refine bodyPost_ret (v := .agg #[.bool x1.g, .slice x1.a x1.n x1.c]) (by simp [results, Try.results76, go_sem, k1_0, k1_1]) rfl ?_
  exact ⟨x1, rfl, (metB_but (w5 := w1) (v := x1) (G := w.heap.size + 1)).below (unhide HB) (by omega) (unhide HB).size, (unhide OW).blk (metB_but (w5 := w1) (v := x1) (G := w.heap.size + 1)) k1_0 (notI_b _)⟩
end Go.Proofs.Ytaaajmdneaaeeaa
namespace Go.Proofs.Ytaaajmdneaaeeaa
open Go.RowKit
set_option linter.unusedVariables false
set_option maxRecDepth 100000
set_option linter.unusedSimpArgs false

end Go.Proofs.Ytaaajmdneaaeeaa
namespace Go.Proofs.Ytaaajmdneaaeeaa
open Go.RowKit
set_option linter.unusedVariables false
set_option maxRecDepth 100000
set_option linter.unusedSimpArgs false

end Go.Proofs.Ytaaajmdneaaeeaa
namespace Go.Proofs.Ytaaajmdneaaeeaa
open Go.RowKit
set_option linter.unusedVariables false
set_option maxRecDepth 100000
set_option linter.unusedSimpArgs false

theorem fct_small {k : Nat} (h : k ≤ 8) : fct k < 65536 := by
  have : k = 0 ∨ k = 1 ∨ k = 2 ∨ k = 3 ∨ k = 4 ∨ k = 5 ∨ k = 6 ∨ k = 7 ∨ k = 8 := by omega
  rcases this with rfl | rfl | rfl | rfl | rfl | rfl | rfl | rfl | rfl <;> decide
theorem bd_of_abs {V : Int} {k : Nat} (hk : k ≤ 8) (h : V.natAbs ≤ fct k * (65536 ^ 3) ^ k) : Bd V 25 := by
  constructor
  have h1 : fct k * (65536 ^ 3) ^ k < 65536 * (65536 ^ 3) ^ k := Nat.mul_lt_mul_of_pos_right (fct_small hk) (Nat.pow_pos (Nat.pow_pos (by omega)))
  have h2 : 65536 * (65536 ^ 3) ^ k = 65536 ^ (3 * k + 1) := by rw [← Nat.pow_mul, Nat.pow_succ, Nat.mul_comm]
  have h3 : 65536 ^ (3 * k + 1) ≤ 65536 ^ 25 := Nat.pow_le_pow_right (by omega) (by omega)
  omega
theorem abs_of_bd {V : Int} (h : Bd V 3) : V.natAbs ≤ 65536 ^ 3 := Nat.le_of_lt h.lt
/-- What lies in memory at a step: the matrix, and the box of the last number. -/
structure St7 (lo : Nat) (w : World) (G L n : Nat) (R : Nat → Nat) (M : Nat → Nat → Int) (l : Int) : Prop where
  m : MatW lo w G n n R M
  llo : lo ≤ L
  lG : L ≠ G
  lR : ∀ i, i < n → L ≠ R i
  lf : ∀ o, w.frozen? ⟨L, o, none⟩ = false
  b : ∃ b : BV, w.cell? ⟨L, 0, none⟩ = some (.bool b.g) ∧ w.cell? ⟨L, 1, none⟩ = some (.slice b.a b.n b.c) ∧ Ow lo w.heap.size w b l
theorem St7.later {lo : Nat} {w w' : World} {G L n : Nat} {R : Nat → Nat} {M : Nat → Nat → Int} {l : Int} (h : St7 lo w G L n R M l) (hb : Below w.heap.size w w') : St7 lo w' G L n R M l := by
  obtain ⟨b, h1, h2, h3⟩ := h.b
  have := World.block_lt_of_cell? _ _ h1
  exact ⟨h.m.later hb, h.llo, h.lG, h.lR, fun o => frozen_later hb this (h.lf o), b, cell_later hb h1, cell_later hb h2, (h3.later hb).wide (Nat.le_refl _) hb.size⟩
/-- A row of the matrix has changed. -/
theorem St7.row {lo : Nat} {w w' : World} {G L n i : Nat} {R : Nat → Nat} {M M' : Nat → Nat → Int} {l : Int} (h : St7 lo w G L n R M l) (hi : i < n) (hb : But (R i) (R i + 1) w w') (hm : MatW lo w' G n n R M') : St7 lo w' G L n R M' l := by
  obtain ⟨b, h1, h2, h3⟩ := h.b
  have h0 := World.block_lt_of_cell? _ _ h1
  have hne := h.lR i hi
  obtain ⟨bz, z0, _⟩ := h.m.el i 0 hi (by omega)
  exact ⟨hm, h.llo, h.lG, h.lR, fun o => hb.fz7 (h.lf o) h0 (by omega), b, hb.cell h1 (by omega), hb.cell h2 (by omega), (h3.blk hb z0 (notI_b _)).wide (Nat.le_refl _) hb.size⟩
/-- The list of rows has changed. -/
theorem St7.rows {lo : Nat} {w w' : World} {G L n : Nat} {R R' : Nat → Nat} {M M' : Nat → Nat → Int} {l : Int} (h : St7 lo w G L n R M l) (h0 : 0 < n) (hb : But G (G + 1) w w') (hm : MatW lo w' G n n R' M') (hR : ∀ i, i < n → L ≠ R' i) : St7 lo w' G L n R' M' l := by
  obtain ⟨b, h1, h2, h3⟩ := h.b
  have hl := World.block_lt_of_cell? _ _ h1
  have hne := h.lG
  obtain ⟨c, z0, _⟩ := h.m.out 0 h0
  exact ⟨hm, h.llo, h.lG, hR, fun o => hb.fz7 (h.lf o) hl (by omega), b, hb.cell h1 (by omega), hb.cell h2 (by omega), (h3.blk hb z0 (notI_s _ _ _)).wide (Nat.le_refl _) hb.size⟩
/-- The last number has changed. -/
theorem St7.last {lo : Nat} {w : World} {G L n : Nat} {R : Nat → Nat} {M : Nat → Nat → Int} {l l' : Int} {u : BV} (h : St7 lo w G L n R M l) (ho : Ow lo w.heap.size w u l') : St7 lo ((w.setCell ⟨L, 0, none⟩ (.bool u.g)).setCell ⟨L, 1, none⟩ (.slice u.a u.n u.c)) G L n R M l' := by
  obtain ⟨b, h1, h2, h3⟩ := h.b
  have hb : But L (L + 1) w ((w.setCell ⟨L, 0, none⟩ (.bool u.g)).setCell ⟨L, 1, none⟩ (.slice u.a u.n u.c)) := metB_but
  refine ⟨h.m.but hb h1 (notI_b _) h.lG h.lR, h.llo, h.lG, h.lR, fun o => by simp only [World.frozen?_setCell]; exact h.lf o, u, cs7_skip (cs7_hit h1) (.inr (by omega)), cs7_hit (cs7_skip h2 (.inr (by omega))), (ho.blk hb h1 (notI_b _)).wide (Nat.le_refl _) hb.size⟩
theorem out_of_ow {w w' : World} {lo hi : Nat} {b : BV} {V : Int} (h : Ow lo hi w' b V) (hl : w.heap.size ≤ lo) (hh : hi ≤ w'.heap.size) (hb : Below w.heap.size w w') : OutN w V (.returned (.agg #[.bool b.g, .slice b.a b.n b.c])) w' := by
  obtain ⟨xs, k1, k2, k3⟩ := h
  exact ⟨b, xs, rfl, hb, k1.wide hl hh, k2, k3⟩
/-- The box of the answer. -/
structure Rs7 (w : World) (H : Nat) : Prop where
  c : ∃ b : BV, w.cell? ⟨H, 0, none⟩ = some (.bool b.g) ∧ w.cell? ⟨H, 1, none⟩ = some (.slice b.a b.n b.c)
  f : ∀ o, w.frozen? ⟨H, o, none⟩ = false
theorem Rs7.later {w w' : World} {H : Nat} (h : Rs7 w H) (hb : Below w.heap.size w w') : Rs7 w' H := by
  obtain ⟨b, h1, h2⟩ := h.c
  exact ⟨⟨b, cell_later hb h1, cell_later hb h2⟩, fun o => frozen_later hb (World.block_lt_of_cell? _ _ h1) (h.f o)⟩
theorem Rs7.but {w w' : World} {H F : Nat} (h : Rs7 w H) (hb : But F (F + 1) w w') (hne : H ≠ F) : Rs7 w' H := by
  obtain ⟨b, h1, h2⟩ := h.c
  exact ⟨⟨b, hb.cell h1 (by omega), hb.cell h2 (by omega)⟩, fun o => hb.fz7 (h.f o) (World.block_lt_of_cell? _ _ h1) (by omega)⟩
end Go.Proofs.Ytaaajmdneaaeeaa
namespace Go.Proofs.Ytaaajmdneaaeeaa
open Go.RowKit
set_option linter.unusedVariables false
set_option maxRecDepth 100000
set_option linter.unusedSimpArgs false

/-- A row of n numbers of its own. -/
structure RowW (lo : Nat) (w : World) (F n : Nat) (V : Nat → Int) : Prop where
  lt : F < w.heap.size
  fz : ∀ o, w.frozen? ⟨F, o, none⟩ = false
  el : ∀ j, j < n → ∃ b : BV, w.cell? ⟨F, j * 2, none⟩ = some (.bool b.g) ∧ w.cell? ⟨F, j * 2 + 1, none⟩ = some (.slice b.a b.n b.c) ∧ Ow lo w.heap.size w b (V j)
theorem RowW.later {lo : Nat} {w w' : World} {F n : Nat} {V : Nat → Int} (h : RowW lo w F n V) (hb : Below w.heap.size w w') : RowW lo w' F n V := by
  refine ⟨Nat.lt_of_lt_of_le h.lt hb.size, fun o => frozen_later hb h.lt (h.fz o), fun j hj => ?_⟩
  obtain ⟨b, h1, h2, h3⟩ := h.el j hj
  exact ⟨b, cell_later hb h1, cell_later hb h2, (h3.later hb).wide (Nat.le_refl _) hb.size⟩
theorem RowW.set {lo : Nat} {w : World} {F n j : Nat} {V V' : Nat → Int} {u : BV} (h : RowW lo w F n V) (hj : j < n) (ho : Ow lo w.heap.size w u (V' j)) (e : ∀ c, c < n → c ≠ j → V' c = V c) : RowW lo ((w.setCell ⟨F, j * 2, none⟩ (.bool u.g)).setCell ⟨F, j * 2 + 1, none⟩ (.slice u.a u.n u.c)) F n V' := by
  have hb : But F (F + 1) w ((w.setCell ⟨F, j * 2, none⟩ (.bool u.g)).setCell ⟨F, j * 2 + 1, none⟩ (.slice u.a u.n u.c)) := but_row7
  obtain ⟨b0, z1, _⟩ := h.el 0 (by omega)
  refine ⟨Nat.lt_of_lt_of_le h.lt hb.size, fun o => by simp only [World.frozen?_setCell]; exact h.fz o, fun c hc => ?_⟩
  obtain ⟨b, h1, h2, h3⟩ := h.el c hc
  by_cases e2 : c = j
  · subst e2
    exact ⟨u, cs7_skip (cs7_hit h1) (.inr (by omega)), cs7_hit (cs7_skip h2 (.inr (by omega))), (ho.blk hb z1 (notI_b _)).wide (Nat.le_refl _) hb.size⟩
  · exact ⟨b, cs7_skip (cs7_skip h1 (.inr (by omega))) (.inr (by omega)), cs7_skip (cs7_skip h2 (.inr (by omega))) (.inr (by omega)), by rw [e c hc e2]; exact (h3.blk hb z1 (notI_b _)).wide (Nat.le_refl _) hb.size⟩
theorem RowW.made {lo : Nat} {w : World} {F n : Nat} {V : Nat → Int} (h : Made7 w F n) (e : ∀ j, j < n → V j = 0) : RowW lo w F n V := ⟨h.lt, h.fz, fun j hj => ⟨⟨false, none, 0, 0⟩, (h.el j hj).1, (h.el j hj).2, by rw [e j hj]; exact Ow.nought7 _ _ _⟩⟩
theorem RowW.congr {lo : Nat} {w : World} {F n : Nat} {V V' : Nat → Int} (h : RowW lo w F n V) (e : ∀ j, j < n → V j = V' j) : RowW lo w F n V' := ⟨h.lt, h.fz, fun j hj => by rw [← e j hj]; exact h.el j hj⟩
end Go.Proofs.Ytaaajmdneaaeeaa
namespace Go.Proofs.Ytaaajmdneaaeeaa
open Go.RowKit
set_option linter.unusedVariables false
set_option maxRecDepth 100000
set_option linter.unusedSimpArgs false

/-- Limbs stay where a row of another kind grows. -/
theorem Ow.gr7 {lo hi B size n : Nat} {T : TypeId} {w w' : World} {b : BV} {V : Int} {v : Value} {M : List Value} (h : Ow lo hi w b V) (hg : w.grownBy w' v.ownBlock) (hr : w.ownsRow B T size v n M) (hT : T ≠ 3) : Ow lo hi w' b V := by
  obtain ⟨xs, k1, k2, k3⟩ := h
  have o : AllOwn lo hi w' [(b, ⟨decide (V < 0), xs⟩)] := ⟨fun p hp => by
    have hp := List.mem_singleton.1 hp
    subst hp
    have q := k1.own _ (List.mem_singleton.2 rfl)
    refine ⟨q.sg, ?_, q.len⟩
    rcases q.own with e | ⟨bb, cur, ea, h1, h2, hb, hx⟩
    · exact .inl e
    · refine .inr ⟨bb, cur, ea, h1, h2, ?_, hx⟩
      rw [hg.block bb (Array.getElem?_eq_some_iff.1 hb).1 (fun eb => ?_)]
      · exact hb
      · rcases hr.2 with ⟨h', _⟩ | ⟨g', cap, cur', hv, _, hgt, _⟩
        · rw [h'] at eb; simp [Value.ownBlock] at eb
        · rw [hv] at eb
          simp only [Value.ownBlock, Option.some.injEq] at eb
          subst eb
          rw [hb] at hgt
          simp only [Option.some.injEq, Obj.cells.injEq] at hgt
          exact hT hgt.2.1.symm, List.pairwise_singleton _ _⟩
  exact ⟨xs, o, fun p hp => ⟨(k2 p hp).sg, ⟨(o.sl p hp).sl, (k2 p hp).ar.len, (k2 p hp).ar.cap, (k2 p hp).ar.top, (k2 p hp).ar.addr⟩⟩, k3⟩
theorem owns_later7 {w w' : World} {B size n : Nat} {e : TypeId} {v : Value} {M : List Value} (h : w.ownsRow B e size v n M) (hb : Below w.heap.size w w') : w'.ownsRow B e size v n M := by
  refine ⟨h.1, ?_⟩
  rcases h.2 with h' | ⟨g', cap, cur, hv, h1, hg, r⟩
  · exact .inl h'
  · refine .inr ⟨g', cap, cur, hv, h1, ?_, r⟩
    rw [hb.block g' (Array.getElem?_eq_some_iff.1 hg).1]
    exact hg
theorem owns_gr7 {w w' : World} {B size n : Nat} {e : TypeId} {v : Value} {M : List Value} {r : Option Nat} (h : w.ownsRow B e size v n M) (hg : w.grownBy w' r) (hne : ∀ g, v.ownBlock = some g → r ≠ some g) : w'.ownsRow B e size v n M := by
  refine ⟨h.1, ?_⟩
  rcases h.2 with h' | ⟨g', cap, cur, hv, h1, hb, r'⟩
  · exact .inl h'
  · refine .inr ⟨g', cap, cur, hv, h1, ?_, r'⟩
    rw [hg.block g' (Array.getElem?_eq_some_iff.1 hb).1 (fun e => hne g' (by rw [hv]; rfl) e.symm)]
    exact hb
theorem owns_lt7 {w : World} {B size n g : Nat} {e : TypeId} {v : Value} {M : List Value} (h : w.ownsRow B e size v n M) (hv : v.ownBlock = some g) : g < w.heap.size ∧ B ≤ g := by
  rcases h.2 with ⟨h', _⟩ | ⟨g', cap, cur, hv', h1, hb, r'⟩
  · rw [h'] at hv; simp [Value.ownBlock] at hv
  · rw [hv'] at hv
    simp only [Value.ownBlock, Option.some.injEq] at hv
    subst hv
    exact ⟨(Array.getElem?_eq_some_iff.1 hb).1, h1⟩
theorem owns_ty7 {w : World} {B B' size size' n n' g : Nat} {e e' : TypeId} {v v' : Value} {M M' : List Value} (h : w.ownsRow B e size v n M) (h' : w.ownsRow B' e' size' v' n' M') (hv : v.ownBlock = some g) (hv' : v'.ownBlock = some g) : e = e' := by
  rcases h.2 with ⟨q, _⟩ | ⟨g1, cap, cur, q, h1, hb, r⟩
  · rw [q] at hv; simp [Value.ownBlock] at hv
  rcases h'.2 with ⟨q', _⟩ | ⟨g2, cap', cur', q', h1', hb', r'⟩
  · rw [q'] at hv'; simp [Value.ownBlock] at hv'
  rw [q] at hv
  rw [q'] at hv'
  simp only [Value.ownBlock, Option.some.injEq] at hv hv'
  subst hv
  subst hv'
  rw [hb] at hb'
  simp only [Option.some.injEq, Obj.cells.injEq] at hb'
  exact hb'.2.1
/-- A row of numbers that grows. -/
structure RowG (lo : Nat) (w : World) (v : Value) (n : Nat) (V : Nat → Int) : Prop where
  ex : ∃ xs, w.ownsRow lo 27 2 v n xs ∧ ∀ j, j < n → ∃ b : BV, xs[j * 2]? = some (.bool b.g) ∧ xs[j * 2 + 1]? = some (.slice b.a b.n b.c) ∧ Ow lo w.heap.size w b (V j)
theorem RowG.nil (lo : Nat) (w : World) (V : Nat → Int) : RowG lo w (.slice none 0 0) 0 V := ⟨[], ⟨rfl, .inl ⟨rfl, rfl⟩⟩, fun j hj => by omega⟩
theorem RowG.later {lo : Nat} {w w' : World} {v : Value} {n : Nat} {V : Nat → Int} (h : RowG lo w v n V) (hb : Below w.heap.size w w') : RowG lo w' v n V := by
  obtain ⟨xs, h1, h2⟩ := h.ex
  refine ⟨xs, owns_later7 h1 hb, fun j hj => ?_⟩
  obtain ⟨b, k1, k2, k3⟩ := h2 j hj
  exact ⟨b, k1, k2, (k3.later hb).wide (Nat.le_refl _) hb.size⟩
/-- m rows of n numbers each, each at a block of its own. -/
structure MatR (lo : Nat) (w : World) (m n : Nat) (R : Nat → Nat) (M : Nat → Nat → Int) : Prop where
  rlo : ∀ i, i < m → lo ≤ R i ∧ R i < w.heap.size
  rfz : ∀ i, i < m → ∀ o, w.frozen? ⟨R i, o, none⟩ = false
  inj : ∀ i j, i < m → j < m → i ≠ j → R i ≠ R j
  ty : ∀ i, i < m → ∃ cur, w.heap[R i]? = some (.cells cur 27 (0, 0))
  el : ∀ i j, i < m → j < n → ∃ b : BV, w.cell? ⟨R i, j * 2, none⟩ = some (.bool b.g) ∧ w.cell? ⟨R i, j * 2 + 1, none⟩ = some (.slice b.a b.n b.c) ∧ Ow lo w.heap.size w b (M i j)
theorem MatR.later {lo : Nat} {w w' : World} {m n : Nat} {R : Nat → Nat} {M : Nat → Nat → Int} (h : MatR lo w m n R M) (hb : Below w.heap.size w w') : MatR lo w' m n R M := by
  have hs := hb.size
  refine ⟨fun i hi => ⟨(h.rlo i hi).1, Nat.lt_of_lt_of_le (h.rlo i hi).2 hs⟩, fun i hi o => frozen_later hb (h.rlo i hi).2 (h.rfz i hi o), h.inj, fun i hi => ?_, fun i j hi hj => ?_⟩
  · obtain ⟨cur, k⟩ := h.ty i hi
    exact ⟨cur, (hb.block (R i) (h.rlo i hi).2).trans k⟩
  obtain ⟨b, h1, h2, h3⟩ := h.el i j hi hj
  exact ⟨b, cell_later hb h1, cell_later hb h2, (h3.later hb).wide (Nat.le_refl _) hs⟩
theorem cell_gr7 {w w' : World} {r : Option Nat} {b o : Nat} {x : Value} (hg : w.grownBy w' r) (h : w.cell? ⟨b, o, none⟩ = some x) (hne : r ≠ some b) : w'.cell? ⟨b, o, none⟩ = some x :=
  (World.cell?_of_block (hg.block b (World.block_lt_of_cell? _ _ h) (fun e => hne e.symm))).trans h
theorem frozen_gr7 {w w' : World} {r : Option Nat} {b o : Nat} {x : Bool} (hg : w.grownBy w' r) (h : w.frozen? ⟨b, o, none⟩ = x) (hb : b < w.heap.size) (hne : r ≠ some b) : w'.frozen? ⟨b, o, none⟩ = x :=
  (World.frozen?_of_block (a := ⟨b, o, none⟩) (hg.block b hb (fun e => hne e.symm))).trans h
theorem MatR.gr {lo B size k : Nat} {T : TypeId} {w w' : World} {m n : Nat} {R : Nat → Nat} {M : Nat → Nat → Int} {v : Value} {xs : List Value} (h : MatR lo w m n R M) (hg : w.grownBy w' v.ownBlock) (hr : w.ownsRow B T size v k xs) (hT : T ≠ 3) (hne : ∀ i, i < m → v.ownBlock ≠ some (R i)) : MatR lo w' m n R M := by
  have hs := hg.size
  refine ⟨fun i hi => ⟨(h.rlo i hi).1, Nat.lt_of_lt_of_le (h.rlo i hi).2 hs⟩, fun i hi o => frozen_gr7 hg (h.rfz i hi o) (h.rlo i hi).2 (hne i hi), h.inj, fun i hi => ?_, fun i j hi hj => ?_⟩
  · obtain ⟨cur, k⟩ := h.ty i hi
    exact ⟨cur, (hg.block (R i) (h.rlo i hi).2 (fun e => hne i hi e.symm)).trans k⟩
  obtain ⟨b, h1, h2, h3⟩ := h.el i j hi hj
  exact ⟨b, cell_gr7 hg h1 (hne i hi), cell_gr7 hg h2 (hne i hi), (h3.gr7 hg hr hT).wide (Nat.le_refl _) hs⟩
theorem MatR.congr {lo : Nat} {w : World} {m n : Nat} {R : Nat → Nat} {M M' : Nat → Nat → Int} (h : MatR lo w m n R M) (e : ∀ i j, i < m → j < n → M i j = M' i j) : MatR lo w m n R M' :=
  ⟨h.rlo, h.rfz, h.inj, h.ty, fun i j hi hj => by rw [← e i j hi hj]; exact h.el i j hi hj⟩
/-- A row that has grown is one row more. -/
theorem MatR.more {lo : Nat} {w : World} {m n g cap : Nat} {R : Nat → Nat} {M M' : Nat → Nat → Int} (h : MatR lo w m n R M) (hr : RowG lo w (.slice (some ⟨g, 0, none⟩) n cap) n (M' m)) (hne : ∀ i, i < m → g ≠ R i) (e : ∀ i j, i < m → j < n → M' i j = M i j) : MatR lo w (m + 1) n (fun i => if i = m then g else R i) M' := by
  obtain ⟨xs, h1, h2⟩ := hr.ex
  have hg := owns_lt7 h1 rfl
  refine ⟨fun i hi => ?_, fun i hi o => ?_, fun i j hi hj hne' => ?_, fun i hi => ?_, fun i j hi hj => ?_⟩
  · by_cases c : i = m
    · rw [if_pos c]; exact ⟨hg.2, hg.1⟩
    · rw [if_neg c]; exact h.rlo i (by omega)
  · by_cases c : i = m
    · rw [if_pos c]; exact h1.frozenAt o
    · rw [if_neg c]; exact h.rfz i (by omega) o
  · by_cases c : i = m
    · rw [if_pos c, if_neg (by omega)]; exact hne j (by omega)
    · by_cases c2 : j = m
      · rw [if_neg c, if_pos c2]; exact (hne i (by omega)).symm
      · rw [if_neg c, if_neg c2]; exact h.inj i j (by omega) (by omega) hne'
  · by_cases c : i = m
    · rw [if_pos c]
      rcases h1.2 with ⟨h', _⟩ | ⟨g', cap', cur, hv, _, hgt, _⟩
      · simp at h'
      · simp only [Value.slice.injEq, Option.some.injEq, Addr.mk.injEq, and_true, true_and] at hv
        obtain ⟨rfl, _⟩ := hv
        exact ⟨cur, hgt⟩
    · rw [if_neg c]; exact h.ty i (by omega)
  · by_cases c : i = m
    · subst c
      rw [if_pos rfl]
      obtain ⟨b, k1, k2, k3⟩ := h2 j hj
      exact ⟨b, by rw [h1.cellAt _ (by omega)]; exact k1, by rw [h1.cellAt _ (by omega)]; exact k2, k3⟩
    · rw [if_neg c, e i j (by omega) hj]; exact h.el i j (by omega) hj
/-- The list of rows that grows. -/
structure OutG (lo : Nat) (w : World) (v : Value) (m n : Nat) (R : Nat → Nat) : Prop where
  ex : ∃ xs, w.ownsRow lo 33 1 v m xs ∧ ∀ i, i < m → ∃ c, xs[i]? = some (.slice (some ⟨R i, 0, none⟩) n c) ∧ n ≤ c ∧ c ≤ maxLen
theorem OutG.nil (lo : Nat) (w : World) (n : Nat) (R : Nat → Nat) : OutG lo w (.slice none 0 0) 0 n R := ⟨[], ⟨rfl, .inl ⟨rfl, rfl⟩⟩, fun j hj => by omega⟩
theorem OutG.later {lo : Nat} {w w' : World} {v : Value} {m n : Nat} {R : Nat → Nat} (h : OutG lo w v m n R) (hb : Below w.heap.size w w') : OutG lo w' v m n R := by
  obtain ⟨xs, h1, h2⟩ := h.ex
  exact ⟨xs, owns_later7 h1 hb, h2⟩
theorem OutG.ne {lo lo' : Nat} {w : World} {v : Value} {m m' n n' : Nat} {R R' : Nat → Nat} {M : Nat → Nat → Int} (h : OutG lo w v m n R) (hr : MatR lo' w m' n' R' M) : ∀ t, t < m' → v.ownBlock ≠ some (R' t) := fun t ht e => by
  obtain ⟨xs, h1, _⟩ := h.ex
  obtain ⟨cur, hc⟩ := hr.ty t ht
  rcases h1.2 with ⟨h', _⟩ | ⟨g', cap', cur', hv, _, hgt, _⟩
  · rw [h'] at e; simp [Value.ownBlock] at e
  · rw [hv] at e
    simp only [Value.ownBlock, Option.some.injEq] at e
    rw [e, hc] at hgt
    simp only [Option.some.injEq, Obj.cells.injEq] at hgt
    exact absurd hgt.2.1 (by decide)
theorem RowG.out {lo lo' : Nat} {w : World} {v v' : Value} {m n k : Nat} {R : Nat → Nat} {V : Nat → Int} (h : RowG lo w v k V) (h' : OutG lo' w v' m n R) : ∀ g, v'.ownBlock = some g → v.ownBlock ≠ some g := fun g e e' => by
  obtain ⟨xs, h1, _⟩ := h.ex
  obtain ⟨ys, h2, _⟩ := h'.ex
  exact absurd (owns_ty7 h1 h2 e' e) (by decide)
end Go.Proofs.Ytaaajmdneaaeeaa
namespace Go.Proofs.Ytaaajmdneaaeeaa
open Go.RowKit
set_option linter.unusedVariables false
set_option maxRecDepth 100000
set_option linter.unusedSimpArgs false

theorem sU_abs7 (V : Int) : sU (decide (V < 0)) (V.natAbs : Int) = V := by unfold sU; by_cases h : V < 0 <;> simp [h] <;> omega
/-- A number is appended to a row. -/
theorem RowG.app {lo : Nat} {w w' : World} {v : Value} {n g cap : Nat} {V : Nat → Int} {x : BV} {xs : List Value} (h1 : w.ownsRow lo 27 2 v n xs) (h2 : ∀ j, j < n → ∃ b : BV, xs[j * 2]? = some (.bool b.g) ∧ xs[j * 2 + 1]? = some (.slice b.a b.n b.c) ∧ Ow lo w.heap.size w b (V j)) (ho : Ow lo w.heap.size w x (V n))
    (hw : w'.ownsRow lo 27 2 (.slice (some ⟨g, 0, none⟩) (n + 1) cap) (n + 1) (xs ++ [.bool x.g, .slice x.a x.n x.c])) (hg : w.grownBy w' v.ownBlock) : RowG lo w' (.slice (some ⟨g, 0, none⟩) (n + 1) cap) (n + 1) V := by
  have hl : xs.length = n * 2 := h1.1
  refine ⟨_, hw, fun j hj => ?_⟩
  by_cases e : j = n
  · subst e
    exact ⟨x, by rw [List.getElem?_append_right (by omega), hl]; simp, by rw [List.getElem?_append_right (by omega), hl]; simp, (ho.gr7 hg h1 (by decide)).wide (Nat.le_refl _) hg.size⟩
  · obtain ⟨b, k1, k2, k3⟩ := h2 j (by omega)
    exact ⟨b, by rw [List.getElem?_append_left (by omega)]; exact k1, by rw [List.getElem?_append_left (by omega)]; exact k2, (k3.gr7 hg h1 (by decide)).wide (Nat.le_refl _) hg.size⟩
theorem OutG.app {lo : Nat} {w w' : World} {v : Value} {m n g cap F c : Nat} {R : Nat → Nat} {xs : List Value} (h1 : w.ownsRow lo 33 1 v m xs) (h2 : ∀ i, i < m → ∃ c, xs[i]? = some (.slice (some ⟨R i, 0, none⟩) n c) ∧ n ≤ c ∧ c ≤ maxLen) (hc : n ≤ c ∧ c ≤ maxLen)
    (hw : w'.ownsRow lo 33 1 (.slice (some ⟨g, 0, none⟩) (m + 1) cap) (m + 1) (xs ++ [.slice (some ⟨F, 0, none⟩) n c])) : OutG lo w' (.slice (some ⟨g, 0, none⟩) (m + 1) cap) (m + 1) n (fun i => if i = m then F else R i) := by
  have hl : xs.length = m * 1 := h1.1
  refine ⟨_, hw, fun i hi => ?_⟩
  by_cases e : i = m
  · subst e
    exact ⟨c, by rw [if_pos rfl, List.getElem?_append_right (by omega), hl]; simp, hc⟩
  · obtain ⟨c', k1, k2⟩ := h2 i (by omega)
    exact ⟨c', by rw [if_neg e, List.getElem?_append_left (by omega)]; exact k1, k2⟩
theorem OutG.gr {lo B k size : Nat} {T : TypeId} {w w' : World} {v v' : Value} {m n : Nat} {R : Nat → Nat} (h : OutG lo w v m n R) (hg : w.grownBy w' v'.ownBlock) (hne : ∀ g, v.ownBlock = some g → v'.ownBlock ≠ some g) : OutG lo w' v m n R := by
  obtain ⟨xs, h1, h2⟩ := h.ex
  exact ⟨xs, owns_gr7 h1 hg hne, h2⟩
theorem RowG.cap {lo : Nat} {w : World} {n g cap : Nat} {V : Nat → Int} (h : RowG lo w (.slice (some ⟨g, 0, none⟩) n cap) n V) : n ≤ cap ∧ cap ≤ maxLen := by
  obtain ⟨xs, h1, _⟩ := h.ex
  rcases h1.2 with ⟨h', _⟩ | ⟨g', cap', cur, hv, _, _, h3, h4, _⟩
  · simp at h'
  · simp only [Value.slice.injEq, Option.some.injEq, Addr.mk.injEq, and_true, true_and] at hv
    obtain ⟨_, rfl⟩ := hv
    exact ⟨h3, h4⟩
theorem RowG.form {lo : Nat} {w : World} {v : Value} {n : Nat} {V : Nat → Int} (h : RowG lo w v n V) (h0 : 0 < n) : ∃ g cap, v = .slice (some ⟨g, 0, none⟩) n cap := by
  obtain ⟨xs, h1, _⟩ := h.ex
  rcases h1.2 with ⟨h', h2⟩ | ⟨g', cap', cur, hv, _⟩
  · omega
  · exact ⟨g', cap', hv⟩
theorem OutG.form {lo : Nat} {w : World} {v : Value} {m n : Nat} {R : Nat → Nat} (h : OutG lo w v m n R) (h0 : 0 < m) : ∃ g cap, v = .slice (some ⟨g, 0, none⟩) m cap := by
  obtain ⟨xs, h1, _⟩ := h.ex
  rcases h1.2 with ⟨h', h2⟩ | ⟨g', cap', cur, hv, _⟩
  · omega
  · exact ⟨g', cap', hv⟩
theorem below_gr7 {B lo size k : Nat} {T : TypeId} {a w w' : World} {v : Value} {xs : List Value} (hb : Below B a w) (hg : w.grownBy w' v.ownBlock) (hr : w.ownsRow lo T size v k xs) (hB : B ≤ lo) (hs : B ≤ w.heap.size) : Below B a w' :=
  ⟨hg.os.trans hb.os, hg.tape.trans hb.tape, hg.output.trans hb.output, Nat.le_trans hb.size hg.size, fun i hi => (hg.block i (by omega) (fun e => by have := (owns_lt7 hr e.symm).2; omega)).trans (hb.block i hi)⟩
end Go.Proofs.Ytaaajmdneaaeeaa
namespace Go.Proofs.Ytaaajmdneaaeeaa
open Go.RowKit
set_option linter.unusedVariables false
set_option maxRecDepth 100000
set_option linter.unusedSimpArgs false

end Go.Proofs.Ytaaajmdneaaeeaa
namespace Go.Proofs.Ytaaajmdneaaeeaa
open Go.RowKit
set_option linter.unusedVariables false
set_option maxRecDepth 100000
set_option linter.unusedSimpArgs false

/-- Rows of two lists. -/
theorem MatR.join {lo lo2 : Nat} {w : World} {m m2 n : Nat} {R R2 : Nat → Nat} {M M2 M' : Nat → Nat → Int} (h : MatR lo w m n R M) (h2 : MatR lo2 w m2 n R2 M2) (hl : lo ≤ lo2) (hr : ∀ i, i < m → R i < lo2) (e1 : ∀ i j, i < m → M' i j = M i j) (e2 : ∀ i j, i < m2 → M' (m + i) j = M2 i j) : MatR lo w (m + m2) n (fun i => if i < m then R i else R2 (i - m)) M' := by
  refine ⟨fun i hi => ?_, fun i hi o => ?_, fun i j hi hj hne => ?_, fun i hi => ?_, fun i j hi hj => ?_⟩
  · by_cases c : i < m
    · rw [if_pos c]; exact h.rlo i c
    · rw [if_neg c]; have := h2.rlo (i - m) (by omega); exact ⟨by omega, this.2⟩
  · by_cases c : i < m
    · rw [if_pos c]; exact h.rfz i c o
    · rw [if_neg c]; exact h2.rfz _ (by omega) o
  · by_cases c : i < m
    · by_cases d : j < m
      · rw [if_pos c, if_pos d]; exact h.inj i j c d hne
      · rw [if_pos c, if_neg d]; have a := hr i c; have b := (h2.rlo (j - m) (by omega)).1; omega
    · by_cases d : j < m
      · rw [if_neg c, if_pos d]; have a := hr j d; have b := (h2.rlo (i - m) (by omega)).1; omega
      · rw [if_neg c, if_neg d]; exact h2.inj _ _ (by omega) (by omega) (by omega)
  · by_cases c : i < m
    · rw [if_pos c]; exact h.ty i c
    · rw [if_neg c]; exact h2.ty _ (by omega)
  · by_cases c : i < m
    · rw [if_pos c, e1 i j c]; exact h.el i j c hj
    · rw [if_neg c]
      obtain ⟨b, k1, k2, k3⟩ := h2.el (i - m) j (by omega) hj
      have e := e2 (i - m) j (by omega)
      rw [show m + (i - m) = i by omega] at e
      exact ⟨b, k1, k2, by rw [e]; exact k3.wide hl (Nat.le_refl _)⟩
end Go.Proofs.Ytaaajmdneaaeeaa
namespace Go.Proofs.Ytaaajmdneaaeeaa
open Go.RowKit
set_option linter.unusedVariables false
set_option maxRecDepth 100000
set_option linter.unusedSimpArgs false

set_option maxHeartbeats 1000000 in
theorem fitS_in (g : Bool) (a : Option Addr) (n c : Nat) (w : World) (h : n ≤ 40) :
    Calls Try.prog 43 #[.agg #[.bool g, .slice a n c]] w fun e w' => e = .returned (.tuple #[.agg #[.bool g, .slice a n c], .bool true]) ∧ Below w.heap.size w w' := by
  have h' : ¬ (40 : Int) < (n : Int) := by omega
  go_enter Try.func43, Try.ntmps43
  go_wp2
  exact bodyPost_ret (v := .tuple #[.agg #[.bool g, .slice a n c], .bool true]) (by simp [results, Try.results43, go_sem]) rfl ⟨rfl, below_two _ _ _⟩
end Go.Proofs.Ytaaajmdneaaeeaa
namespace Go.Proofs.Ytaaajmdneaaeeaa
open Go.RowKit
set_option linter.unusedVariables false
set_option maxRecDepth 100000
set_option linter.unusedSimpArgs false

def RetB (w : World) (U : BD → Bool → Prop) (e : Ending) (w' : World) : Prop := ∃ (v : BV) (d : BD) (ok : Bool), e = .returned (.tuple #[.agg #[.bool v.g, .slice v.a v.n v.c], .bool ok]) ∧ Below w.heap.size w w' ∧ AllOwn w.heap.size w'.heap.size w' [(v, d)] ∧ U d ok
def AnsB (P : Bool) (V : Int) (d : BD) (ok : Bool) : Prop := (P = true ∧ ok = true ∧ d.g = decide (V < 0) ∧ Nm d.xs V.natAbs ∧ d.xs.length ≤ 40) ∨ (P = false ∧ ok = false ∧ d = ⟨false, []⟩)
theorem AnsB.same {P : Bool} {V : Int} {d d' : BD} {ok ok' : Bool} (h : AnsB P V d ok) (k : AnsB P V d' ok') : d = d' ∧ ok = ok' := by
  obtain ⟨g, xs⟩ := d
  obtain ⟨g', xs'⟩ := d'
  rcases h with ⟨p, o, a, b, _⟩ | ⟨p, o, e⟩ <;> rcases k with ⟨p', o', a', b', _⟩ | ⟨p', o', e'⟩
  · simp only at a b a' b'
    rw [a, a', b.same b']
    exact ⟨rfl, o.trans o'.symm⟩
  · rw [p] at p'; cases p'
  · rw [p] at p'; cases p'
  · exact ⟨e.trans e'.symm, o.trans o'.symm⟩
theorem AnsB.lens {P : Bool} {V : Int} {d : BD} {ok : Bool} (h : AnsB P V d ok) : d.xs.length ≤ 40 := by
  rcases h with ⟨_, _, _, _, h⟩ | ⟨_, _, rfl⟩
  · exact h
  · simp
end Go.Proofs.Ytaaajmdneaaeeaa
namespace Go.Proofs.Ytaaajmdneaaeeaa
open Go.RowKit
set_option linter.unusedVariables false
set_option maxRecDepth 100000
set_option linter.unusedSimpArgs false

end Go.Proofs.Ytaaajmdneaaeeaa
namespace Go.Proofs.Ytaaajmdneaaeeaa
open Go.RowKit
set_option linter.unusedVariables false
set_option maxRecDepth 100000
set_option linter.unusedSimpArgs false

theorem retB_yes {w w' : World} {lo hi : Nat} {b : BV} {V : Int} {P : Bool} (h : Ow lo hi w' b V) (hl : w.heap.size ≤ lo) (hh : hi ≤ w'.heap.size) (hb : Below w.heap.size w w') (hB : Bd V 40) (hP : P = true) : RetB w (fun d ok => Ans P V d.g d.xs ok) (.returned (.tuple #[.agg #[.bool b.g, .slice b.a b.n b.c], .bool true])) w' := by
  obtain ⟨xs, k1, k2, k3⟩ := h
  exact ⟨b, ⟨decide (V < 0), xs⟩, true, rfl, hb, k1.wide hl hh, .inl ⟨hP, xs, k3, .inl ⟨k3.len_le hB, rfl, rfl, rfl⟩⟩⟩
theorem retB_no {w w' : World} {V : Int} {P : Bool} (hb : Below w.heap.size w w') (hP : P = false) : RetB w (fun d ok => Ans P V d.g d.xs ok) (.returned (.tuple #[.agg #[.bool false, .slice none 0 0], .bool false])) w' :=
  ⟨⟨false, none, 0, 0⟩, ⟨false, []⟩, false, rfl, hb, AllOwn.one ⟨rfl, .inl rfl, rfl⟩, .inr ⟨hP, rfl, rfl, rfl⟩⟩
end Go.Proofs.Ytaaajmdneaaeeaa
namespace Go.Proofs.Ytaaajmdneaaeeaa
open Go.RowKit
set_option linter.unusedVariables false
set_option maxRecDepth 100000
set_option linter.unusedSimpArgs false

/-- A slice of integers in memory of the law's own. -/
structure OwI (lo hi : Nat) (w : World) (g n : Nat) (xs : List Int) : Prop where
  own : Own2 lo hi w (some ⟨g, 0, none⟩) xs
  arg : Arg w (some ⟨g, 0, none⟩) n n xs
theorem OwI.later {lo hi : Nat} {w w' : World} {g n : Nat} {xs : List Int} (h : OwI lo hi w g n xs) (hb : Below w.heap.size w w') : OwI lo hi w' g n xs := ⟨h.own.later hb, h.arg.later hb⟩
theorem OwI.but {lo hi lo' hi' : Nat} {w w' : World} {g n : Nat} {xs : List Int} (h : OwI lo hi w g n xs) (hb : But lo' hi' w w') (hd : hi ≤ lo' ∨ hi' ≤ lo) : OwI lo hi w' g n xs := by
  have o := h.own.but hb hd
  exact ⟨o, ⟨o.sl, h.arg.len, h.arg.cap, h.arg.top, h.arg.addr⟩⟩
theorem ans_bd {P : Bool} {V : Int} {d d' : BD} {ok ok' : Bool} (h : Ans P V d.g d.xs ok) (k : Ans P V d'.g d'.xs ok') : d = d' ∧ ok = ok' := by
  obtain ⟨e1, e2, e3⟩ := h.same k
  obtain ⟨g, xs⟩ := d
  obtain ⟨g', xs'⟩ := d'
  simp only at e1 e2
  subst e1 e2
  exact ⟨rfl, e3⟩
theorem ans_len {P : Bool} {V : Int} {d : BD} {ok : Bool} (h : Ans P V d.g d.xs ok) : d.xs.length ≤ 40 := by
  rcases h with ⟨_, ts, _, ⟨h1, _, _, h4⟩ | ⟨_, _, _, h4⟩⟩ | ⟨_, _, _, h4⟩
  · rw [h4]; exact h1
  · rw [h4]; simp
  · rw [h4]; simp
end Go.Proofs.Ytaaajmdneaaeeaa
