/- The determinant by steps of the program (detBySteps), by value. No condition beyond those typed. Written by mkdet7.py. -/
import Derived.Test.YtaaajmdneaaeeaaFlatQ
import Derived.Test.YtaaajmdneaaeeaaRatF
import Derived.Test.YtaaajmdneaaeeaaFlat
import Derived.Test.YtaaajmdneaaeeaaLow
import Derived.Test.YtaaajmdneaaeeaaNum
import Derived.Test.YtaaajmdneaaeeaaRatE
import Derived.Deep.MidRow
import Derived.DeepKeys
import Derived.Deep.RegionHeld3
import Derived.Test.YtaaajmdneaaeeaaDivI
import Derived.Test.YtaaajmdneaaeeaaRatG
namespace Go.Proofs.Ytaaajmdneaaeeaa
open Go.RowKit
set_option linter.unusedVariables false
set_option maxRecDepth 100000
set_option linter.unusedSimpArgs false

theorem AllSl.Sl {w : World} {v : SV} {d : SD} (h : AllSl w [(v.lo.num, d.lo.num), (v.lo.den, d.lo.den), (v.hi.num, d.hi.num), (v.hi.den, d.hi.den)]) : AllSl w [(v.lo.num, d.lo.num), (v.lo.den, d.lo.den)] := fun p hp => h p (show p ∈ [(v.lo.num, d.lo.num), (v.lo.den, d.lo.den), (v.hi.num, d.hi.num), (v.hi.den, d.hi.den)] from (List.mem_append_left [(v.hi.num, d.hi.num), (v.hi.den, d.hi.den)] hp : p ∈ [(v.lo.num, d.lo.num), (v.lo.den, d.lo.den)] ++ [(v.hi.num, d.hi.num), (v.hi.den, d.hi.den)]))
theorem AllSl.Sr {w : World} {v : SV} {d : SD} (h : AllSl w [(v.lo.num, d.lo.num), (v.lo.den, d.lo.den), (v.hi.num, d.hi.num), (v.hi.den, d.hi.den)]) : AllSl w [(v.hi.num, d.hi.num), (v.hi.den, d.hi.den)] := fun p hp => h p (show p ∈ [(v.lo.num, d.lo.num), (v.lo.den, d.lo.den), (v.hi.num, d.hi.num), (v.hi.den, d.hi.den)] from (List.mem_append_right [(v.lo.num, d.lo.num), (v.lo.den, d.lo.den)] hp : p ∈ [(v.lo.num, d.lo.num), (v.lo.den, d.lo.den)] ++ [(v.hi.num, d.hi.num), (v.hi.den, d.hi.den)]))
theorem AllAr.Sl {w : World} {v : SV} {d : SD} (h : AllAr w [(v.lo.num, d.lo.num), (v.lo.den, d.lo.den), (v.hi.num, d.hi.num), (v.hi.den, d.hi.den)]) : AllAr w [(v.lo.num, d.lo.num), (v.lo.den, d.lo.den)] := fun p hp => h p (show p ∈ [(v.lo.num, d.lo.num), (v.lo.den, d.lo.den), (v.hi.num, d.hi.num), (v.hi.den, d.hi.den)] from (List.mem_append_left [(v.hi.num, d.hi.num), (v.hi.den, d.hi.den)] hp : p ∈ [(v.lo.num, d.lo.num), (v.lo.den, d.lo.den)] ++ [(v.hi.num, d.hi.num), (v.hi.den, d.hi.den)]))
theorem AllAr.Sr {w : World} {v : SV} {d : SD} (h : AllAr w [(v.lo.num, d.lo.num), (v.lo.den, d.lo.den), (v.hi.num, d.hi.num), (v.hi.den, d.hi.den)]) : AllAr w [(v.hi.num, d.hi.num), (v.hi.den, d.hi.den)] := fun p hp => h p (show p ∈ [(v.lo.num, d.lo.num), (v.lo.den, d.lo.den), (v.hi.num, d.hi.num), (v.hi.den, d.hi.den)] from (List.mem_append_right [(v.lo.num, d.lo.num), (v.lo.den, d.lo.den)] hp : p ∈ [(v.lo.num, d.lo.num), (v.lo.den, d.lo.den)] ++ [(v.hi.num, d.hi.num), (v.hi.den, d.hi.den)]))

end Go.Proofs.Ytaaajmdneaaeeaa
namespace Go.Proofs.Ytaaajmdneaaeeaa
open Go.RowKit
set_option linter.unusedVariables false
set_option maxRecDepth 100000
set_option linter.unusedSimpArgs false

theorem AllAr.lo {w : World} {v : SV} {d : SD} (h : AllAr w [(v.lo.num, d.lo.num), (v.lo.den, d.lo.den), (v.hi.num, d.hi.num), (v.hi.den, d.hi.den)]) : AllAr w [(v.lo.num, d.lo.num), (v.lo.den, d.lo.den)] := h.Sl
theorem AllAr.hi {w : World} {v : SV} {d : SD} (h : AllAr w [(v.lo.num, d.lo.num), (v.lo.den, d.lo.den), (v.hi.num, d.hi.num), (v.hi.den, d.hi.den)]) : AllAr w [(v.hi.num, d.hi.num), (v.hi.den, d.hi.den)] := h.Sr

structure IsGoodS (w : World) (v : SV) (d : SD) : Prop where
  lo : IsGood w v.lo d.lo
  hi : IsGood w v.hi d.hi
  le : nQ d.lo * dQ d.hi ≤ nQ d.hi * dQ d.lo
theorem IsGoodS.later {w w' : World} {v : SV} {d : SD} (h : IsGoodS w v d) (hb : Below w.heap.size w w') : IsGoodS w' v d := ⟨h.lo.later hb, h.hi.later hb, h.le⟩

end Go.Proofs.Ytaaajmdneaaeeaa
namespace Go.Proofs.Ytaaajmdneaaeeaa
open Go.RowKit
set_option linter.unusedVariables false
set_option maxRecDepth 100000
set_option linter.unusedSimpArgs false

/-- A variable of the law's own: its box at block G, what it leads to at blocks from lo to below hi. -/
structure VarS (wx : World) (G lo hi : Nat) (v : SV) (d : SD) : Prop where
  c0 : wx.cell? ⟨G, 0, none⟩ = some (.bool v.lo.num.g)
  c1 : wx.cell? ⟨G, 1, none⟩ = some (.slice v.lo.num.a v.lo.num.n v.lo.num.c)
  c2 : wx.cell? ⟨G, 2, none⟩ = some (.bool v.lo.den.g)
  c3 : wx.cell? ⟨G, 3, none⟩ = some (.slice v.lo.den.a v.lo.den.n v.lo.den.c)
  c4 : wx.cell? ⟨G, 4, none⟩ = some (.bool v.hi.num.g)
  c5 : wx.cell? ⟨G, 5, none⟩ = some (.slice v.hi.num.a v.hi.num.n v.hi.num.c)
  c6 : wx.cell? ⟨G, 6, none⟩ = some (.bool v.hi.den.g)
  c7 : wx.cell? ⟨G, 7, none⟩ = some (.slice v.hi.den.a v.hi.den.n v.hi.den.c)
  own : AllOwn lo hi wx [(v.lo.num, d.lo.num), (v.lo.den, d.lo.den), (v.hi.num, d.hi.num), (v.hi.den, d.hi.den)]
theorem VarS.later {wx wy : World} {G lo hi : Nat} {v : SV} {d : SD} (h : VarS wx G lo hi v d) (hb : Below wx.heap.size wx wy) : VarS wy G lo hi v d :=
  ⟨cell_later hb h.c0, cell_later hb h.c1, cell_later hb h.c2, cell_later hb h.c3, cell_later hb h.c4, cell_later hb h.c5, cell_later hb h.c6, cell_later hb h.c7, h.own.later hb⟩
theorem VarS.but {wx wy : World} {G lo hi lo' hi' : Nat} {v : SV} {d : SD} (h : VarS wx G lo hi v d) (hb : But lo' hi' wx wy) (hG : G < lo' ∨ hi' ≤ G) (hd : hi ≤ lo' ∨ hi' ≤ lo) : VarS wy G lo hi v d :=
  ⟨hb.cell h.c0 hG, hb.cell h.c1 hG, hb.cell h.c2 hG, hb.cell h.c3 hG, hb.cell h.c4 hG, hb.cell h.c5 hG, hb.cell h.c6 hG, hb.cell h.c7 hG, h.own.but hb hd⟩
theorem VarS.mark {wx wy : World} {G lo hi : Nat} {v : SV} {d d' : SD} (h : VarS wx G lo hi v d) (hb : But lo hi wx wy) (hG : G < lo ∨ hi ≤ G) (ho : AllOwn lo hi wy [(v.lo.num, d'.lo.num), (v.lo.den, d'.lo.den), (v.hi.num, d'.hi.num), (v.hi.den, d'.hi.den)]) : VarS wy G lo hi v d' :=
  ⟨hb.cell h.c0 hG, hb.cell h.c1 hG, hb.cell h.c2 hG, hb.cell h.c3 hG, hb.cell h.c4 hG, hb.cell h.c5 hG, hb.cell h.c6 hG, hb.cell h.c7 hG, ho⟩
theorem VarS.low {wx : World} {G lo hi lo' : Nat} {v : SV} {d : SD} (h : VarS wx G lo hi v d) (hl : lo' ≤ lo) : VarS wx G lo' hi v d := ⟨h.c0, h.c1, h.c2, h.c3, h.c4, h.c5, h.c6, h.c7, h.own.wide hl (Nat.le_refl _)⟩
theorem VarS.start {wx : World} {lo : Nat} {v : SV} {d : SD} (t : TypeId) (h : AllOwn lo wx.heap.size wx [(v.lo.num, d.lo.num), (v.lo.den, d.lo.den), (v.hi.num, d.hi.num), (v.hi.den, d.hi.den)]) : VarS (wx.alloc (.cells #[.bool v.lo.num.g, .slice v.lo.num.a v.lo.num.n v.lo.num.c, .bool v.lo.den.g, .slice v.lo.den.a v.lo.den.n v.lo.den.c, .bool v.hi.num.g, .slice v.hi.num.a v.hi.num.n v.hi.num.c, .bool v.hi.den.g, .slice v.hi.den.a v.hi.den.n v.hi.den.c] t)) wx.heap.size lo wx.heap.size v d :=
  ⟨by simp [go_sem], by simp [go_sem], by simp [go_sem], by simp [go_sem], by simp [go_sem], by simp [go_sem], by simp [go_sem], by simp [go_sem], h.later ((Below.refl _ _).alloc (Nat.le_refl _) _)⟩
theorem VarS.gt {wx : World} {G lo hi : Nat} {v : SV} {d : SD} (h : VarS wx G lo hi v d) : G < wx.heap.size := World.block_lt_of_cell? _ _ h.c0
end Go.Proofs.Ytaaajmdneaaeeaa
namespace Go.Proofs.Ytaaajmdneaaeeaa
open Go.RowKit
set_option linter.unusedVariables false
set_option maxRecDepth 100000
set_option linter.unusedSimpArgs false

set_option maxHeartbeats 4000000 in
theorem copyB (b : BV) (V : Int) (w : World) (h : IsB w b V) (k : Bd V 400000) : Calls Try.prog 45 #[.agg #[.bool b.g, .slice b.a b.n b.c]] w (OutN w V) := by
  obtain ⟨xs, hx, _, hl, nx, sx⟩ := h.num k (by omega)
  have HX := hide hx.arg
  have NX := hide nx
  have SX : Hid (sU b.g (V.natAbs : Int) = V) := hide (by rw [sx]; unfold sU; by_cases e : V < 0 <;> simp [e] <;> omega)
  clear h hx nx sx
  go_enter Try.func45, Try.ntmps45
  go_upto_region 1 with fail
  have hb : Below w.heap.size w ((w.alloc (.cells #[.bool b.g, .slice b.a b.n b.c] 27)).alloc (.cells #[.bool false, .slice none 0 0] 27)) := (((Below.refl _ _).alloc (by simp) _).alloc (by simp) _)
  have k0_0 : ((w.alloc (.cells #[.bool b.g, .slice b.a b.n b.c] 27)).alloc (.cells #[.bool false, .slice none 0 0] 27)).cell? ⟨w.heap.size, 0, none⟩ = some (.bool b.g) := by simp [go_sem]
  have k0_1 : ((w.alloc (.cells #[.bool b.g, .slice b.a b.n b.c] 27)).alloc (.cells #[.bool false, .slice none 0 0] 27)).cell? ⟨w.heap.size, 1, none⟩ = some (.slice b.a b.n b.c) := by simp [go_sem]
  have k1_0 : ((w.alloc (.cells #[.bool b.g, .slice b.a b.n b.c] 27)).alloc (.cells #[.bool false, .slice none 0 0] 27)).cell? ⟨w.heap.size + 1, 0, none⟩ = some (.bool false) := by simp [go_sem]
  have k1_1 : ((w.alloc (.cells #[.bool b.g, .slice b.a b.n b.c] 27)).alloc (.cells #[.bool false, .slice none 0 0] 27)).cell? ⟨w.heap.size + 1, 1, none⟩ = some (.slice none 0 0) := by simp [go_sem]
  have z1 : ∀ o, ((w.alloc (.cells #[.bool b.g, .slice b.a b.n b.c] 27)).alloc (.cells #[.bool false, .slice none 0 0] 27)).frozen? ⟨w.heap.size + 1, o, none⟩ = false := fun o => by simp [go_sem]
  have A := hide ((unhide HX).later hb)
  have szw0 : w.heap.size + 2 ≤ ((w.alloc (.cells #[.bool b.g, .slice b.a b.n b.c] 27)).alloc (.cells #[.bool false, .slice none 0 0] 27)).heap.size := by simp
  have HB := hide hb
  clear hb
  generalize ((w.alloc (.cells #[.bool b.g, .slice b.a b.n b.c] 27)).alloc (.cells #[.bool false, .slice none 0 0] 27)) = w0 at *
  have ne0_1 : w.heap.size ≠ w.heap.size + 1 := by omega
  go_region_held3 (fun w' => w'.cell? ⟨w.heap.size, 0, none⟩ = some (.bool b.g) ∧ w'.cell? ⟨w.heap.size, 1, none⟩ = some (.slice b.a b.n b.c)) (with_reducible (first | exact ⟨k0_0, k0_1⟩ | exact ⟨cd_other k0_0, cd_other k0_1⟩ | exact ⟨cs_other (cs_other (k0_0) ne0_1) ne0_1, cs_other (cs_other (k0_1) ne0_1) ne0_1⟩ | fail))
    (first
    | (go_at_call 85; refine (clone_any b.a b.n b.c xs _ ?_ (by omega)).mono ?_; exact (unhide A).later (Below.refl _ _).drew; rintro e w1 ⟨a1, c1, rfl, hb, ho, ha⟩; have hbx : Below w0.heap.size w0 w1 := below_of_drew hb; have szw1 := hbx.size; replace z1 := fun o => frozen_later hbx (World.block_lt_of_cell? _ _ k1_0) (z1 o); replace k0_0 := cell_later hbx k0_0; replace k0_1 := cell_later hbx k0_1; replace k1_0 := cell_later hbx k1_0; replace k1_1 := cell_later hbx k1_1; replace A := hide ((unhide A).later hbx); have A1 := hide (ha); have O1 := hide (ho.two); have HBr := hide hbx; clear hbx hb ho ha)
    | (go_at_call 84; refine (signI_v _ a1 b.n c1 xs _ w0.heap.size w1.heap.size (V.natAbs : Int) ?_ ?_ (unhide NX)).mono ?_; exact (unhide A1).later (Below.refl _ _); exact (unhide O1).later (Below.refl _ _); rintro e w2 ⟨x1, rfl, hb, ow, ar⟩; have hbx : Below w1.heap.size w1 w2 := hb; have szw2 := hbx.size; replace z1 := fun o => frozen_later hbx (World.block_lt_of_cell? _ _ k1_0) (z1 o); replace k0_0 := cell_later hbx k0_0; replace k0_1 := cell_later hbx k0_1; replace k1_0 := cell_later hbx k1_0; replace k1_1 := cell_later hbx k1_1; replace A := hide ((unhide A).later hbx); replace A1 := hide ((unhide A1).later hbx); replace O1 := hide ((unhide O1).later hbx); rw [unhide SX] at ow ar; have OW := hide (ow); have AR := hide (ar); have HBr := hide (below_on (unhide HBr) hbx); clear hbx hb ow ar))
  replace HB := hide (below_on (unhide HB) (unhide HBr))
  clear HBr
  go_wp2
  refine bodyPost_ret (v := .agg #[.bool x1.g, .slice x1.a x1.n x1.c]) (by simp [results, Try.results45, go_sem, k1_0, k1_1]) rfl ?_
  exact outN_fin (b := x1) (R := w.heap.size + 1) (by omega) (unhide HB) (metB_but (w5 := w2) (v := x1) (G := w.heap.size + 1)) ((unhide OW).wide (by omega) (by omega)) (unhide AR) (unhide NX)

end Go.Proofs.Ytaaajmdneaaeeaa
namespace Go.Proofs.Ytaaajmdneaaeeaa
open Go.RowKit
set_option linter.unusedVariables false
set_option maxRecDepth 100000
set_option linter.unusedSimpArgs false

theorem szB_in (v : BV) (left : Int) (w : World) (h0 : 0 ≤ left) (h1 : left ≤ 1048576) (h : (v.n : Int) ≤ left) :
    Calls Try.prog 96 #[.agg #[.bool v.g, .slice v.a v.n v.c], .int .i64 left] w fun e w' => e = .returned (.int .i64 (left - (v.n : Int))) ∧ Below w.heap.size w w' := sz_in v.g v.a v.n v.c left w h0 h1 h
theorem szB_out (v : BV) (left : Int) (w : World) (h0 : 0 ≤ left) (h1 : left ≤ 1048576) (hm : v.n ≤ maxLen) (h : left < (v.n : Int)) :
    Calls Try.prog 96 #[.agg #[.bool v.g, .slice v.a v.n v.c], .int .i64 left] w fun e w' => e = .returned (.int .i64 (-1)) ∧ Below w.heap.size w w' := sz_out v.g v.a v.n v.c left w h0 h1 hm h
theorem toB_l (b : BV) (d : BD) (w : World) (h : AllSl w [(b, d)]) (h1 : b.n ≤ 1048576) :
    Calls Try.prog 97 #[.agg #[.bool b.g, .slice b.a b.n b.c]] w fun e w' => ∃ v : BV, e = .returned (.agg #[.bool v.g, .slice v.a v.n v.c]) ∧ Below w.heap.size w w' ∧ v.n = b.n ∧ AllOwn w.heap.size w'.heap.size w' [(v, d)] ∧ AllAr w' [(v, d)] := toB_at b d w h.head h1
theorem eqB_l (b b' : BV) (d : BD) (w : World) (h : AllSl w [(b, d)]) (h' : AllSl w [(b', d)]) (hm : b.n ≤ maxLen) :
    Calls Try.prog 24 #[.agg #[.bool b.g, .slice b.a b.n b.c], .agg #[.bool b'.g, .slice b'.a b'.n b'.c]] w fun e w' => e = .returned (.bool true) ∧ Below w.heap.size w w' := eqB_at b b' d w h.head h'.head hm
/-- The cells of some values in a row. -/
def PAtB (w : World) (a : Option Addr) (l : List (BV × BD)) : Prop := l = [] ∨ ∃ b off, a = some ⟨b, off, none⟩ ∧ b < w.heap.size ∧ ∀ i (h : i < l.length), w.cell? ⟨b, off + i * 2, none⟩ = some (.bool l[i].1.g) ∧ w.cell? ⟨b, off + i * 2 + 1, none⟩ = some (.slice l[i].1.a l[i].1.n l[i].1.c)
theorem PAtB.later {w w' : World} {a : Option Addr} {l : List (BV × BD)} (h : PAtB w a l) (hb : Below w.heap.size w w') : PAtB w' a l := by
  rcases h with h | ⟨b, off, rfl, h1, h2⟩
  · exact .inl h
  · exact .inr ⟨b, off, rfl, Nat.lt_of_lt_of_le h1 hb.size, fun i hi => ⟨cell_later hb ((h2 i hi).1), cell_later hb ((h2 i hi).2)⟩⟩
structure PSlB (w : World) (a : Option Addr) (l : List (BV × BD)) : Prop where
  at_ : PAtB w a l
  rd : ∀ p ∈ l, AllSl w [(p.1, p.2)]
theorem PSlB.later {w w' : World} {a : Option Addr} {l : List (BV × BD)} (h : PSlB w a l) (hb : Below w.heap.size w w') : PSlB w' a l := ⟨h.at_.later hb, fun p hp => (h.rd p hp).later hb⟩
/-- .. as an argument. -/
structure PArB (w : World) (a : Option Addr) (n c : Nat) (l : List (BV × BD)) : Prop where
  at_ : PAtB w a l
  rd : ∀ p ∈ l, AllAr w [(p.1, p.2)]
  len : l.length = n
  cap : n ≤ c
  top : c ≤ maxLen
theorem PArB.later {w w' : World} {a : Option Addr} {n c : Nat} {l : List (BV × BD)} (h : PArB w a n c l) (hb : Below w.heap.size w w') : PArB w' a n c l := ⟨h.at_.later hb, fun p hp => (h.rd p hp).later hb, h.len, h.cap, h.top⟩
theorem PArB.sl {w : World} {a : Option Addr} {n c : Nat} {l : List (BV × BD)} (h : PArB w a n c l) : PSlB w a l := ⟨h.at_, fun p hp => (h.rd p hp).sl⟩
def lenB (p : BV × BD) : Nat := p.1.n
def lenPB : List (BV × BD) → Nat
  | [] => 0
  | p :: l => lenB p + lenPB l
theorem lenPB_append (l l' : List (BV × BD)) : lenPB (l ++ l') = lenPB l + lenPB l' := by
  induction l with
  | nil => simp [lenPB]
  | cons p l ih => simp only [List.cons_append, lenPB, ih]; omega
theorem lenPB_mem {l : List (BV × BD)} {p : BV × BD} (h : p ∈ l) : lenB p ≤ lenPB l := by
  induction l with
  | nil => cases h
  | cons q l ih =>
    unfold lenPB
    rcases List.mem_cons.1 h with rfl | h
    · omega
    · have := ih h; omega
/-- The numbers in some values. -/
def zipPB (l : List (BV × BD)) : List (BV × BD) := l.flatMap (fun p => [(p.1, p.2)])
theorem zipPB_append (l l' : List (BV × BD)) : zipPB (l ++ l') = zipPB l ++ zipPB l' := by simp [zipPB]
theorem zipPB_one (p : BV × BD) : zipPB [p] = [(p.1, p.2)] := by simp [zipPB]
theorem zipPB_mem {l : List (BV × BD)} {p : BV × BD} (h : p ∈ l) {x : BV × BD} (hx : x ∈ [(p.1, p.2)]) : x ∈ zipPB l := List.mem_flatMap.2 ⟨p, h, hx⟩
theorem take_succB {l : List (BV × BD)} {i : Nat} (h : i < l.length) : l.take (i + 1) = l.take i ++ [l[i]] := (List.take_append_getElem h).symm

set_option maxHeartbeats 2000000 in
theorem szPB (a : Option Addr) (n c : Nat) (l : List (BV × BD)) (left : Int) (w : World) (h : PSlB w a l) (hn : l.length = n) (hm : n ≤ maxLen) (ml : ∀ p ∈ l, p.1.n ≤ maxLen) (h0 : 0 ≤ left) (h1 : left ≤ 1048576) :
    Calls Try.prog 54 #[.slice a n c, .int .i64 left] w fun e w' => ∃ r : Int, e = .returned (.int .i64 r) ∧ Below w.heap.size w w' ∧ (r = -1 ∨ (0 ≤ r ∧ r = left - (n : Int) - (lenPB l : Int))) := by
  have HS := hide h
  have HN := hide hn
  have ML := hide ml
  clear h hn ml
  unfold maxLen at hm
  by_cases c0 : left - (n : Int) < 0
  · go_enter Try.func54, Try.ntmps54
    go_wp2
    go_ret
    exact ⟨_, rfl, Below.refl _ _, .inl rfl⟩
  · go_enter Try.func54, Try.ntmps54
    go_wp2
    go_loopw [1, 5] (fun lv iv wr => ∃ (i : Nat) (r : Int), i ≤ n ∧ iv = .int .i64 i ∧ lv = .int .i64 r ∧ 0 ≤ r ∧ r ≤ 1048576 ∧ Hid (r = left - (n : Int) - (lenPB (l.take i) : Int)) ∧ Hid (Below w.heap.size w wr)) (fun _ iv _ => n - (intOf iv).toNat)
    case atStart => exact ⟨0, _, Nat.zero_le _, rfl, rfl, by omega, by omega, hide (by simp [lenPB]), hide (Below.refl _ _)⟩
    case round =>
      obtain ⟨i, r, hi, rfl, rfl, r0, r1, ER, HB⟩ := hrel
      by_cases hlt : i < n
      · have hlt' : (i : Int) < (n : Int) := by omega
        rcases (unhide HS).at_ with e | ⟨b, off, rfl, hb, hc⟩
        · exact absurd (unhide HN) (by rw [e]; simp; omega)
        have e0 := hc i (by rw [unhide HN]; exact hlt)
        obtain ⟨y, hy⟩ : ∃ y, y = l[i]'(by rw [unhide HN]; exact hlt) := ⟨_, rfl⟩
        rw [← hy] at e0
        have MY : Hid (y ∈ l) := hide (by rw [hy]; exact List.getElem_mem _)
        have EY := hide hy
        clear hy
        have E0 : wr.cell? ⟨b, off + i * 2, none⟩ = some (.bool y.1.g) := ((unhide HB).cell (p := ⟨b, off + i * 2, none⟩) hb).trans (e0.1)
        have E1 : wr.cell? ⟨b, off + i * 2 + 1, none⟩ = some (.slice y.1.a y.1.n y.1.c) := ((unhide HB).cell (p := ⟨b, off + i * 2 + 1, none⟩) hb).trans (e0.2)
        clear e0
        have TK : Hid (l.take (i + 1) = l.take i ++ [y]) := hide (by have h := take_succB (l := l) (i := i) (by rw [unhide HN]; exact hlt); rw [← unhide EY] at h; exact h)
        have j0 := (unhide ML) y (unhide MY)
        have lo : lenB y = y.1.n := rfl
        have TL : Hid ((lenPB (l.take (i + 1)) : Int) = (lenPB (l.take i) : Int) + ((y.1.n : Int))) := hide (by rw [unhide TK, lenPB_append]; show ((_ + (lenB y + 0) : Nat) : Int) = _; omega)
        clear hc lo
        by_cases c1 : (y.1.n : Int) ≤ r
        · have c2 : ¬ (r - (y.1.n : Int) < 0) := by omega
          go_wp2_with fail
          refine (szB_in y.1 r _ r0 r1 c1).mono ?_
          rintro e w1 ⟨rfl, hb1⟩
          have HB1 := hide (below_on (unhide HB) hb1)
          clear hb1 E0 E1
          go_wp2
          go_roundw
          case rel => exact ⟨i + 1, _, by omega, by go_num, rfl, by omega, by omega, hide (by rw [unhide TL]; have := unhide ER; omega), HB1⟩
          case measure => simp [intOf]; omega
        · go_wp2_with fail
          refine (szB_out y.1 r _ r0 r1 j0 (by omega)).mono ?_
          rintro e w1 ⟨rfl, hb1⟩
          have HB1 := hide (below_on (unhide HB) hb1)
          clear hb1 E0 E1
          go_wp2
          go_ret
          exact ⟨_, rfl, unhide HB1, .inl rfl⟩
      · obtain rfl : i = n := by omega
        have EL := hide (show r = left - (i : Int) - (lenPB l : Int) from by have := unhide ER; rw [← unhide HN, List.take_length, unhide HN] at this; exact this)
        go_wp2
        go_ret
        exact ⟨_, rfl, unhide HB, .inr ⟨r0, unhide EL⟩⟩

theorem get_sndB {l l' : List (BV × BD)} (h : l.map Prod.snd = l'.map Prod.snd) {i : Nat} (hi : i < l.length) (hi' : i < l'.length) : l[i].2 = l'[i].2 := by
  have := congrArg (fun x => x[i]?) h
  simpa [hi, hi'] using this
set_option maxHeartbeats 4000000 in
theorem eqPB (a a' : Option Addr) (n c c' : Nat) (l l' : List (BV × BD)) (w : World) (h : PSlB w a l) (h' : PSlB w a' l') (hn : l.length = n) (he : l.map Prod.snd = l'.map Prod.snd) (hm : n ≤ maxLen) (ml : ∀ p ∈ l, p.1.n ≤ maxLen) :
    Calls Try.prog 56 #[.slice a n c, .slice a' n c'] w fun e w' => e = .returned (.bool true) ∧ Below w.heap.size w w' := by
  have hn' : l'.length = n := by have := congrArg List.length he; simp at this; omega
  have HS := hide h
  have HS' := hide h'
  have HN := hide hn
  have HN' := hide hn'
  have HE := hide he
  have ML := hide ml
  clear h hn ml he hn' h'
  unfold maxLen at hm
  go_enter Try.func56, Try.ntmps56
  go_wp2
  go_loopw [5] (fun iv wr => ∃ (i : Nat), i ≤ n ∧ iv = .int .i64 i ∧ Hid (Below w.heap.size w wr)) (fun iv _ => n - (intOf iv).toNat)
  case atStart => exact ⟨0, Nat.zero_le _, rfl, hide (Below.refl _ _)⟩
  case round =>
    obtain ⟨i, hi, rfl, HB⟩ := hrel
    by_cases hlt : i < n
    · have hlt' : (i : Int) < (n : Int) := by omega
      rcases (unhide HS).at_ with e | ⟨b, off, rfl, hb, hc⟩
      · exact absurd (unhide HN) (by rw [e]; simp; omega)
      have e0 := hc i (by rw [unhide HN]; exact hlt)
      obtain ⟨y, hy⟩ : ∃ y, y = l[i]'(by rw [unhide HN]; exact hlt) := ⟨_, rfl⟩
      rw [← hy] at e0
      have MY : Hid (y ∈ l) := hide (by rw [hy]; exact List.getElem_mem _)
      have EY := hide hy
      clear hy
      have E0 : wr.cell? ⟨b, off + i * 2, none⟩ = some (.bool y.1.g) := ((unhide HB).cell (p := ⟨b, off + i * 2, none⟩) hb).trans (e0.1)
      have E1 : wr.cell? ⟨b, off + i * 2 + 1, none⟩ = some (.slice y.1.a y.1.n y.1.c) := ((unhide HB).cell (p := ⟨b, off + i * 2 + 1, none⟩) hb).trans (e0.2)
      clear e0
      clear hc
      rcases (unhide HS').at_ with e | ⟨b', off', rfl, hb', hc'⟩
      · exact absurd (unhide HN') (by rw [e]; simp; omega)
      have e0 := hc' i (by rw [unhide HN']; exact hlt)
      obtain ⟨y', hy'⟩ : ∃ y, y = l'[i]'(by rw [unhide HN']; exact hlt) := ⟨_, rfl⟩
      rw [← hy'] at e0
      have MY' : Hid (y' ∈ l') := hide (by rw [hy']; exact List.getElem_mem _)
      have ED : Hid (y.2 = y'.2) := hide (by rw [unhide EY, hy']; exact get_sndB (unhide HE) _ _)
      clear hy'
      have F0 : wr.cell? ⟨b', off' + i * 2, none⟩ = some (.bool y'.1.g) := ((unhide HB).cell (p := ⟨b', off' + i * 2, none⟩) hb').trans (e0.1)
      have F1 : wr.cell? ⟨b', off' + i * 2 + 1, none⟩ = some (.slice y'.1.a y'.1.n y'.1.c) := ((unhide HB).cell (p := ⟨b', off' + i * 2 + 1, none⟩) hb').trans (e0.2)
      clear e0 hc'
      have j0 := (unhide ML) y (unhide MY)
      have R1 := hide (((unhide HS).rd y (unhide MY)).later (unhide HB))
      have R2 := hide (((unhide HS').rd y' (unhide MY')).later (unhide HB))
      go_upto_region 6 with fail
      go_region_held3 (fun w' => w'.cell? ⟨b, off + i * 2, none⟩ = some (.bool y.1.g) ∧ w'.cell? ⟨b, off + i * 2 + 1, none⟩ = some (.slice y.1.a y.1.n y.1.c) ∧ w'.cell? ⟨b', off' + i * 2, none⟩ = some (.bool y'.1.g) ∧ w'.cell? ⟨b', off' + i * 2 + 1, none⟩ = some (.slice y'.1.a y'.1.n y'.1.c))
        (with_reducible (first | exact ⟨E0, E1, F0, F1⟩ | exact ⟨cd_other E0, cd_other E1, cd_other F0, cd_other F1⟩ | fail))
        (first
        | (go_at_call 24; refine (eqB_l y.1 y'.1 y.2 _ ?_ ?_ j0).mono ?_; exact (unhide R1).drew; (rw [unhide ED]; exact (unhide R2).drew); rintro e w1 ⟨rfl, hb1⟩; have HB1 := hide (below_on (unhide HB) (below_of_drew hb1)); have hbx := below_of_drew hb1; replace E0 := cell_later hbx E0; replace E1 := cell_later hbx E1; replace F0 := cell_later hbx F0; replace F1 := cell_later hbx F1; clear hb1 hbx))
      clear E0 F0 E1 F1
      go_wp2
      go_roundw
      case rel => exact ⟨i + 1, by omega, by go_num, HB1⟩
      case measure => simp [intOf]; omega
    · obtain rfl : i = n := by omega
      go_wp2
      go_ret
      exact ⟨rfl, unhide HB⟩

theorem but_rowB {w : World} {G k : Nat} {u : BV} : But G (G + 1) w ((w.setCell ⟨G, k * 2, none⟩ (.bool u.g)).setCell ⟨G, k * 2 + 1, none⟩ (.slice u.a u.n u.c)) := (((But.refl _ _ _).set (p := ⟨G, k * 2, none⟩) (Nat.le_refl G) (Nat.lt_succ_self G) (.bool u.g)).set (p := ⟨G, k * 2 + 1, none⟩) (Nat.le_refl G) (Nat.lt_succ_self G) (.slice u.a u.n u.c))

/-- Some values in a row that is the law's own, at block G; their numbers in blocks from lo to below hi. -/
structure POwB (lo hi : Nat) (w : World) (G n c : Nat) (l : List (BV × BD)) : Prop where
  row : ∃ M, w.ownsRow G 27 2 (.slice (some ⟨G, 0, none⟩) n c) n M ∧ ∀ i (h : i < l.length), M[i * 2]? = some (.bool l[i].1.g) ∧ M[i * 2 + 1]? = some (.slice l[i].1.a l[i].1.n l[i].1.c)
  own : AllOwn lo hi w (zipPB l)
  ar : ∀ p ∈ l, AllAr w [(p.1, p.2)]
  len : l.length = n
theorem ownsRow_laterB {w w' : World} {G g n c size : Nat} {e : TypeId} {M : List Value} (h : w.ownsRow G e size (.slice (some ⟨g, 0, none⟩) n c) n M) (hb : Below w.heap.size w w') : w'.ownsRow G e size (.slice (some ⟨g, 0, none⟩) n c) n M := by
  refine ⟨h.1, ?_⟩
  rcases h.2 with ⟨h', _⟩ | ⟨g', cap, cur, hv, h1, hg, r⟩
  · simp at h'
  · refine .inr ⟨g', cap, cur, hv, h1, ?_, r⟩
    rw [hb.block g' (Array.getElem?_eq_some_iff.1 hg).1]
    exact hg
theorem POwB.later {lo hi : Nat} {w w' : World} {G n c : Nat} {l : List (BV × BD)} (h : POwB lo hi w G n c l) (hb : Below w.heap.size w w') : POwB lo hi w' G n c l := by
  obtain ⟨M, hr, hM⟩ := h.row
  exact ⟨⟨M, ownsRow_laterB hr hb, hM⟩, h.own.later hb, fun p hp => (h.ar p hp).later hb, h.len⟩
theorem POwB.arg {lo hi : Nat} {w : World} {G n c : Nat} {l : List (BV × BD)} (h : POwB lo hi w G n c l) : PArB w (some ⟨G, 0, none⟩) n c l := by
  obtain ⟨M, hr, hM⟩ := h.row
  have hl := h.len
  have h2 := hr.2
  rcases h2 with ⟨h', _⟩ | ⟨g', cap, cur, hv, h1, hg, r1, r2, r3⟩
  · simp at h'
  simp only [Value.slice.injEq, Option.some.injEq, Addr.mk.injEq, and_true, true_and] at hv
  obtain ⟨rfl, rfl⟩ := hv
  refine ⟨.inr ⟨G, 0, rfl, (Array.getElem?_eq_some_iff.1 hg).1, fun i hi => ?_⟩, h.ar, hl, r1, r2⟩
  have hc := hM i hi
  refine ⟨?_, ?_⟩ <;> rw [Nat.zero_add, hr.cellAt _ (by omega)]
  · exact hc.1
  · exact hc.2
theorem Try.info27 : (Try.prog.info? 27).map (fun i => (i.zero, i.size, i.bytes)) = some (some (.agg #[.bool false, .slice none 0 0]), 2, 32) := by kernel_rfl
theorem set_rowB {M : List Value} {us : List (BV × BD)} {n k : Nat} {u : BV} {d : BD} (hM : M.length = n * 2) (hk : k < n) (hu : us.length = k) (h : ∀ i (h : i < us.length), M[i * 2]? = some (.bool us[i].1.g) ∧ M[i * 2 + 1]? = some (.slice us[i].1.a us[i].1.n us[i].1.c)) :
    ∀ i (h : i < (us ++ [(u, d)]).length), ((M.set (k * 2) (.bool u.g)).set (k * 2 + 1) (.slice u.a u.n u.c))[i * 2]? = some (.bool (us ++ [(u, d)])[i].1.g) ∧ ((M.set (k * 2) (.bool u.g)).set (k * 2 + 1) (.slice u.a u.n u.c))[i * 2 + 1]? = some (.slice (us ++ [(u, d)])[i].1.a (us ++ [(u, d)])[i].1.n (us ++ [(u, d)])[i].1.c) := by
  intro i hi
  by_cases e : i < k
  · have hi' : i < us.length := by omega
    have h1 := h i hi'
    rw [List.getElem_append_left hi']
    simp only [List.getElem?_set]
    refine ⟨?_, ?_⟩
    · rw [if_neg (by omega), if_neg (by omega)]; exact h1.1
    · rw [if_neg (by omega), if_neg (by omega)]; exact h1.2
  · obtain rfl : i = k := by simp at hi; omega
    subst hu
    rw [List.getElem_append_right (Nat.le_refl _)]
    simp only [Nat.sub_self, List.getElem_cons_zero]
    refine ⟨?_, ?_⟩
    · simp only [List.getElem?_set, List.length_set]; rw [if_neg (by omega)]; rw [if_pos trivial, if_pos (by omega)]
    · simp only [List.getElem?_set, List.length_set]; rw [if_pos trivial, if_pos (by omega)]

set_option maxHeartbeats 4000000 in
theorem toPB (a : Option Addr) (n c : Nat) (l : List (BV × BD)) (w : World) (h : PSlB w a l) (hn : l.length = n) (h1 : n ≤ 1048576) (ml : ∀ p ∈ l, p.1.n ≤ 1048576) :
    Calls Try.prog 55 #[.slice a n c] w fun e w' => ∃ l' : List (BV × BD), e = .returned (.slice (some ⟨w.heap.size, 0, none⟩) n n) ∧ Below w.heap.size w w' ∧ w.heap.size < w'.heap.size ∧ l'.map Prod.snd = l.map Prod.snd ∧ POwB (w.heap.size + 1) w'.heap.size w' w.heap.size n n l' := by
  obtain ⟨i0, hi, hz0, hz1, hz2⟩ := info_parts Try.info27
  have HS := hide h
  have HN := hide hn
  have ML := hide ml
  clear h hn ml
  go_enter Try.func55, Try.ntmps55
  go_wp2_with (at_make; refine wpList_make_full _ rfl _ _ 33 rfl w.heap.size 27 i0 (.agg #[.bool false, .slice none 0 0]) 2 Try.underlying33 hi hz0 hz1 .i64 .i64 _ _ n rfl rfl rfl rfl ?c1 ?c2 ?c3 ?_)
  case c1 => rw [hz2]; omega
  case c2 => unfold maxLen; omega
  case c3 => exact Nat.le_refl _
  intro w1 hown hgrow
  have hb0 : Below w.heap.size w w1 := (Below.refl _ _).grown hgrow (Nat.le_refl _) (fun k e => by cases e)
  have P0 : Hid (∃ M, w1.ownsRow w.heap.size 27 2 (.slice (some ⟨w.heap.size, 0, none⟩) n n) n M) := hide ⟨_, hown⟩
  have z0 : w.heap.size < w1.heap.size := by
    rcases hown.2 with ⟨h', _⟩ | ⟨g', cap, cur, hv, _, hg, _⟩
    · simp at h'
    · simp only [Value.slice.injEq, Option.some.injEq, Addr.mk.injEq, and_true, true_and] at hv
      have := (Array.getElem?_eq_some_iff.1 hg).1
      omega
  clear hown hgrow hi hz0 hz1 hz2
  have HB0 := hide hb0
  clear hb0
  go_wp2
  go_loopw [4] (fun iv wr => ∃ (k : Nat) (us : List (BV × BD)), k ≤ n ∧ iv = .int .i64 k ∧ us.length = k ∧ w.heap.size < wr.heap.size ∧ Hid (us.map Prod.snd = (l.take k).map Prod.snd) ∧ Hid (∃ M, wr.ownsRow w.heap.size 27 2 (.slice (some ⟨w.heap.size, 0, none⟩) n n) n M ∧ ∀ i (h : i < us.length), M[i * 2]? = some (.bool us[i].1.g) ∧ M[i * 2 + 1]? = some (.slice us[i].1.a us[i].1.n us[i].1.c)) ∧ Hid (AllOwn (w.heap.size + 1) wr.heap.size wr (zipPB us)) ∧ Hid (∀ p ∈ us, AllAr wr [(p.1, p.2)]) ∧ Hid (Below w.heap.size w wr)) (fun iv _ => n - (intOf iv).toNat)
  case atStart =>
    obtain ⟨M, hM⟩ := unhide P0
    exact ⟨0, [], Nat.zero_le _, rfl, rfl, z0, hide (by simp), hide ⟨M, hM, fun i hi => absurd hi (by simp)⟩, hide (AllOwn.nil _ _ _), hide (fun p hp => by cases hp), HB0⟩
  case round =>
    clear P0 HB0 z0
    obtain ⟨k, us, hk, rfl, hu, z1, ED, EM, OO, AA, HB⟩ := hrel
    by_cases hlt : k < n
    · have hlt' : (k : Int) < (n : Int) := by omega
      rcases (unhide HS).at_ with e | ⟨b, off, rfl, hb, hc⟩
      · exact absurd (unhide HN) (by rw [e]; simp; omega)
      have e0 := hc k (by rw [unhide HN]; exact hlt)
      obtain ⟨y, hy⟩ : ∃ y, y = l[k]'(by rw [unhide HN]; exact hlt) := ⟨_, rfl⟩
      rw [← hy] at e0
      have MY : Hid (y ∈ l) := hide (by rw [hy]; exact List.getElem_mem _)
      have EY := hide hy
      clear hy
      have E0 : wr.cell? ⟨b, off + k * 2, none⟩ = some (.bool y.1.g) := ((unhide HB).cell (p := ⟨b, off + k * 2, none⟩) hb).trans (e0.1)
      have E1 : wr.cell? ⟨b, off + k * 2 + 1, none⟩ = some (.slice y.1.a y.1.n y.1.c) := ((unhide HB).cell (p := ⟨b, off + k * 2 + 1, none⟩) hb).trans (e0.2)
      clear e0
      have TK : Hid ((l.take (k + 1)).map Prod.snd = us.map Prod.snd ++ [y.2]) := hide (by have h := take_succB (l := l) (i := k) (by rw [unhide HN]; exact hlt); rw [← unhide EY] at h; rw [h, List.map_append, ← unhide ED]; rfl)
      have j0 := (unhide ML) y (unhide MY)
      have R1 := hide (((unhide HS).rd y (unhide MY)).later (unhide HB))
      clear hc
      go_wp2_with fail
      refine (toB_l y.1 y.2 _ (unhide R1) j0).mono ?_
      rintro e w2 ⟨u, rfl, hb2, hlens, ho, ha⟩
      clear hlens
      have z2 := hb2.size
      have HB1 := hide (below_on (unhide HB) hb2)
      obtain ⟨M, hM, hL⟩ := unhide EM
      replace hM := ownsRow_laterB hM hb2
      have OO2 := hide ((unhide OO).later hb2)
      have AA2 := hide (fun p hp => ((unhide AA) p hp).later hb2)
      have AU := hide ho
      have AV := hide ha
      have old0 : ∃ x, w2.cell? ⟨w.heap.size, k * 2, none⟩ = some x := by
        have hl := hM.1
        rw [hM.cellAt _ (by omega)]
        exact ⟨_, List.getElem?_eq_getElem (by omega)⟩
      obtain ⟨x0, o0⟩ := old0
      have old1 : ∃ x, w2.cell? ⟨w.heap.size, k * 2 + 1, none⟩ = some x := by
        have hl := hM.1
        rw [hM.cellAt _ (by omega)]
        exact ⟨_, List.getElem?_eq_getElem (by omega)⟩
      obtain ⟨x1, o1⟩ := old1
      have fr : ∀ o, w2.frozen? ⟨w.heap.size, o, none⟩ = false := fun o => hM.frozenAt o
      have HM := hide hM
      have HL := hide hL
      clear hM hL hb2 ho ha EM OO AA E0 E1
      go_wp2
      go_roundw
      case rel =>
        have hM := unhide HM
        have bt : But w.heap.size (w.heap.size + 1) w2 ((w2.setCell ⟨w.heap.size, k * 2, none⟩ (.bool u.g)).setCell ⟨w.heap.size, k * 2 + 1, none⟩ (.slice u.a u.n u.c)) := but_rowB
        refine ⟨k + 1, us ++ [(u, y.2)], by omega, by go_num, by simp [hu], Nat.lt_of_lt_of_le (by omega) bt.size, hide (by rw [unhide TK, List.map_append]; rfl), hide ⟨_, (World.ownsRow.stored (World.ownsRow.stored hM (k * 2) (.bool u.g)).1 (k * 2 + 1) (.slice u.a u.n u.c)).1, set_rowB hM.1 hlt hu (unhide HL)⟩, hide ?_, hide ?_, hide ?_⟩
        · rw [zipPB_append, zipPB_one]
          exact (((unhide OO2).join (unhide AU) (by omega) (by omega)).but bt (.inr (Nat.le_refl _))).wide (Nat.le_refl _) bt.size
        · intro p hp x hx
          have own := (((unhide OO2).join (unhide AU) (by omega) (by omega)))
          have hAr : AllAr w2 (zipPB us ++ [(u, y.2)]) := fun x hx => by
            rcases List.mem_append.1 hx with hx | hx
            · obtain ⟨p, hp, hx⟩ := List.mem_flatMap.1 hx
              exact (unhide AA2) p hp x hx
            · exact (unhide AV) x hx
          refine ar_fin bt own hAr (Nat.le_refl _) x ?_
          rcases List.mem_append.1 hp with hp | hp
          · exact List.mem_append_left _ (zipPB_mem hp hx)
          · obtain rfl := List.mem_singleton.1 hp
            exact List.mem_append_right _ hx
        · exact bt.below (unhide HB1) (Nat.le_refl _) (by have := (unhide HB1).size; omega)
      case measure => simp [intOf]; omega
    · obtain rfl : k = n := by omega
      have EL := hide (show us.map Prod.snd = l.map Prod.snd from by have := unhide ED; rw [← unhide HN, List.take_length] at this; exact this)
      go_wp2
      go_ret
      exact ⟨us, rfl, unhide HB, z1, unhide EL, ⟨unhide EM, unhide OO, unhide AA, hu⟩⟩
end Go.Proofs.Ytaaajmdneaaeeaa
namespace Go.Proofs.Ytaaajmdneaaeeaa
set_option linter.unusedVariables false
set_option maxRecDepth 100000
set_option linter.unusedSimpArgs false

def sumTo : Nat → (Nat → Int) → Int
  | 0, _ => 0
  | n + 1, f => sumTo n f + f n
theorem sumTo_congr {n : Nat} {f g : Nat → Int} (h : ∀ i, i < n → f i = g i) : sumTo n f = sumTo n g := by
  induction n with
  | zero => rfl
  | succ n ih => simp only [sumTo]; rw [ih (fun i hi => h i (by omega)), h n (by omega)]
theorem sumTo_add (n : Nat) (f g : Nat → Int) : sumTo n (fun i => f i + g i) = sumTo n f + sumTo n g := by
  induction n with
  | zero => rfl
  | succ n ih => simp only [sumTo]; rw [ih]; omega
theorem sumTo_mul (n : Nat) (a : Int) (f : Nat → Int) : sumTo n (fun i => a * f i) = a * sumTo n f := by
  induction n with
  | zero => simp [sumTo]
  | succ n ih => simp only [sumTo]; rw [ih, Int.mul_add]
theorem sumTo_zero {n : Nat} {f : Nat → Int} (h : ∀ i, i < n → f i = 0) : sumTo n f = 0 := by
  induction n with
  | zero => rfl
  | succ n ih => simp only [sumTo]; rw [ih (fun i hi => h i (by omega)), h n (by omega)]; rfl
theorem sumTo_split (a b : Nat) (f : Nat → Int) : sumTo (a + b) f = sumTo a f + sumTo b (fun i => f (a + i)) := by
  induction b with
  | zero => simp [sumTo]
  | succ b ih => rw [← Nat.add_assoc]; simp only [sumTo]; rw [ih]; omega
theorem sumTo_left (n : Nat) (f : Nat → Int) : sumTo (n + 1) f = f 0 + sumTo n (fun i => f (i + 1)) := by
  rw [Nat.add_comm, sumTo_split]
  simp [sumTo, Nat.add_comm]
theorem sumTo_swap (m n : Nat) (f : Nat → Nat → Int) : sumTo m (fun i => sumTo n (fun j => f i j)) = sumTo n (fun j => sumTo m (fun i => f i j)) := by
  induction m with
  | zero => simp only [sumTo]; rw [sumTo_zero (fun _ _ => rfl)]
  | succ m ih => simp only [sumTo]; rw [ih, ← sumTo_add]
def alt (i : Nat) : Int := if i % 2 = 0 then 1 else -1
theorem alt_succ (i : Nat) : alt (i + 1) = - alt i := by
  unfold alt
  split <;> split <;> omega
theorem alt_two (i : Nat) : alt (i + i) = 1 := by
  unfold alt
  rw [if_pos (by omega)]
/-- The determinant of rows (by name) and columns (as functions of a row's name), by its first row. -/
def det : List Nat → List (Nat → Int) → Int
  | [], _ => 1
  | r :: rs, cs => sumTo cs.length (fun i => alt i * (cs.getD i (fun _ => 0)) r * det rs (cs.eraseIdx i))
theorem getD_left {α : Type} (L R : List α) (d : α) {i : Nat} (h : i < L.length) : (L ++ R).getD i d = L.getD i d := by
  simp [List.getD_eq_getElem?_getD, List.getElem?_append_left h]
theorem det_cons (r : Nat) (rs : List Nat) (cs : List (Nat → Int)) : det (r :: rs) cs = sumTo cs.length (fun i => alt i * (cs.getD i (fun _ => 0)) r * det rs (cs.eraseIdx i)) := rfl
/-- The sum by the first row, with one column in view. -/
theorem det_mid (r : Nat) (rs : List Nat) (L R : List (Nat → Int)) (x : Nat → Int) :
    det (r :: rs) (L ++ x :: R) = sumTo L.length (fun i => alt i * (L.getD i (fun _ => 0)) r * det rs (L.eraseIdx i ++ x :: R)) + (alt L.length * x r * det rs (L ++ R) + sumTo R.length (fun i => alt (L.length + (1 + i)) * (R.getD i (fun _ => 0)) r * det rs (L ++ x :: R.eraseIdx i))) := by
  rw [det_cons, show (L ++ x :: R).length = L.length + (1 + R.length) by simp; omega, sumTo_split, sumTo_split]
  congr 1
  · refine sumTo_congr (fun i hi => ?_)
    rw [List.eraseIdx_append_of_lt_length hi, getD_left _ _ _ hi]
  · congr 1
    · simp [sumTo, List.eraseIdx_append_of_length_le]
    · refine sumTo_congr (fun i hi => ?_)
      rw [List.eraseIdx_append_of_length_le (by omega)]
      congr 2
      · congr 1
        simp [List.getElem?_append_right, show L.length + (1 + i) - L.length = i + 1 by omega]
      · rw [show L.length + (1 + i) - L.length = i + 1 by omega]; rfl
theorem det_lin (rs : List Nat) : ∀ (L R : List (Nat → Int)) (u v : Nat → Int) (a b : Int), rs.length = L.length + 1 + R.length →
    det rs (L ++ (fun r => a * u r + b * v r) :: R) = a * det rs (L ++ u :: R) + b * det rs (L ++ v :: R) := by
  induction rs with
  | nil => intro L R u v a b h; simp at h; omega
  | cons r rs ih =>
    intro L R u v a b h
    simp only [List.length_cons] at h
    rw [det_mid, det_mid, det_mid]
    have e1 : sumTo L.length (fun i => alt i * (L.getD i (fun _ => 0)) r * det rs (L.eraseIdx i ++ (fun r => a * u r + b * v r) :: R)) = sumTo L.length (fun i => a * (alt i * (L.getD i (fun _ => 0)) r * det rs (L.eraseIdx i ++ u :: R)) + b * (alt i * (L.getD i (fun _ => 0)) r * det rs (L.eraseIdx i ++ v :: R))) := by
      refine sumTo_congr (fun i hi => ?_)
      rw [ih (L.eraseIdx i) R u v a b (by rw [List.length_eraseIdx_of_lt hi]; omega)]
      grind
    have e2 : sumTo R.length (fun i => alt (L.length + (1 + i)) * (R.getD i (fun _ => 0)) r * det rs (L ++ (fun r => a * u r + b * v r) :: R.eraseIdx i)) = sumTo R.length (fun i => a * (alt (L.length + (1 + i)) * (R.getD i (fun _ => 0)) r * det rs (L ++ u :: R.eraseIdx i)) + b * (alt (L.length + (1 + i)) * (R.getD i (fun _ => 0)) r * det rs (L ++ v :: R.eraseIdx i))) := by
      refine sumTo_congr (fun i hi => ?_)
      rw [ih L (R.eraseIdx i) u v a b (by rw [List.length_eraseIdx_of_lt hi]; omega)]
      grind
    rw [e1, e2, sumTo_add, sumTo_add, sumTo_mul, sumTo_mul, sumTo_mul, sumTo_mul]
    grind
theorem det_adj (rs : List Nat) : ∀ (L R : List (Nat → Int)) (x : Nat → Int), rs.length = L.length + 2 + R.length → det rs (L ++ x :: x :: R) = 0 := by
  induction rs with
  | nil => intro L R x h; simp at h; omega
  | cons r rs ih =>
    intro L R x h
    simp only [List.length_cons] at h
    rw [det_mid, List.length_cons, Nat.add_comm R.length 1, sumTo_split]
    have e1 : sumTo L.length (fun i => alt i * (L.getD i (fun _ => 0)) r * det rs (L.eraseIdx i ++ x :: x :: R)) = 0 := sumTo_zero (fun i hi => by
      rw [ih (L.eraseIdx i) R x (by rw [List.length_eraseIdx_of_lt hi]; omega)]; simp)
    have e2 : sumTo R.length (fun i => alt (L.length + (1 + (1 + i))) * ((x :: R).getD (1 + i) (fun _ => 0)) r * det rs (L ++ x :: (x :: R).eraseIdx (1 + i))) = 0 := sumTo_zero (fun i hi => by
      rw [show (x :: R).eraseIdx (1 + i) = x :: R.eraseIdx i by rw [Nat.add_comm]; rfl]
      rw [ih L (R.eraseIdx i) x (by rw [List.length_eraseIdx_of_lt hi]; omega)]; simp)
    rw [e1, e2]
    simp only [sumTo]
    simp [alt_succ]
    grind
theorem det_swap (rs : List Nat) (L R : List (Nat → Int)) (x y : Nat → Int) (h : rs.length = L.length + 2 + R.length) : det rs (L ++ x :: y :: R) = - det rs (L ++ y :: x :: R) := by
  have h0 := det_adj rs L R (fun r => 1 * x r + 1 * y r) h
  rw [det_lin rs L ((fun r => 1 * x r + 1 * y r) :: R) x y 1 1 (by simp; omega)] at h0
  have h1 := det_lin rs (L ++ [x]) R x y 1 1 (by simp; omega)
  have h2 := det_lin rs (L ++ [y]) R x y 1 1 (by simp; omega)
  simp only [List.append_assoc, List.singleton_append] at h1 h2
  rw [h1, h2, det_adj rs L R x h, det_adj rs L R y h] at h0
  omega
theorem det_eq (rs : List Nat) (R : List (Nat → Int)) (x : Nat → Int) : ∀ (M L : List (Nat → Int)), rs.length = L.length + M.length + 2 + R.length → det rs (L ++ x :: (M ++ x :: R)) = 0 := by
  intro M
  induction M with
  | nil => intro L h; exact det_adj rs L R x (by simp at h; omega)
  | cons m M ih =>
    intro L h
    simp only [List.length_cons] at h
    rw [List.cons_append, det_swap rs L (M ++ x :: R) x m (by simp; omega)]
    have := ih (L ++ [m]) (by simp; omega)
    simp only [List.append_assoc, List.singleton_append] at this
    rw [this]; rfl
theorem getD_snoc_lt (cs : List (Nat → Int)) (c : Nat → Int) {i : Nat} (h : i < cs.length) : (cs ++ [c]).getD i (fun _ => 0) = cs.getD i (fun _ => 0) := getD_left _ _ _ h
/-- By the last column. -/
theorem det_last (rs : List Nat) : ∀ (cs : List (Nat → Int)) (c : Nat → Int), rs.length = cs.length + 1 →
    det rs (cs ++ [c]) = sumTo rs.length (fun t => alt (cs.length + t) * det (rs.eraseIdx t) cs * c (rs.getD t 0)) := by
  induction rs with
  | nil => intro cs c h; simp at h
  | cons r rs ih =>
    intro cs c h
    simp only [List.length_cons, Nat.add_right_cancel_iff] at h
    rw [List.length_cons, sumTo_left, det_cons, List.length_append, List.length_singleton]
    simp only [sumTo]
    have e1 : sumTo cs.length (fun i => alt i * ((cs ++ [c]).getD i (fun _ => 0)) r * det rs ((cs ++ [c]).eraseIdx i)) = sumTo cs.length (fun i => sumTo rs.length (fun t => alt (cs.length + (t + 1)) * (alt i * (cs.getD i (fun _ => 0)) r * det (rs.eraseIdx t) (cs.eraseIdx i)) * c (rs.getD t 0))) := by
      refine sumTo_congr (fun i hi => ?_)
      rw [List.eraseIdx_append_of_lt_length hi, getD_snoc_lt _ _ hi, ih (cs.eraseIdx i) c (by rw [List.length_eraseIdx_of_lt hi]; omega), ← sumTo_mul]
      refine sumTo_congr (fun t ht => ?_)
      have ea : alt (cs.length + (t + 1)) = alt ((cs.eraseIdx i).length + t) := by
        rw [List.length_eraseIdx_of_lt hi]
        have : cs.length + (t + 1) = (cs.length - 1 + t) + 1 + 1 := by omega
        rw [this, alt_succ, alt_succ]; omega
      rw [ea]
      grind
    have e2 : sumTo cs.length (fun i => sumTo rs.length (fun t => alt (cs.length + (t + 1)) * (alt i * (cs.getD i (fun _ => 0)) r * det (rs.eraseIdx t) (cs.eraseIdx i)) * c (rs.getD t 0))) = sumTo rs.length (fun t => alt (cs.length + (t + 1)) * det (r :: rs.eraseIdx t) cs * c (rs.getD t 0)) := by
      rw [sumTo_swap]
      refine sumTo_congr (fun t ht => ?_)
      rw [det_cons, show ∀ S : Int, alt (cs.length + (t + 1)) * S * c (rs.getD t 0) = (alt (cs.length + (t + 1)) * c (rs.getD t 0)) * S from fun S => by grind, ← sumTo_mul]
      exact sumTo_congr (fun i _ => by grind)
    rw [e1, e2]
    have e3 : (cs ++ [c]).getD cs.length (fun _ => 0) = c := by simp [List.getD_eq_getElem?_getD]
    have e4 : (cs ++ [c]).eraseIdx cs.length = cs := by rw [List.eraseIdx_append_of_length_le (Nat.le_refl _)]; simp
    rw [e3, e4]
    simp only [List.eraseIdx_cons_succ, List.getD_cons_succ, List.eraseIdx_zero, List.tail_cons, List.getD_cons_zero, Nat.add_zero]
    grind

/-- Entries by names of rows and of columns. -/
def col (A : Nat → Nat → Int) (j : Nat) : Nat → Int := fun r => A r j
def base (A : Nat → Nat → Int) (k : Nat) : List (Nat → Int) := (List.range k).map (col A)
theorem base_len (A : Nat → Nat → Int) (k : Nat) : (base A k).length = k := by simp [base]
theorem base_succ (A : Nat → Nat → Int) (k : Nat) : base A (k + 1) = base A k ++ [col A k] := by simp [base, List.range_succ]
/-- The determinant of the first k rows and the row i, of the first k columns and the column j. -/
def mnr (A : Nat → Nat → Int) (k i j : Nat) : Int := det (List.range k ++ [i]) (base A k ++ [col A j])
def lead (A : Nat → Nat → Int) (k : Nat) : Int := det (List.range k) (base A k)
theorem lead_zero (A : Nat → Nat → Int) : lead A 0 = 1 := rfl
theorem lead_succ (A : Nat → Nat → Int) (k : Nat) : lead A (k + 1) = mnr A k k k := by unfold lead mnr; rw [List.range_succ, base_succ]
theorem mnr_zero (A : Nat → Nat → Int) (i j : Nat) : mnr A 0 i j = A i j := by
  simp [mnr, base, det, sumTo, alt, col]
theorem mnr_low (A : Nat → Nat → Int) (k i : Nat) {j : Nat} (h : j < k) : mnr A k i j = 0 := by
  have e : base A k = (base A k).take j ++ col A j :: (base A k).drop (j + 1) := by
    have h1 : j < (base A k).length := by rw [base_len]; exact h
    have h2 : (base A k)[j] = col A j := by simp [base]
    rw [← h2]
    simp
  unfold mnr
  rw [e, List.append_assoc, List.cons_append]
  refine det_eq _ [] (col A j) _ _ ?_
  simp [base_len]
  omega
theorem mnr_row (A : Nat → Nat → Int) (k i : Nat) : ∃ e : Nat → Int, ∀ j, mnr A k i j = sumTo k (fun t => e t * A t j) + lead A k * A i j := by
  refine ⟨fun t => alt (k + t) * det ((List.range k ++ [i]).eraseIdx t) (base A k), fun j => ?_⟩
  unfold mnr
  rw [det_last _ _ _ (by simp [base_len]), List.length_append, List.length_range, List.length_singleton, base_len]
  simp only [sumTo]
  congr 1
  · refine sumTo_congr (fun t ht => ?_)
    rw [getD_left _ _ _ (by simpa using ht)]
    simp [List.getD_eq_getElem?_getD, ht, col]
  · rw [alt_two, List.eraseIdx_append_of_length_le (by simp)]
    simp [lead, List.getD_eq_getElem?_getD, col]
theorem mnr_two (A : Nat → Nat → Int) (k i : Nat) : ∃ e : Nat → Int, ∀ j, mnr A (k + 1) i j = sumTo k (fun t => e t * A t j) - mnr A k i k * A k j + mnr A k k k * A i j := by
  refine ⟨fun t => alt (k + 1 + t) * det ((List.range (k + 1) ++ [i]).eraseIdx t) (base A (k + 1)), fun j => ?_⟩
  rw [← lead_succ]
  show det (List.range (k + 1) ++ [i]) (base A (k + 1) ++ [col A j]) = _
  rw [det_last _ _ _ (by simp [base_len]), List.length_append, List.length_range, List.length_singleton, base_len]
  simp only [sumTo]
  have e1 : alt (k + 1 + (k + 1)) = 1 := alt_two _
  have e2 : alt (k + 1 + k) = -1 := by rw [show k + 1 + k = (k + k) + 1 by omega, alt_succ, alt_two]
  have e3 : (List.range (k + 1) ++ [i]).eraseIdx (k + 1) = List.range (k + 1) := by rw [List.eraseIdx_append_of_length_le (by simp)]; simp
  have e4 : (List.range (k + 1) ++ [i]).eraseIdx k = List.range k ++ [i] := by
    rw [List.range_succ, List.append_assoc, List.eraseIdx_append_of_length_le (by simp)]; simp
  have e5 : (List.range (k + 1) ++ [i]).getD (k + 1) 0 = i := by simp [List.getD_eq_getElem?_getD]
  have e6 : (List.range (k + 1) ++ [i]).getD k 0 = k := by simp [List.getD_eq_getElem?_getD, List.getElem?_append]
  rw [e1, e2, e3, e4, e5, e6]
  have e7 : det (List.range k ++ [i]) (base A (k + 1)) = mnr A k i k := by unfold mnr; rw [base_succ]
  rw [e7]
  have e8 : sumTo k (fun t => alt (k + 1 + t) * det ((List.range (k + 1) ++ [i]).eraseIdx t) (base A (k + 1)) * col A j ((List.range (k + 1) ++ [i]).getD t 0)) = sumTo k (fun t => alt (k + 1 + t) * det ((List.range (k + 1) ++ [i]).eraseIdx t) (base A (k + 1)) * A t j) := by
    refine sumTo_congr (fun t ht => ?_)
    rw [getD_left _ _ _ (by simp; omega)]
    have : (List.range (k + 1)).getD t 0 = t := by simp [List.getD_eq_getElem?_getD, show t < k + 1 by omega]
    rw [this]; rfl
  rw [e8]
  show _ + (-1 * _ * A k j) + (1 * lead A (k + 1) * A i j) = _
  grind
/-- Rows whose leading determinants are not 0 bear no sum of noughts. -/
theorem rows_free (A : Nat → Nat → Int) : ∀ (k : Nat), (∀ r, r ≤ k → lead A r ≠ 0) → ∀ e : Nat → Int, (∀ j, j < k → sumTo k (fun t => e t * A t j) = 0) → ∀ t, t < k → e t = 0 := by
  intro k
  induction k with
  | zero => intro _ e _ t ht; omega
  | succ k ih =>
    intro hl e h
    obtain ⟨f, hf⟩ := mnr_row A k k
    have l0 := hl k (by omega)
    have l1 := hl (k + 1) (by omega)
    rw [lead_succ] at l1
    have key : ∀ j, lead A k * sumTo (k + 1) (fun t => e t * A t j) = sumTo k (fun t => (lead A k * e t - e k * f t) * A t j) + e k * mnr A k k j := by
      intro j
      simp only [sumTo]
      rw [hf j, Int.mul_add, Int.mul_add, ← sumTo_mul, ← sumTo_mul]
      have : sumTo k (fun t => (lead A k * e t - e k * f t) * A t j) + sumTo k (fun t => e k * (f t * A t j)) = sumTo k (fun t => lead A k * (e t * A t j)) := by
        rw [← sumTo_add]
        exact sumTo_congr (fun t _ => by grind)
      rw [← this]
      grind
    have low : ∀ t, t < k → lead A k * e t - e k * f t = 0 := by
      refine ih (fun r hr => hl r (by omega)) (fun t => lead A k * e t - e k * f t) (fun j hj => ?_)
      have := key j
      rw [h j (by omega), mnr_low A k k hj] at this
      simp at this
      omega
    have ek : e k = 0 := by
      have := key k
      rw [h k (by omega), sumTo_zero (fun t ht => by rw [low t ht]; simp)] at this
      rw [Int.mul_zero, Int.zero_add] at this
      rcases Int.mul_eq_zero.1 this.symm with h | h
      · exact h
      · exact absurd h l1
    intro t ht
    by_cases htk : t = k
    · rw [htk]; exact ek
    · have := low t (by omega)
      rw [ek, Int.zero_mul, Int.sub_zero] at this
      rcases Int.mul_eq_zero.1 this with h | h
      · exact absurd h l0
      · exact h
/-- Bareiss: what is divided leaves nothing. -/
theorem bareiss (A : Nat → Nat → Int) (k i j : Nat) (hl : ∀ r, r ≤ k → lead A r ≠ 0) : lead A k * mnr A (k + 1) i j = mnr A k k k * mnr A k i j - mnr A k i k * mnr A k k j := by
  obtain ⟨e, he⟩ := mnr_two A k i
  obtain ⟨f, hf⟩ := mnr_row A k i
  obtain ⟨g, hg⟩ := mnr_row A k k
  have key : ∀ j, (mnr A k k k * mnr A k i j - mnr A k i k * mnr A k k j) - lead A k * mnr A (k + 1) i j = sumTo k (fun t => (mnr A k k k * f t - mnr A k i k * g t - lead A k * e t) * A t j) := by
    intro j
    rw [he j, hf j, hg j]
    have : sumTo k (fun t => (mnr A k k k * f t - mnr A k i k * g t - lead A k * e t) * A t j) = sumTo k (fun t => mnr A k k k * (f t * A t j) + (- mnr A k i k * (g t * A t j) + - lead A k * (e t * A t j))) := sumTo_congr (fun t _ => by grind)
    rw [this, sumTo_add, sumTo_add, sumTo_mul, sumTo_mul, sumTo_mul]
    have e1 := hf k
    have e2 := hg k
    grind
  have z := rows_free A k hl (fun t => mnr A k k k * f t - mnr A k i k * g t - lead A k * e t) (fun j hj => by
    rw [← key j, mnr_low A k i hj, mnr_low A k k hj, mnr_low A (k + 1) i (by omega)]; simp)
  have := key j
  rw [sumTo_zero (fun t ht => by rw [z t ht]; simp)] at this
  omega
theorem map_erase {α β : Type} (f : α → β) : ∀ (l : List α) (i : Nat), (l.map f).eraseIdx i = (l.eraseIdx i).map f
  | [], _ => rfl
  | _ :: _, 0 => rfl
  | a :: l, i + 1 => by simp [map_erase f l i]
theorem det_congr {A A' : Nat → Nat → Int} (rs : List Nat) : ∀ js : List Nat, (∀ r ∈ rs, ∀ j ∈ js, A r j = A' r j) → det rs (js.map (col A)) = det rs (js.map (col A')) := by
  induction rs with
  | nil => intro js h; rfl
  | cons r rs ih =>
    intro js h
    rw [det_cons, det_cons, List.length_map, List.length_map]
    refine sumTo_congr (fun i hi => ?_)
    rw [map_erase, map_erase, ih (js.eraseIdx i) (fun r' hr j hj => h r' (List.mem_cons_of_mem _ hr) j (List.mem_of_mem_eraseIdx hj))]
    simp only [List.getD_eq_getElem?_getD, List.getElem?_map, List.getElem?_eq_getElem hi, Option.map_some, Option.getD_some, col]
    rw [h r List.mem_cons_self _ (List.getElem_mem hi)]
def fct : Nat → Nat
  | 0 => 1
  | n + 1 => (n + 1) * fct n
theorem sumTo_abs (n : Nat) (f : Nat → Int) (B : Nat) (h : ∀ i, i < n → (f i).natAbs ≤ B) : (sumTo n f).natAbs ≤ n * B := by
  induction n with
  | zero => simp [sumTo]
  | succ n ih =>
    have h1 := ih (fun i hi => h i (by omega))
    have h2 := h n (by omega)
    have h3 := Int.natAbs_add_le (sumTo n f) (f n)
    simp only [sumTo, Nat.succ_mul]
    omega
theorem alt_abs (i : Nat) : (alt i).natAbs = 1 := by unfold alt; split <;> rfl
theorem det_abs {B : Nat} (rs : List Nat) : ∀ cs : List (Nat → Int), rs.length = cs.length → (∀ r ∈ rs, ∀ c ∈ cs, (c r).natAbs ≤ B) → (det rs cs).natAbs ≤ fct rs.length * B ^ rs.length := by
  induction rs with
  | nil => intro cs h hB; simp [det, fct]
  | cons r rs ih =>
    intro cs h hB
    simp only [List.length_cons] at h
    rw [det_cons, List.length_cons]
    have h1 := sumTo_abs cs.length (fun i => alt i * (cs.getD i (fun _ => 0)) r * det rs (cs.eraseIdx i)) (B * (fct rs.length * B ^ rs.length)) (fun i hi => by
      rw [Int.natAbs_mul, Int.natAbs_mul, alt_abs, Nat.one_mul]
      refine Nat.mul_le_mul ?_ ?_
      · have : cs.getD i (fun _ => 0) = cs[i] := by simp [List.getD_eq_getElem?_getD, hi]
        rw [this]
        exact hB r List.mem_cons_self _ (List.getElem_mem hi)
      · exact ih (cs.eraseIdx i) (by rw [List.length_eraseIdx_of_lt hi]; omega) (fun r' hr c hc => hB r' (List.mem_cons_of_mem _ hr) c (List.mem_of_mem_eraseIdx hc)))
    refine Nat.le_trans h1 (Nat.le_of_eq ?_)
    rw [← h]
    simp only [fct, Nat.pow_succ]
    grind
theorem mnr_abs {A : Nat → Nat → Int} {B n : Nat} (k i j : Nat) (hi : i < n) (hj : j < n) (hk : k < n) (h : ∀ r c, r < n → c < n → (A r c).natAbs ≤ B) : (mnr A k i j).natAbs ≤ fct (k + 1) * B ^ (k + 1) := by
  have := det_abs (B := B) (List.range k ++ [i]) (base A k ++ [col A j]) (by simp [base_len]) (fun r hr c hc => by
    have hr' : r < n := by
      rcases List.mem_append.1 hr with hr | hr
      · have := List.mem_range.1 hr; omega
      · rw [List.mem_singleton.1 hr]; exact hi
    rcases List.mem_append.1 hc with hc | hc
    · obtain ⟨j', hj', rfl⟩ := List.mem_map.1 hc
      have := List.mem_range.1 hj'
      exact h r j' hr' (by omega)
    · rw [List.mem_singleton.1 hc]
      exact h r j hr' hj)
  simpa [mnr] using this

theorem det_map (f : Nat → Nat) (A : Nat → Nat → Int) (rs : List Nat) : ∀ js : List Nat, det (rs.map f) (js.map (col A)) = det rs (js.map (col (fun r j => A (f r) j))) := by
  induction rs with
  | nil => intro js; rfl
  | cons r rs ih =>
    intro js
    rw [List.map_cons, det_cons, det_cons, List.length_map, List.length_map]
    refine sumTo_congr (fun i hi => ?_)
    rw [map_erase, map_erase, ih (js.eraseIdx i)]
    simp only [List.getD_eq_getElem?_getD, List.getElem?_map, List.getElem?_eq_getElem hi, Option.map_some, Option.getD_some, col]
/-- Two rows change places. -/
def sw (a b i : Nat) : Nat := if i = a then b else if i = b then a else i
def swp (M : Nat → Nat → Int) (a b : Nat) : Nat → Nat → Int := fun i j => M (sw a b i) j
theorem mnr_swp (A : Nat → Nat → Int) (k a b r j : Nat) (ha : k ≤ a) (hb : k ≤ b) : mnr (swp A a b) k r j = mnr A k (sw a b r) j := by
  have e : List.range k ++ [sw a b r] = (List.range k ++ [r]).map (sw a b) := by
    rw [List.map_append]
    congr 1
    conv => lhs; rw [← List.map_id (List.range k)]
    refine List.map_congr_left (fun t ht => ?_)
    have := List.mem_range.1 ht
    unfold sw
    rw [if_neg (by omega), if_neg (by omega)]; rfl
  have h1 : ∀ B : Nat → Nat → Int, base B k ++ [col B j] = (List.range k ++ [j]).map (col B) := fun B => by simp [base]
  unfold mnr
  rw [h1, h1, e, det_map]
  rfl
theorem lead_swp (A : Nat → Nat → Int) (k a b : Nat) (ha : k ≤ a) (hb : k ≤ b) : lead (swp A a b) k = lead A k := by
  unfold lead base
  refine det_congr _ _ (fun r hr j hj => ?_)
  have := List.mem_range.1 hr
  show A (sw a b r) j = _
  unfold sw
  rw [if_neg (by omega), if_neg (by omega)]
/-- One step: all behind k. -/
def stp (M : Nat → Nat → Int) (k : Nat) (l : Int) : Nat → Nat → Int := fun i j => if k < i ∧ k < j then (M k k * M i j - M i k * M k j) / l else M i j
def nxt (M : Nat → Nat → Int) (n k : Nat) : Option Nat := (List.range n).find? (fun i => decide (k ≤ i) && decide (M i k ≠ 0))
theorem nxt_some {M : Nat → Nat → Int} {n k i : Nat} (h : nxt M n k = some i) : k ≤ i ∧ i < n ∧ M i k ≠ 0 := by
  unfold nxt at h
  have h1 := List.find?_some h
  have h2 := List.mem_range.1 (List.mem_of_find?_eq_some h)
  simp at h1
  exact ⟨h1.1, h2, h1.2⟩
theorem nxt_is {M : Nat → Nat → Int} {n k i : Nat} (h1 : k ≤ i) (h2 : i < n) (h3 : M i k ≠ 0) (h4 : ∀ t, k ≤ t → t < i → M t k = 0) : nxt M n k = some i := by
  unfold nxt
  rw [List.find?_range_eq_some]
  refine ⟨by simp [h1, h3], List.mem_range.2 h2, fun t ht => ?_⟩
  by_cases c : k ≤ t
  · simp [h4 t c ht]
  · simp [c]
theorem nxt_no {M : Nat → Nat → Int} {n k : Nat} (h : ∀ t, k ≤ t → t < n → M t k = 0) : nxt M n k = none := by
  unfold nxt
  rw [List.find?_eq_none]
  intro t ht
  have := List.mem_range.1 ht
  by_cases c : k ≤ t
  · simp [h t c this]
  · simp [c]
/-- The steps (Bareiss): the matrix, the last number, and whether the sign has turned. -/
def bst (A : Nat → Nat → Int) (n : Nat) : Nat → Option ((Nat → Nat → Int) × Int × Bool)
  | 0 => some (A, 1, false)
  | k + 1 => match bst A n k with
    | none => none
    | some (M, l, g) => match nxt M n k with
      | none => none
      | some i => some (stp (swp M k i) k l, M i k, if i = k then g else !g)
theorem bst_next {A : Nat → Nat → Int} {n k : Nat} {M : Nat → Nat → Int} {l : Int} {g : Bool} (h : bst A n k = some (M, l, g)) : bst A n (k + 1) = match nxt M n k with
      | none => none
      | some i => some (stp (swp M k i) k l, M i k, if i = k then g else !g) := by
  show (match bst A n k with | none => none | some (M, l, g) => _) = _
  rw [h]
theorem bst_none {A : Nat → Nat → Int} {n k m : Nat} (h : bst A n k = none) (hm : k ≤ m) : bst A n m = none := by
  induction m with
  | zero => obtain rfl : k = 0 := by omega
            exact h
  | succ m ih =>
    by_cases e : k = m + 1
    · rw [← e]; exact h
    · show (match bst A n m with | none => none | some (M, l, g) => _) = none
      rw [ih (by omega)]
def barVal (A : Nat → Nat → Int) (n : Nat) : Int := match bst A n n with
  | none => 0
  | some (_, l, g) => if g then -l else l
/-- Two rows are alike. -/
def Alk (A : Nat → Nat → Int) (n : Nat) : Prop := ∃ p q, p < n ∧ q < n ∧ p ≠ q ∧ ∀ j, j < n → A p j = A q j
/-- What holds at each step, of a matrix A' that has A's rows. -/
structure Binv (A : Nat → Nat → Int) (n B : Nat) (k : Nat) (M : Nat → Nat → Int) (l : Int) (A' : Nat → Nat → Int) : Prop where
  bd : ∀ r c, r < n → c < n → (A' r c).natAbs ≤ B
  al : Alk A n → Alk A' n
  m : ∀ i j, k ≤ i → i < n → k ≤ j → j < n → M i j = mnr A' k i j
  l : l = lead A' k
  nz : ∀ r, r ≤ k → lead A' r ≠ 0
theorem sw_lt {a b i n : Nat} (ha : a < n) (hb : b < n) (hi : i < n) : sw a b i < n := by unfold sw; split <;> (try split) <;> omega
theorem sw_inj {a b i j : Nat} (h : i ≠ j) : sw a b i ≠ sw a b j := by unfold sw; split <;> split <;> (try split) <;> (try split) <;> omega
theorem sw_sw (a b i : Nat) : sw a b (sw a b i) = i := by unfold sw; split <;> (try split) <;> (try split) <;> (try split) <;> omega
theorem sw_ge {a b i k : Nat} (ha : k ≤ a) (hb : k ≤ b) (hi : k ≤ i) : k ≤ sw a b i := by unfold sw; split <;> (try split) <;> omega
theorem Binv.next {A : Nat → Nat → Int} {n B k i : Nat} {M A' : Nat → Nat → Int} {l : Int} (h : Binv A n B k M l A') (hi : nxt M n k = some i) : Binv A n B (k + 1) (stp (swp M k i) k l) (M i k) (swp A' k i) := by
  obtain ⟨h1, h2, h3⟩ := nxt_some hi
  have hm : ∀ r j, k ≤ r → r < n → k ≤ j → j < n → swp M k i r j = mnr (swp A' k i) k r j := fun r j a b c d => by
    rw [mnr_swp A' k k i r j (Nat.le_refl _) h1]
    exact h.m _ j (sw_ge (Nat.le_refl _) h1 a) (sw_lt (by omega) h2 b) c d
  have nz : ∀ r, r ≤ k → lead (swp A' k i) r ≠ 0 := fun r hr => by
    rw [lead_swp A' r k i hr (by omega)]
    exact h.nz r hr
  have hp : M i k = mnr (swp A' k i) k k k := by
    rw [← hm k k (Nat.le_refl _) (by omega) (Nat.le_refl _) (by omega)]
    show _ = M (sw k i k) k
    unfold sw
    rw [if_pos rfl]
  have hl : l = lead (swp A' k i) k := by rw [lead_swp A' k k i (Nat.le_refl _) h1]; exact h.l
  refine ⟨fun r c hr hc => h.bd _ c (sw_lt (by omega) h2 hr) hc, fun ha => ?_, fun r j a b c d => ?_, ?_, fun r hr => ?_⟩
  · obtain ⟨p, q, hp, hq, hne, he⟩ := h.al ha
    refine ⟨sw k i p, sw k i q, sw_lt (by omega) h2 hp, sw_lt (by omega) h2 hq, sw_inj hne, fun j hj => ?_⟩
    show A' (sw k i (sw k i p)) j = A' (sw k i (sw k i q)) j
    rw [sw_sw, sw_sw]
    exact he j hj
  · unfold stp
    rw [if_pos ⟨by omega, by omega⟩, hm k k (Nat.le_refl _) (by omega) (Nat.le_refl _) (by omega), hm r j (by omega) b (by omega) d, hm r k (by omega) b (Nat.le_refl _) (by omega), hm k j (Nat.le_refl _) (by omega) (by omega) d, ← bareiss (swp A' k i) k r j nz, hl]
    exact Int.mul_ediv_cancel_left _ (nz k (Nat.le_refl _))
  · rw [lead_succ]; exact hp
  · by_cases e : r = k + 1
    · rw [e, lead_succ, ← hp]; exact h3
    · exact nz r (by omega)
/-- What is divided at a step leaves nothing. -/
theorem Binv.exact {A : Nat → Nat → Int} {n B k i : Nat} {M A' : Nat → Nat → Int} {l : Int} (h : Binv A n B k M l A') (hi : nxt M n k = some i) {r j : Nat} (a : k < r) (b : r < n) (c : k < j) (d : j < n) : l * stp (swp M k i) k l r j = swp M k i k k * swp M k i r j - swp M k i r k * swp M k i k j := by
  obtain ⟨h1, h2, h3⟩ := nxt_some hi
  have hn := h.next hi
  have hm : ∀ r j, k ≤ r → r < n → k ≤ j → j < n → swp M k i r j = mnr (swp A' k i) k r j := fun r j a b c d => by
    rw [mnr_swp A' k k i r j (Nat.le_refl _) h1]
    exact h.m _ j (sw_ge (Nat.le_refl _) h1 a) (sw_lt (by omega) h2 b) c d
  have nz : ∀ r, r ≤ k → lead (swp A' k i) r ≠ 0 := fun r hr => by
    rw [lead_swp A' r k i hr (by omega)]
    exact h.nz r hr
  have hl : l = lead (swp A' k i) k := by rw [lead_swp A' k k i (Nat.le_refl _) h1]; exact h.l
  rw [hn.m r j (by omega) b (by omega) d, hm k k (Nat.le_refl _) (by omega) (Nat.le_refl _) (by omega), hm r j (by omega) b (by omega) d, hm r k (by omega) b (Nat.le_refl _) (by omega), hm k j (Nat.le_refl _) (by omega) (by omega) d, ← bareiss (swp A' k i) k r j nz, hl]
theorem Binv.start (A : Nat → Nat → Int) (n B : Nat) (h : ∀ r c, r < n → c < n → (A r c).natAbs ≤ B) : Binv A n B 0 A 1 A :=
  ⟨h, id, fun i j _ _ _ _ => (mnr_zero A i j).symm, rfl, fun r hr => by obtain rfl : r = 0 := by omega
                                                                        rw [lead_zero]; decide⟩
theorem bst_inv {A : Nat → Nat → Int} {n B : Nat} (h : ∀ r c, r < n → c < n → (A r c).natAbs ≤ B) : ∀ {k : Nat} {M : Nat → Nat → Int} {l : Int} {g : Bool}, bst A n k = some (M, l, g) → ∃ A', Binv A n B k M l A' := by
  intro k
  induction k with
  | zero =>
    intro M l g e
    simp only [bst, Option.some.injEq, Prod.mk.injEq] at e
    obtain ⟨rfl, rfl, rfl⟩ := e
    exact ⟨_, Binv.start A n B h⟩
  | succ k ih =>
    intro M l g e
    cases e1 : bst A n k with
    | none => rw [bst_none e1 (Nat.le_succ k)] at e; cases e
    | some x =>
      obtain ⟨M0, l0, g0⟩ := x
      obtain ⟨A', hA⟩ := ih e1
      rw [bst_next e1] at e
      cases e2 : nxt M0 n k with
      | none => rw [e2] at e; cases e
      | some i =>
        rw [e2] at e
        simp only [Option.some.injEq, Prod.mk.injEq] at e
        obtain ⟨rfl, rfl, rfl⟩ := e
        exact ⟨_, hA.next e2⟩
theorem Binv.abs {A : Nat → Nat → Int} {n B k : Nat} {M A' : Nat → Nat → Int} {l : Int} (h : Binv A n B k M l A') {i j : Nat} (a : k ≤ i) (b : i < n) (c : k ≤ j) (d : j < n) : (M i j).natAbs ≤ fct (k + 1) * B ^ (k + 1) := by
  rw [h.m i j a b c d]
  exact mnr_abs k i j b d (by omega) h.bd
theorem Binv.labs {A : Nat → Nat → Int} {n B k : Nat} {M A' : Nat → Nat → Int} {l : Int} (h : Binv A n B k M l A') (hk : k ≤ n) : l.natAbs ≤ fct k * B ^ k := by
  rw [h.l]
  cases k with
  | zero => rw [lead_zero]; simp [fct]
  | succ k => rw [lead_succ]; exact mnr_abs k k k (by omega) (by omega) (by omega) h.bd
theorem Binv.lnz {A : Nat → Nat → Int} {n B k : Nat} {M A' : Nat → Nat → Int} {l : Int} (h : Binv A n B k M l A') : l ≠ 0 := by
  rw [h.l]; exact h.nz k (Nat.le_refl _)
theorem lead_alike {A : Nat → Nat → Int} {n : Nat} (ha : Alk A n) (h : ∀ r, r ≤ n → lead A r ≠ 0) : False := by
  obtain ⟨p, q, hp, hq, hne, he⟩ := ha
  have := rows_free A n h (fun t => if t = p then 1 else if t = q then -1 else 0) (fun j hj => by
    have key : ∀ m, sumTo m (fun t => (if t = p then (1 : Int) else if t = q then -1 else 0) * A t j) = (if p < m then A p j else 0) - (if q < m then A q j else 0) := by
      intro m
      induction m with
      | zero => simp [sumTo]
      | succ m ih =>
        simp only [sumTo]
        rw [ih]
        by_cases c1 : m = p
        · subst c1
          rw [if_neg (Nat.lt_irrefl _), if_pos rfl, if_pos (Nat.lt_succ_self _)]
          by_cases c2 : q < m
          · rw [if_pos c2, if_pos (by omega)]; omega
          · rw [if_neg c2, if_neg (by omega)]; omega
        · rw [if_neg c1]
          by_cases c3 : m = q
          · subst c3
            rw [if_pos rfl, if_neg (Nat.lt_irrefl _), if_pos (Nat.lt_succ_self _)]
            by_cases c2 : p < m
            · rw [if_pos c2, if_pos (by omega)]; omega
            · rw [if_neg c2, if_neg (by omega)]; omega
          · rw [if_neg c3]
            have e1 : (if p < m + 1 then A p j else 0) = (if p < m then A p j else 0) := by
              by_cases c2 : p < m
              · rw [if_pos c2, if_pos (by omega)]
              · rw [if_neg c2, if_neg (by omega)]
            have e2 : (if q < m + 1 then A q j else 0) = (if q < m then A q j else 0) := by
              by_cases c2 : q < m
              · rw [if_pos c2, if_pos (by omega)]
              · rw [if_neg c2, if_neg (by omega)]
            rw [e1, e2]; omega
    rw [key n, if_pos hp, if_pos hq, he j hj]; omega) p hp
  simp at this
theorem barVal_alike {A : Nat → Nat → Int} {n B : Nat} (h : ∀ r c, r < n → c < n → (A r c).natAbs ≤ B) (ha : Alk A n) : barVal A n = 0 := by
  unfold barVal
  cases e : bst A n n with
  | none => rfl
  | some x =>
    obtain ⟨M, l, g⟩ := x
    obtain ⟨A', hA⟩ := bst_inv h e
    exact absurd hA.nz (fun h => lead_alike (hA.al ha) h)
theorem barVal_none {A : Nat → Nat → Int} {n k : Nat} (h : bst A n k = none) (hk : k ≤ n) : barVal A n = 0 := by
  unfold barVal
  rw [bst_none h hk]
theorem barVal_end {A : Nat → Nat → Int} {n : Nat} {M : Nat → Nat → Int} {l : Int} {g : Bool} (h : bst A n n = some (M, l, g)) : barVal A n = if g then -l else l := by
  unfold barVal
  rw [h]
theorem barVal_last {A : Nat → Nat → Int} {m : Nat} {M : Nat → Nat → Int} {l : Int} {g : Bool} (h : bst A (m + 1) m = some (M, l, g)) : barVal A (m + 1) = if g then -(M m m) else M m m := by
  unfold barVal
  rw [bst_next h]
  by_cases c : M m m = 0
  · rw [nxt_no (fun t h1 h2 => by obtain rfl : t = m := by omega
                                  exact c), c]
    cases g <;> rfl
  · rw [nxt_is (Nat.le_refl _) (Nat.lt_succ_self _) c (fun t h1 h2 => by omega)]
    simp
theorem barVal_abs {A : Nat → Nat → Int} {n B : Nat} (h : ∀ r c, r < n → c < n → (A r c).natAbs ≤ B) : (barVal A n).natAbs ≤ fct n * B ^ n := by
  unfold barVal
  cases e : bst A n n with
  | none => simp
  | some x =>
    obtain ⟨M, l, g⟩ := x
    obtain ⟨A', hA⟩ := bst_inv h e
    have := hA.labs (Nat.le_refl _)
    cases g
    · simpa using this
    · simpa using this
end Go.Proofs.Ytaaajmdneaaeeaa
namespace Go.Proofs.Ytaaajmdneaaeeaa
open Go.RowKit
set_option linter.unusedVariables false
set_option maxRecDepth 100000
set_option linter.unusedSimpArgs false

theorem cs7_hit {w : World} {b o : Nat} {v z : Value} (h : w.cell? ⟨b, o, none⟩ = some z) : (w.setCell ⟨b, o, none⟩ v).cell? ⟨b, o, none⟩ = some v := by
  simp [go_sem, h]
theorem cs7_skip {w : World} {G i b o : Nat} {v x : Value} (h : w.cell? ⟨b, o, none⟩ = some x) (hne : b ≠ G ∨ o ≠ i) : (w.setCell ⟨G, i, none⟩ v).cell? ⟨b, o, none⟩ = some x := by
  by_cases e : b = G
  · subst e
    have hn : o ≠ i := by rcases hne with h | h; exact absurd rfl h; exact h
    rw [← h]
    simp [go_sem, h, Ne.symm hn, hn]
  · exact cs_other h e
/-- No whole number. -/
def NotI (v : Value) : Prop := ∀ k n, v ≠ .int k n
theorem notI_b (g : Bool) : NotI (.bool g) := fun k n h => by cases h
theorem notI_s (a : Option Addr) (n c : Nat) : NotI (.slice a n c) := fun k n h => by cases h
/-- Limbs lie in no block whose first cell is no whole number. -/
theorem Ow.blk {lo hi F : Nat} {w w' : World} {b : BV} {V : Int} {v : Value} (h : Ow lo hi w b V) (hb : But F (F + 1) w w') (hc : w.cell? ⟨F, 0, none⟩ = some v) (hv : NotI v) : Ow lo hi w' b V := by
  obtain ⟨xs, k1, k2, k3⟩ := h
  have o : AllOwn lo hi w' [(b, ⟨decide (V < 0), xs⟩)] := ⟨fun p hp => by
    have hp := List.mem_singleton.1 hp
    subst hp
    have q := k1.own _ (List.mem_singleton.2 rfl)
    refine ⟨q.sg, ?_, q.len⟩
    rcases q.own with e | ⟨bb, cur, ea, h1, h2, hg, hx⟩
    · exact .inl e
    · by_cases hx0 : xs = []
      · exact .inl hx0
      refine .inr ⟨bb, cur, ea, h1, h2, (hb.block bb (Array.getElem?_eq_some_iff.1 hg).1 ?_).trans hg, hx⟩
      have hne : bb ≠ F := fun e => by
        subst e
        have h0 := hx 0 (by have := List.length_pos_iff.2 hx0; exact this)
        have h3 : w.cell? ⟨bb, 0, none⟩ = some (.int .i64 (xs.getD 0 0)) := by
          simp only [World.cell?, hg]
          simpa using h0
        rw [h3] at hc
        exact hv _ _ (Option.some.inj hc).symm
      omega, List.pairwise_singleton _ _⟩
  exact ⟨xs, o, fun p hp => ⟨(k2 p hp).sg, ⟨(o.sl p hp).sl, (k2 p hp).ar.len, (k2 p hp).ar.cap, (k2 p hp).ar.top, (k2 p hp).ar.addr⟩⟩, k3⟩
theorem But.hp {lo hi : Nat} {w w' : World} (h : But lo hi w w') : w.heap.size ≤ w'.heap.size := h.size
theorem But.fz7 {lo hi : Nat} {w w' : World} (h : But lo hi w w') {b o : Nat} {x : Bool} (hc : w.frozen? ⟨b, o, none⟩ = x) (h0 : b < w.heap.size) (hb : b < lo ∨ hi ≤ b) : w'.frozen? ⟨b, o, none⟩ = x := (World.frozen?_of_block (a := ⟨b, o, none⟩) (h.block b h0 hb)).trans hc

/-- m rows of n numbers each, of their own: the list of rows at block G, row i at block R i; all in blocks from lo on. -/
structure MatW (lo : Nat) (w : World) (G m n : Nat) (R : Nat → Nat) (M : Nat → Nat → Int) : Prop where
  glo : lo ≤ G
  ghi : G < w.heap.size
  out : ∀ i, i < m → ∃ c, w.cell? ⟨G, i, none⟩ = some (.slice (some ⟨R i, 0, none⟩) n c) ∧ n ≤ c ∧ c ≤ maxLen
  gfz : ∀ o, w.frozen? ⟨G, o, none⟩ = false
  rlo : ∀ i, i < m → lo ≤ R i ∧ R i < w.heap.size ∧ R i ≠ G
  rfz : ∀ i, i < m → ∀ o, w.frozen? ⟨R i, o, none⟩ = false
  inj : ∀ i j, i < m → j < m → i ≠ j → R i ≠ R j
  el : ∀ i j, i < m → j < n → ∃ b : BV, w.cell? ⟨R i, j * 2, none⟩ = some (.bool b.g) ∧ w.cell? ⟨R i, j * 2 + 1, none⟩ = some (.slice b.a b.n b.c) ∧ Ow lo w.heap.size w b (M i j)
theorem MatW.later {lo : Nat} {w w' : World} {G m n : Nat} {R : Nat → Nat} {M : Nat → Nat → Int} (h : MatW lo w G m n R M) (hb : Below w.heap.size w w') : MatW lo w' G m n R M := by
  have hs := hb.size
  refine ⟨h.glo, Nat.lt_of_lt_of_le h.ghi hs, fun i hi => ?_, fun o => frozen_later hb h.ghi (h.gfz o), fun i hi => ?_, fun i hi o => frozen_later hb (h.rlo i hi).2.1 (h.rfz i hi o), h.inj, fun i j hi hj => ?_⟩
  · obtain ⟨c, h1, h2⟩ := h.out i hi
    exact ⟨c, cell_later hb h1, h2⟩
  · obtain ⟨h1, h2, h3⟩ := h.rlo i hi
    exact ⟨h1, Nat.lt_of_lt_of_le h2 hs, h3⟩
  · obtain ⟨b, h1, h2, h3⟩ := h.el i j hi hj
    exact ⟨b, cell_later hb h1, cell_later hb h2, (h3.later hb).wide (Nat.le_refl _) hs⟩
/-- A box elsewhere is written. -/
theorem MatW.but {lo F : Nat} {w w' : World} {G m n : Nat} {R : Nat → Nat} {M : Nat → Nat → Int} {v : Value} (h : MatW lo w G m n R M) (hb : But F (F + 1) w w') (hc : w.cell? ⟨F, 0, none⟩ = some v) (hv : NotI v) (hG : F ≠ G) (hR : ∀ i, i < m → F ≠ R i) : MatW lo w' G m n R M := by
  have hs := hb.size
  refine ⟨h.glo, Nat.lt_of_lt_of_le h.ghi hs, fun i hi => ?_, fun o => hb.fz7 (h.gfz o) h.ghi (by omega), fun i hi => ?_, fun i hi o => hb.fz7 (h.rfz i hi o) (h.rlo i hi).2.1 (by have := hR i hi; omega), h.inj, fun i j hi hj => ?_⟩
  · obtain ⟨c, h1, h2⟩ := h.out i hi
    exact ⟨c, hb.cell h1 (by omega), h2⟩
  · obtain ⟨h1, h2, h3⟩ := h.rlo i hi
    exact ⟨h1, Nat.lt_of_lt_of_le h2 hs, h3⟩
  · obtain ⟨b, h1, h2, h3⟩ := h.el i j hi hj
    have := hR i hi
    exact ⟨b, hb.cell h1 (by omega), hb.cell h2 (by omega), (h3.blk hb hc hv).wide (Nat.le_refl _) hs⟩
def upd (M : Nat → Nat → Int) (i j : Nat) (V : Int) : Nat → Nat → Int := fun r c => if r = i ∧ c = j then V else M r c
theorem but_row7 {w : World} {F k : Nat} {u : BV} : But F (F + 1) w ((w.setCell ⟨F, k * 2, none⟩ (.bool u.g)).setCell ⟨F, k * 2 + 1, none⟩ (.slice u.a u.n u.c)) := (((But.refl _ _ _).set (p := ⟨F, k * 2, none⟩) (Nat.le_refl F) (Nat.lt_succ_self F) (.bool u.g)).set (p := ⟨F, k * 2 + 1, none⟩) (Nat.le_refl F) (Nat.lt_succ_self F) (.slice u.a u.n u.c))
/-- A number is stored. -/
theorem MatW.set {lo : Nat} {w : World} {G m n : Nat} {R : Nat → Nat} {M : Nat → Nat → Int} (h : MatW lo w G m n R M) {i j : Nat} (hi : i < m) (hj : j < n) {u : BV} {V : Int} (ho : Ow lo w.heap.size w u V) :
    MatW lo ((w.setCell ⟨R i, j * 2, none⟩ (.bool u.g)).setCell ⟨R i, j * 2 + 1, none⟩ (.slice u.a u.n u.c)) G m n R (upd M i j V) := by
  have hb : But (R i) (R i + 1) w ((w.setCell ⟨R i, j * 2, none⟩ (.bool u.g)).setCell ⟨R i, j * 2 + 1, none⟩ (.slice u.a u.n u.c)) := but_row7
  obtain ⟨b0, z1, z2, z3⟩ := h.el i 0 hi (by omega)
  have hs := hb.size
  obtain ⟨r1, r2, r3⟩ := h.rlo i hi
  refine ⟨h.glo, Nat.lt_of_lt_of_le h.ghi hs, fun i' hi' => ?_, fun o => hb.fz7 (h.gfz o) h.ghi (by omega), fun i' hi' => ?_, fun i' hi' o => ?_, h.inj, fun i' j' hi' hj' => ?_⟩
  · obtain ⟨c, h1, h2⟩ := h.out i' hi'
    exact ⟨c, hb.cell h1 (by omega), h2⟩
  · obtain ⟨h1, h2, h3⟩ := h.rlo i' hi'
    exact ⟨h1, Nat.lt_of_lt_of_le h2 hs, h3⟩
  · simp only [World.frozen?_setCell]
    exact h.rfz i' hi' o
  · obtain ⟨b, h1, h2, h3⟩ := h.el i' j' hi' hj'
    by_cases e : i' = i
    · subst e
      by_cases e2 : j' = j
      · subst e2
        refine ⟨u, cs7_skip (cs7_hit h1) (.inr (by omega)), cs7_hit (cs7_skip h2 (.inr (by omega))), ?_⟩
        unfold upd
        rw [if_pos ⟨rfl, rfl⟩]
        exact (ho.blk hb z1 (notI_b _)).wide (Nat.le_refl _) hs
      · refine ⟨b, cs7_skip (cs7_skip h1 (.inr (by omega))) (.inr (by omega)), cs7_skip (cs7_skip h2 (.inr (by omega))) (.inr (by omega)), ?_⟩
        unfold upd
        rw [if_neg (fun h => e2 h.2)]
        exact (h3.blk hb z1 (notI_b _)).wide (Nat.le_refl _) hs
    · have hne := h.inj i' i hi' hi e
      refine ⟨b, hb.cell h1 (by omega), hb.cell h2 (by omega), ?_⟩
      unfold upd
      rw [if_neg (fun h => e h.1)]
      exact (h3.blk hb z1 (notI_b _)).wide (Nat.le_refl _) hs
/-- Two rows change places. -/
theorem MatW.swap {lo : Nat} {w : World} {G m n : Nat} {R : Nat → Nat} {M : Nat → Nat → Int} (h : MatW lo w G m n R M) {k i c1 c2 : Nat} (hk : k < m) (hi : i < m) (hki : k ≠ i)
    (e1 : w.cell? ⟨G, i, none⟩ = some (.slice (some ⟨R i, 0, none⟩) n c1)) (e2 : w.cell? ⟨G, k, none⟩ = some (.slice (some ⟨R k, 0, none⟩) n c2)) (m1 : n ≤ c1 ∧ c1 ≤ maxLen) (m2 : n ≤ c2 ∧ c2 ≤ maxLen) :
    MatW lo ((w.setCell ⟨G, k, none⟩ (.slice (some ⟨R i, 0, none⟩) n c1)).setCell ⟨G, i, none⟩ (.slice (some ⟨R k, 0, none⟩) n c2)) G m n (fun r => R (sw k i r)) (swp M k i) := by
  have hb : But G (G + 1) w ((w.setCell ⟨G, k, none⟩ (.slice (some ⟨R i, 0, none⟩) n c1)).setCell ⟨G, i, none⟩ (.slice (some ⟨R k, 0, none⟩) n c2)) := (((But.refl _ _ _).set (p := ⟨G, k, none⟩) (Nat.le_refl G) (Nat.lt_succ_self G) _).set (p := ⟨G, i, none⟩) (Nat.le_refl G) (Nat.lt_succ_self G) _)
  have hs := hb.size
  obtain ⟨c0, z0, _⟩ := h.out 0 (by omega)
  refine ⟨h.glo, Nat.lt_of_lt_of_le h.ghi hs, fun r hr => ?_, fun o => ?_, fun r hr => ?_, fun r hr o => ?_, fun r j hr hj hne => h.inj _ _ (sw_lt hk hi hr) (sw_lt hk hi hj) (sw_inj hne), fun r j hr hj => ?_⟩
  · by_cases x1 : r = k
    · subst x1
      exact ⟨c1, by rw [show sw r i r = i by unfold sw; rw [if_pos rfl]]; exact cs7_skip (cs7_hit e2) (.inr hki), m1⟩
    · by_cases x2 : r = i
      · subst x2
        exact ⟨c2, by rw [show sw k r r = k by unfold sw; rw [if_neg x1, if_pos rfl]]; exact cs7_hit (cs7_skip e1 (.inr x1)), m2⟩
      · obtain ⟨c, h1, h2⟩ := h.out r hr
        exact ⟨c, by rw [show sw k i r = r by unfold sw; rw [if_neg x1, if_neg x2]]; exact cs7_skip (cs7_skip h1 (.inr x1)) (.inr x2), h2⟩
  · simp only [World.frozen?_setCell]
    exact h.gfz o
  · obtain ⟨h1, h2, h3⟩ := h.rlo _ (sw_lt hk hi hr)
    exact ⟨h1, Nat.lt_of_lt_of_le h2 hs, h3⟩
  · simp only [World.frozen?_setCell]
    exact h.rfz _ (sw_lt hk hi hr) o
  · obtain ⟨b, h1, h2, h3⟩ := h.el _ j (sw_lt hk hi hr) hj
    obtain ⟨_, _, h6⟩ := h.rlo _ (sw_lt hk hi hr)
    exact ⟨b, hb.cell h1 (by omega), hb.cell h2 (by omega), (h3.blk hb z0 (notI_s _ _ _)).wide (Nat.le_refl _) hs⟩
theorem MatW.congr {lo : Nat} {w : World} {G m n : Nat} {R : Nat → Nat} {M M' : Nat → Nat → Int} (h : MatW lo w G m n R M) (e : ∀ i j, i < m → j < n → M i j = M' i j) : MatW lo w G m n R M' :=
  ⟨h.glo, h.ghi, h.out, h.gfz, h.rlo, h.rfz, h.inj, fun i j hi hj => by rw [← e i j hi hj]; exact h.el i j hi hj⟩

/-- A row more, at a block that is new. -/
theorem MatW.more {lo : Nat} {w : World} {G m n F c : Nat} {R : Nat → Nat} {M M' : Nat → Nat → Int} (h : MatW lo w G m n R M) (hn : n ≤ c) (hc : c ≤ maxLen) (hF : lo ≤ F) (hF2 : F < w.heap.size) (hG : F ≠ G) (hR : ∀ i, i < m → F ≠ R i) (fz : ∀ o, w.frozen? ⟨F, o, none⟩ = false)
    (hcell : w.cell? ⟨G, m, none⟩ = some (.slice (some ⟨F, 0, none⟩) n c)) (hel : ∀ j, j < n → ∃ b : BV, w.cell? ⟨F, j * 2, none⟩ = some (.bool b.g) ∧ w.cell? ⟨F, j * 2 + 1, none⟩ = some (.slice b.a b.n b.c) ∧ Ow lo w.heap.size w b (M' m j)) (hM : ∀ i j, i < m → j < n → M' i j = M i j) :
    MatW lo w G (m + 1) n (fun i => if i = m then F else R i) M' := by
  refine ⟨h.glo, h.ghi, fun i hi => ?_, h.gfz, fun i hi => ?_, fun i hi o => ?_, fun i j hi hj hne => ?_, fun i j hi hj => ?_⟩
  · by_cases e : i = m
    · subst e; exact ⟨c, by rw [if_pos rfl]; exact hcell, hn, hc⟩
    · obtain ⟨c', h1, h2⟩ := h.out i (by omega)
      exact ⟨c', by rw [if_neg e]; exact h1, h2⟩
  · by_cases e : i = m
    · rw [if_pos e]; exact ⟨hF, hF2, hG⟩
    · rw [if_neg e]; exact h.rlo i (by omega)
  · by_cases e : i = m
    · rw [if_pos e]; exact fz o
    · rw [if_neg e]; exact h.rfz i (by omega) o
  · by_cases e : i = m
    · by_cases e2 : j = m
      · omega
      · rw [if_pos e, if_neg e2]; exact hR j (by omega)
    · by_cases e2 : j = m
      · rw [if_neg e, if_pos e2]; exact (hR i (by omega)).symm
      · rw [if_neg e, if_neg e2]; exact h.inj i j (by omega) (by omega) hne
  · by_cases e : i = m
    · subst e; rw [if_pos rfl]; exact hel j hj
    · rw [if_neg e, hM i j (by omega) hj]; exact h.el i j (by omega) hj
theorem Ow.nought7 (lo hi : Nat) (w : World) : Ow lo hi w ⟨false, none, 0, 0⟩ 0 := ⟨[], ⟨fun p hp => by
    rw [List.mem_singleton.1 hp]
    exact ⟨rfl, .inl rfl, rfl⟩, List.pairwise_singleton _ _⟩, fun p hp => by
    rw [List.mem_singleton.1 hp]
    exact ⟨rfl, Arg.none w⟩, Nm.zero⟩
/-- A matrix that is read: n rows of n numbers. -/
def MatV (w : World) (a : Option Addr) (n : Nat) (M : Nat → Nat → Int) : Prop :=
  ∃ G off, a = some ⟨G, off, none⟩ ∧ G < w.heap.size ∧ ∀ i, i < n → ∃ Ri o c, w.cell? ⟨G, off + i, none⟩ = some (.slice (some ⟨Ri, o, none⟩) n c) ∧ n ≤ c ∧ c ≤ maxLen ∧ Ri < w.heap.size ∧ ∀ j, j < n → ∃ b : BV, w.cell? ⟨Ri, o + j * 2, none⟩ = some (.bool b.g) ∧ w.cell? ⟨Ri, o + j * 2 + 1, none⟩ = some (.slice b.a b.n b.c) ∧ IsB w b (M i j)
theorem MatV.later {w w' : World} {a : Option Addr} {n : Nat} {M : Nat → Nat → Int} (h : MatV w a n M) (hb : Below w.heap.size w w') : MatV w' a n M := by
  obtain ⟨G, off, rfl, hG, h⟩ := h
  refine ⟨G, off, rfl, Nat.lt_of_lt_of_le hG hb.size, fun i hi => ?_⟩
  obtain ⟨Ri, o, c, h1, h2, h3, h4, h5⟩ := h i hi
  refine ⟨Ri, o, c, cell_later hb h1, h2, h3, Nat.lt_of_lt_of_le h4 hb.size, fun j hj => ?_⟩
  obtain ⟨b, h6, h7, h8⟩ := h5 j hj
  exact ⟨b, cell_later hb h6, cell_later hb h7, h8.later hb⟩
theorem MatV.congr {w : World} {a : Option Addr} {n : Nat} {M M' : Nat → Nat → Int} (h : MatV w a n M) (e : ∀ i j, i < n → j < n → M i j = M' i j) : MatV w a n M' := by
  obtain ⟨G, off, rfl, hG, h⟩ := h
  refine ⟨G, off, rfl, hG, fun i hi => ?_⟩
  obtain ⟨Ri, o, c, h1, h2, h3, h4, h5⟩ := h i hi
  refine ⟨Ri, o, c, h1, h2, h3, h4, fun j hj => ?_⟩
  obtain ⟨b, h6, h7, h8⟩ := h5 j hj
  exact ⟨b, h6, h7, by rw [← e i j hi hj]; exact h8⟩
theorem MatW.v {lo : Nat} {w : World} {G n : Nat} {R : Nat → Nat} {M : Nat → Nat → Int} (h : MatW lo w G n n R M) : MatV w (some ⟨G, 0, none⟩) n M := by
  refine ⟨G, 0, rfl, h.ghi, fun i hi => ?_⟩
  obtain ⟨c, h1, h2, h3⟩ := h.out i hi
  refine ⟨R i, 0, c, by rw [Nat.zero_add]; exact h1, h2, h3, (h.rlo i hi).2.1, fun j hj => ?_⟩
  obtain ⟨b, h4, h5, h6⟩ := h.el i j hi hj
  exact ⟨b, by rw [Nat.zero_add]; exact h4, by rw [Nat.zero_add]; exact h5, h6.is⟩
end Go.Proofs.Ytaaajmdneaaeeaa
namespace Go.Proofs.Ytaaajmdneaaeeaa
open Go.RowKit
set_option linter.unusedVariables false
set_option maxRecDepth 100000
set_option linter.unusedSimpArgs false

theorem made_big (n j : Nat) (h : j < n) : (madeCells #[.bool false, .slice none 0 0] (n * 2)).toList[j * 2]? = some (.bool false) ∧ (madeCells #[.bool false, .slice none 0 0] (n * 2)).toList[j * 2 + 1]? = some (.slice none 0 0) := by
  constructor
  · simp [madeCells, show j * 2 < n * 2 by omega]
  · simp [madeCells, show j * 2 + 1 < n * 2 by omega, Nat.add_mod]
theorem made_sl (n i : Nat) (h : i < n) : (madeCells #[.slice none 0 0] n).toList[i]? = some (.slice none 0 0) := by
  rw [toList_madeCells_one]
  simp [h]
theorem Try.info33 : (Try.prog.info? 33).map (fun i => (i.zero, i.size, i.bytes)) = some (some (.slice none 0 0), 1, 24) := by kernel_rfl
/-- A row of n noughts that was made. -/
structure Made7 (w : World) (F n : Nat) : Prop where
  lt : F < w.heap.size
  fz : ∀ o, w.frozen? ⟨F, o, none⟩ = false
  el : ∀ j, j < n → w.cell? ⟨F, j * 2, none⟩ = some (.bool false) ∧ w.cell? ⟨F, j * 2 + 1, none⟩ = some (.slice none 0 0)
theorem made7_of {w : World} {B F n : Nat} (h : w.ownsRow B 27 2 (.slice (some ⟨F, 0, none⟩) n n) n (madeCells #[.bool false, .slice none 0 0] (n * 2)).toList) : Made7 w F n := by
  refine ⟨?_, h.frozenAt, fun j hj => ?_⟩
  · rcases h.2 with ⟨h', _⟩ | ⟨g', cap, cur, hv, _, hg, _⟩
    · simp at h'
    · simp only [Value.slice.injEq, Option.some.injEq, Addr.mk.injEq, and_true, true_and] at hv
      have := (Array.getElem?_eq_some_iff.1 hg).1
      omega
  · rw [h.cellAt _ (by omega), h.cellAt _ (by omega)]
    exact made_big n j hj
/-- A list of n rows that was made, none in it yet. -/
structure MadeO (w : World) (G n m : Nat) : Prop where
  lt : G < w.heap.size
  fz : ∀ o, w.frozen? ⟨G, o, none⟩ = false
  el : ∀ i, m ≤ i → i < n → w.cell? ⟨G, i, none⟩ = some (.slice none 0 0)
theorem madeO_of {w : World} {B G n : Nat} (h : w.ownsRow B 33 1 (.slice (some ⟨G, 0, none⟩) n n) n (madeCells #[.slice none 0 0] n).toList) : MadeO w G n 0 := by
  refine ⟨?_, h.frozenAt, fun i _ hi => ?_⟩
  · rcases h.2 with ⟨h', _⟩ | ⟨g', cap, cur, hv, _, hg, _⟩
    · simp at h'
    · simp only [Value.slice.injEq, Option.some.injEq, Addr.mk.injEq, and_true, true_and] at hv
      have := (Array.getElem?_eq_some_iff.1 hg).1
      omega
  · rw [h.cellAt _ (by omega)]
    exact made_sl n i hi
theorem MadeO.later {w w' : World} {G n m : Nat} (h : MadeO w G n m) (hb : Below w.heap.size w w') : MadeO w' G n m := ⟨Nat.lt_of_lt_of_le h.lt hb.size, fun o => frozen_later hb h.lt (h.fz o), fun i h1 h2 => cell_later hb (h.el i h1 h2)⟩
theorem MadeO.but {w w' : World} {G n m F : Nat} (h : MadeO w G n m) (hb : But F (F + 1) w w') (hne : F ≠ G) : MadeO w' G n m := ⟨Nat.lt_of_lt_of_le h.lt hb.size, fun o => hb.fz7 (h.fz o) h.lt (by omega), fun i h1 h2 => hb.cell (h.el i h1 h2) (by omega)⟩
theorem MatW.empty {lo G n : Nat} {w : World} {M : Nat → Nat → Int} {m : Nat} (h : MadeO w G n m) (hG : lo ≤ G) : MatW lo w G 0 n (fun _ => 0) M := ⟨hG, h.lt, fun i hi => by omega, h.fz, fun i hi => by omega, fun i hi => by omega, fun i j hi => by omega, fun i j hi => by omega⟩
/-- A row of noughts is laid as the next one. -/
theorem MatW.lay {lo G n m F : Nat} {w w1 : World} {R : Nat → Nat} {M M' : Nat → Nat → Int} (h : MatW lo w G m n R M) (hO : MadeO w G n m) (hm : m < n) (hnm : n ≤ maxLen) (hb : Below w.heap.size w w1) (hF : F = w.heap.size) (hx : Made7 w1 F n) (hlo : lo ≤ w.heap.size) (e : ∀ i j, i < m → j < n → M' i j = M i j) (e0 : ∀ j, j < n → M' m j = 0) :
    ∃ R', MatW lo (w1.setCell ⟨G, m, none⟩ (.slice (some ⟨F, 0, none⟩) n n)) G (m + 1) n R' M' ∧ MadeO (w1.setCell ⟨G, m, none⟩ (.slice (some ⟨F, 0, none⟩) n n)) G n (m + 1) := by
  have h1 := h.later hb
  have hO1 := hO.later hb
  have lt := h.ghi
  have bt : But G (G + 1) w1 (w1.setCell ⟨G, m, none⟩ (.slice (some ⟨F, 0, none⟩) n n)) := (But.refl _ _ _).set (p := ⟨G, m, none⟩) (Nat.le_refl G) (Nat.lt_succ_self G) _
  have hs := bt.size
  have c0 := hO1.el m (Nat.le_refl _) hm
  -- what lies in the list of rows is no number
  have hR : ∀ i, i < m → R i < w.heap.size := fun i hi => (h.rlo i hi).2.1
  have h2 : MatW lo (w1.setCell ⟨G, m, none⟩ (.slice (some ⟨F, 0, none⟩) n n)) G m n R M := by
    have z0 : ∃ v, w1.cell? ⟨G, 0, none⟩ = some v ∧ NotI v := by
      by_cases e : m = 0
      · subst e; exact ⟨_, c0, notI_s _ _ _⟩
      · obtain ⟨c, k1, _⟩ := h1.out 0 (by omega)
        exact ⟨_, k1, notI_s _ _ _⟩
    obtain ⟨v, z1, z2⟩ := z0
    refine ⟨h1.glo, Nat.lt_of_lt_of_le h1.ghi hs, fun i hi => ?_, fun o => ?_, fun i hi => ?_, fun i hi o => ?_, h1.inj, fun i j hi hj => ?_⟩
    · obtain ⟨c, k1, k2⟩ := h1.out i hi
      exact ⟨c, cs7_skip k1 (.inr (by omega)), k2⟩
    · simp only [World.frozen?_setCell]; exact h1.gfz o
    · obtain ⟨k1, k2, k3⟩ := h1.rlo i hi
      exact ⟨k1, Nat.lt_of_lt_of_le k2 hs, k3⟩
    · simp only [World.frozen?_setCell]; exact h1.rfz i hi o
    · obtain ⟨b, k1, k2, k3⟩ := h1.el i j hi hj
      have := (h1.rlo i hi).2.2
      exact ⟨b, cs7_skip k1 (.inl this), cs7_skip k2 (.inl this), (k3.blk bt z1 z2).wide (Nat.le_refl _) hs⟩
  have hx2 : ∀ j, j < n → (w1.setCell ⟨G, m, none⟩ (.slice (some ⟨F, 0, none⟩) n n)).cell? ⟨F, j * 2, none⟩ = some (.bool false) ∧ (w1.setCell ⟨G, m, none⟩ (.slice (some ⟨F, 0, none⟩) n n)).cell? ⟨F, j * 2 + 1, none⟩ = some (.slice none 0 0) := fun j hj => by
    obtain ⟨k1, k2⟩ := hx.el j hj
    exact ⟨cs7_skip k1 (.inl (by omega)), cs7_skip k2 (.inl (by omega))⟩
  refine ⟨_, h2.more (M' := M') (Nat.le_refl n) hnm (F := F) (by omega) (Nat.lt_of_lt_of_le hx.lt hs) (by omega) (fun i hi => by have := hR i hi; omega) (fun o => by simp only [World.frozen?_setCell]; exact hx.fz o) (cs7_hit c0) (fun j hj => ⟨⟨false, none, 0, 0⟩, (hx2 j hj).1, (hx2 j hj).2, ?_⟩) e, ?_⟩
  · rw [e0 j hj]; exact Ow.nought7 _ _ _
  · exact ⟨Nat.lt_of_lt_of_le hO1.lt hs, fun o => by simp only [World.frozen?_setCell]; exact hO1.fz o, fun i a b => cs7_skip (hO1.el i (by omega) b) (.inr (by omega))⟩
/-- Rows ahead of i, and numbers of row i ahead of j. -/
def partM (M : Nat → Nat → Int) (i j : Nat) : Nat → Nat → Int := fun r c => if r < i ∨ (r = i ∧ c < j) then M r c else 0
theorem partM_set (M : Nat → Nat → Int) (i j n : Nat) : ∀ r c, r < i + 1 → c < n → upd (partM M i j) i j (M i j) r c = partM M i (j + 1) r c := by
  intro r c hr hc
  unfold upd partM
  by_cases h1 : r = i
  · subst h1
    by_cases h2 : c = j
    · subst h2
      rw [if_pos ⟨rfl, rfl⟩, if_pos (.inr ⟨rfl, by omega⟩)]
    · rw [if_neg (fun h => h2 h.2)]
      by_cases h3 : c < j
      · rw [if_pos (.inr ⟨rfl, h3⟩), if_pos (.inr ⟨rfl, by omega⟩)]
      · rw [if_neg (by omega), if_neg (by omega)]
  · rw [if_neg (fun h => h1 h.1), if_pos (.inl (by omega)), if_pos (.inl (by omega))]
set_option maxHeartbeats 8000000 in
theorem copyM_v (a : Option Addr) (n c : Nat) (M : Nat → Nat → Int) (w : World) (h : MatV w a n M) (hn : n ≤ 1000) (bd : ∀ i j, i < n → j < n → Bd (M i j) 400000) :
    Calls Try.prog 72 #[.slice a n c] w fun e w' => ∃ R, e = .returned (.slice (some ⟨w.heap.size, 0, none⟩) n n) ∧ Below w.heap.size w w' ∧ MatW w.heap.size w' w.heap.size n n R M := by
  obtain ⟨G0, off, rfl, hG, h⟩ := h
  have HV := hide h
  have BD := hide bd
  clear h bd
  obtain ⟨i0, hi0, hz0, hz1, hz2⟩ := info_parts Try.info33
  obtain ⟨i1, hi1, hy0, hy1, hy2⟩ := info_parts Try.info27
  have I0 := hide (And.intro hi0 (And.intro hz0 (And.intro hz1 hz2)))
  have I1 := hide (And.intro hi1 (And.intro hy0 (And.intro hy1 hy2)))
  clear hi0 hz0 hz1 hz2 hi1 hy0 hy1 hy2
  go_enter Try.func72, Try.ntmps72
  go_wp2_with (at_make; refine wpList_make_full _ rfl _ _ 23 rfl w.heap.size 33 i0 (.slice none 0 0) 1 Try.underlying23 (unhide I0).1 (unhide I0).2.1 (unhide I0).2.2.1 .i64 .i64 _ _ n rfl rfl rfl rfl ?c1 ?c2 ?c3 ?_)
  case c1 => rw [(unhide I0).2.2.2]; omega
  case c2 => unfold maxLen; omega
  case c3 => exact Nat.le_refl _
  intro w0 hown hgrow
  have hb0 : Below w.heap.size w w0 := (Below.refl _ _).grown hgrow (Nat.le_refl _) (fun k e => by cases e)
  have MO := hide (madeO_of hown)
  have HB0 := hide hb0
  clear hown hgrow hb0
  go_wp2
  go_loopw [13] (fun iv wr => ∃ (i : Nat) (R : Nat → Nat), i ≤ n ∧ iv = .int .i64 i ∧ Hid (MatW w.heap.size wr w.heap.size i n R M) ∧ Hid (MadeO wr w.heap.size n i) ∧ Hid (Below w.heap.size w wr)) (fun iv _ => n - (intOf iv).toNat)
  case atStart => exact ⟨0, _, Nat.zero_le _, rfl, hide (MatW.empty (unhide MO) (Nat.le_refl _)), MO, HB0⟩
  case round =>
    clear MO HB0
    obtain ⟨i, R0, hi, rfl, HM, MO, HB⟩ := hrel
    by_cases hlt : i < n
    · have hlt' : (i : Int) < (n : Int) := by omega
      obtain ⟨Ri, o, ci, h1, _, _, hr, h5⟩ := (unhide HV) i hlt
      have E0 : wr.cell? ⟨G0, off + i, none⟩ = some (.slice (some ⟨Ri, o, none⟩) n ci) := ((unhide HB).cell (p := ⟨G0, off + i, none⟩) hG).trans h1
      have HV5 := hide h5
      have m0 := (unhide MO).el i (Nat.le_refl _) hlt
      have mf := (unhide MO).fz
      have sz0 := (unhide HB).size
      have ghi := (unhide HM).ghi
      clear h1 h5
      go_upto_region 5 with fail
      clear E0
      go_wp2_with (at_make; refine wpList_make_full _ rfl _ _ 33 rfl w.heap.size 27 i1 (.agg #[.bool false, .slice none 0 0]) 2 Try.underlying33 (unhide I1).1 (unhide I1).2.1 (unhide I1).2.2.1 .i64 .i64 _ _ n rfl rfl rfl rfl ?c1 ?c2 ?c3 ?_)
      case c1 => rw [(unhide I1).2.2.2]; omega
      case c2 => unfold maxLen; omega
      case c3 => omega
      intro w0 hown hgrow
      have hb0 : Below wr.heap.size wr w0 := (Below.refl _ _).grown hgrow (Nat.le_refl _) (fun k e => by cases e)
      have X7 := hide (made7_of hown)
      have n0 := cell_later hb0 m0
      have nf := fun o => frozen_later hb0 ghi (mf o)
      have LL := hide ((unhide HM).lay (M' := partM M i 0) (unhide MO) hlt (by unfold maxLen; omega) hb0 rfl (unhide X7) sz0 (fun r c hr hc => by unfold partM; rw [if_pos (.inl hr)]) (fun c hc => by unfold partM; rw [if_neg (by omega)]))
      have HB1 := hide (below_on (unhide HB) hb0)
      clear hown hgrow hb0 m0 mf HM MO HB X7
      go_upto_region 6 with fail
      obtain ⟨wp, hwp⟩ : ∃ x, x = w0.setCell ⟨w.heap.size, i, none⟩ (.slice (some ⟨wr.heap.size, 0, none⟩) n n) := ⟨_, rfl⟩
      obtain ⟨R, hM, hO⟩ := unhide LL
      have HB2 : Hid (Below w.heap.size w wp) := hide (by rw [hwp]; exact (But.set (But.refl w.heap.size (w.heap.size + 1) w0) (p := ⟨w.heap.size, i, none⟩) (Nat.le_refl _) (Nat.lt_succ_self _) _).below (unhide HB1) (Nat.le_refl _) (unhide HB1).size)
      rw [← hwp] at hM hO
      have HM := hide hM
      have MO := hide hO
      clear LL HB1 n0 nf hM hO
      rw [← hwp]
      clear hwp
      go_wp2
      go_loopw [26] (fun jv wr => ∃ j : Nat, j ≤ n ∧ jv = .int .i64 j ∧ Hid (MatW w.heap.size wr w.heap.size (i + 1) n R (partM M i j)) ∧ Hid (MadeO wr w.heap.size n (i + 1)) ∧ Hid (Below w.heap.size w wr)) (fun jv _ => n - (intOf jv).toNat)
      case atStart => exact ⟨0, Nat.zero_le _, rfl, HM, MO, HB2⟩
      case round =>
        clear HM MO HB2
        obtain ⟨j, hj, rfl, HM, MO, HB⟩ := hrel
        by_cases hjt : j < n
        · have hjt' : (j : Int) < (n : Int) := by omega
          obtain ⟨b, h6, h7, h8⟩ := (unhide HV5) j hjt
          have E1 : wr.cell? ⟨Ri, o + j * 2, none⟩ = some (.bool b.g) := ((unhide HB).cell (p := ⟨Ri, o + j * 2, none⟩) hr).trans h6
          have E2 : wr.cell? ⟨Ri, o + j * 2 + 1, none⟩ = some (.slice b.a b.n b.c) := ((unhide HB).cell (p := ⟨Ri, o + j * 2 + 1, none⟩) hr).trans h7
          have ob : IsB wr b (M i j) := by
            obtain ⟨xs, q1, q2⟩ := h8
            exact ⟨xs, ⟨q1.sg, ⟨q1.ar.sl.later (Nat.le_refl _) (unhide HB), q1.ar.len, q1.ar.cap, q1.ar.top, q1.ar.addr⟩⟩, q2⟩
          have OB0 := hide ob
          have BB := hide ((unhide BD) i j hlt hjt)
          clear h6 h7 h8 ob
          go_upto_region 9 with fail
          obtain ⟨wa, hwa⟩ : ∃ x, x = wr.alloc (.cells #[.bool b.g, .slice b.a b.n b.c] 27) := ⟨_, rfl⟩
          have hba : Below wr.heap.size wr wa := by rw [hwa]; exact (Below.refl _ _).alloc (Nat.le_refl _) _
          have k1_0 : wa.cell? ⟨wr.heap.size, 0, none⟩ = some (.bool b.g) := by rw [hwa]; simp [go_sem]
          have k1_1 : wa.cell? ⟨wr.heap.size, 1, none⟩ = some (.slice b.a b.n b.c) := by rw [hwa]; simp [go_sem]
          rw [← hwa]
          clear hwa
          have HMa := hide ((unhide HM).later hba)
          have MOa := hide ((unhide MO).later hba)
          have OB := hide ((unhide OB0).later hba)
          have HBa := hide (below_on (unhide HB) hba)
          have sza := hba.size
          have lti := (unhide HM).rlo i (by omega)
          obtain ⟨cR, k0_0, _, _⟩ := (unhide HMa).out i (by omega)
          obtain ⟨y, k2_0, k2_1, _⟩ := (unhide HMa).el i j (by omega) hjt
          have z2 := (unhide HMa).rfz i (by omega)
          have ghi := (unhide HM).ghi
          clear HM MO HB OB0 hba E1 E2
          have ne0_2 : w.heap.size ≠ R i := by omega
          have ne1_2 : wr.heap.size ≠ R i := by omega
          go_region_held3 (fun w' => w'.cell? ⟨w.heap.size, i, none⟩ = some (.slice (some ⟨R i, 0, none⟩) n cR) ∧ w'.cell? ⟨wr.heap.size, 0, none⟩ = some (.bool b.g) ∧ w'.cell? ⟨wr.heap.size, 1, none⟩ = some (.slice b.a b.n b.c)) (with_reducible (first | exact ⟨k0_0, k1_0, k1_1⟩ | exact ⟨cd_other k0_0, cd_other k1_0, cd_other k1_1⟩ | exact ⟨cs_other (cs_other (k0_0) ne0_2) ne0_2, cs_other (cs_other (k1_0) ne1_2) ne1_2, cs_other (cs_other (k1_1) ne1_2) ne1_2⟩ | fail))
            (first
            | (go_at_call 45; refine (copyB b (M i j) _ ?_ (unhide BB)).mono ?_; exact (unhide OB).later (Below.refl _ _).drew; rintro e w1 ⟨x1, lx1, rfl, hb, ox1, ax1, nx1⟩; have hbx : Below wa.heap.size wa w1 := below_of_drew hb; have szw1 := hbx.size; replace z2 := fun o => frozen_later hbx (World.block_lt_of_cell? _ _ k2_0) (z2 o); replace k0_0 := cell_later hbx k0_0; replace k1_0 := cell_later hbx k1_0; replace k1_1 := cell_later hbx k1_1; replace k2_0 := cell_later hbx k2_0; replace k2_1 := cell_later hbx k2_1; replace OB := hide ((unhide OB).later hbx); have PX := hide (outN_ow ox1 ax1 nx1); have HBr := hide hbx; clear hbx hb ox1 ax1 nx1))
          have HM1 := hide ((unhide HMa).later (unhide HBr))
          have MO1 := hide ((unhide MOa).later (unhide HBr))
          have HB1 := hide (below_on (unhide HBa) (unhide HBr))
          clear HBr HMa MOa HBa
          go_wp2
          go_roundw
          case rel =>
            have bt : But (R i) (R i + 1) w1 ((w1.setCell ⟨R i, j * 2, none⟩ (.bool x1.g)).setCell ⟨R i, j * 2 + 1, none⟩ (.slice x1.a x1.n x1.c)) := but_row7
            refine ⟨j + 1, by omega, by go_num, hide (((unhide HM1).set (by omega) hjt ((unhide PX).wide (show w.heap.size ≤ wa.heap.size by omega) (Nat.le_refl _))).congr (partM_set M i j n)), hide ((unhide MO1).but bt (by omega)), hide (bt.below (unhide HB1) (by omega) (unhide HB1).size)⟩
          case measure => simp [intOf]; omega
        · obtain rfl : j = n := by omega
          go_wp2
          go_roundw
          case rel => exact ⟨i + 1, R, by omega, by go_num, hide ((unhide HM).congr (fun r c hr hc => by unfold partM; rw [if_pos (by omega)])), MO, HB⟩
          case measure => simp [intOf]; omega
    · obtain rfl : i = n := by omega
      go_wp2
      go_ret
      exact ⟨R0, rfl, unhide HB, unhide HM⟩
end Go.Proofs.Ytaaajmdneaaeeaa
namespace Go.Proofs.Ytaaajmdneaaeeaa
open Go.RowKit
set_option linter.unusedVariables false
set_option maxRecDepth 100000
set_option linter.unusedSimpArgs false

/-- The cells of a number in an array: its sign, and three limbs. -/
def encV (V : Int) (r : Nat) : Value := if r = 0 then .bool (decide (V < 0)) else .int .i64 (((V.natAbs / 65536 ^ (r - 1)) % 65536 : Nat) : Int)
def encP (V : Nat → Int) (n p : Nat) : Value := encV (if p / 4 < n then V (p / 4) else 0) (p % 4)
/-- N cells of a block. -/
structure Arr (w : World) (F N : Nat) (f : Nat → Value) : Prop where
  lt : F < w.heap.size
  fz : ∀ o, o < N → w.frozen? ⟨F, o, none⟩ = false
  el : ∀ p, p < N → w.cell? ⟨F, p, none⟩ = some (f p)
theorem Arr.later {w w' : World} {F N : Nat} {f : Nat → Value} (h : Arr w F N f) (hb : Below w.heap.size w w') : Arr w' F N f := ⟨Nat.lt_of_lt_of_le h.lt hb.size, fun o ho => frozen_later hb h.lt (h.fz o ho), fun p hp => cell_later hb (h.el p hp)⟩
theorem Arr.but {w w' : World} {F N H : Nat} {f : Nat → Value} (h : Arr w F N f) (hb : But H (H + 1) w w') (hne : F ≠ H) : Arr w' F N f := ⟨Nat.lt_of_lt_of_le h.lt hb.size, fun o ho => hb.fz7 (h.fz o ho) h.lt (by omega), fun p hp => hb.cell (h.el p hp) (by omega)⟩
theorem Arr.set {w : World} {F N p : Nat} {f f' : Nat → Value} {v : Value} (h : Arr w F N f) (hp : p < N) (e : ∀ q, q < N → f' q = if q = p then v else f q) : Arr (w.setCell ⟨F, p, none⟩ v) F N f' := by
  refine ⟨Nat.lt_of_lt_of_le h.lt (by simp [World.setCell]), fun o ho => by simp only [World.frozen?_setCell]; exact h.fz o ho, fun q hq => ?_⟩
  rw [e q hq]
  by_cases c : q = p
  · subst c; rw [if_pos rfl]; exact cs7_hit (h.el q hq)
  · rw [if_neg c]; exact cs7_skip (h.el q hq) (.inr c)
theorem Arr.there {w : World} {F N : Nat} {f : Nat → Value} (h : Arr w F N f) {o n : Nat} (hn : o + n ≤ N) : w.there F o n := fun j hj => ⟨by rw [h.el _ (by omega)]; rfl, h.fz _ (by omega)⟩
theorem Arr.range {w : World} {F N : Nat} {f : Nat → Value} (h : Arr w F N f) {o n : Nat} (hn : o + n ≤ N) : w.rangeAt F o ((List.range n).map (fun j => f (o + j))) := fun j v hv => by
  have hj : j < n := by simpa using (List.getElem?_eq_some_iff.1 hv).1
  rw [List.getElem?_map, List.getElem?_range hj] at hv
  rw [h.el _ (by omega)]
  simpa using hv
theorem But.cells7 {lo hi F : Nat} {w : World} (h1 : lo ≤ F) (h2 : F < hi) : ∀ (vs : List Value) (o : Nat) {w' : World}, But lo hi w w' → But lo hi w (w'.setCells F o vs)
  | [], _, _, h => h
  | v :: vs, o, w', h => But.cells7 h1 h2 vs (o + 1) (h.set (p := ⟨F, o, none⟩) h1 h2 v)
/-- Cells are stored into an array. -/
theorem Arr.store {w : World} {F N o : Nat} {f f' : Nat → Value} {vs : List Value} (h : Arr w F N f) (ho : o + vs.length ≤ N) (e1 : ∀ j (hj : j < vs.length), f' (o + j) = vs[j]) (e2 : ∀ p, p < N → p < o ∨ o + vs.length ≤ p → f' p = f p) : Arr (w.setCells F o vs) F N f' := by
  have hb : But F (F + 1) w (w.setCells F o vs) := But.cells7 (Nat.le_refl _) (Nat.lt_succ_self _) vs o (But.refl _ _ _)
  have ht := h.there (o := 0) (n := N) (by omega)
  have ht2 := World.there_setCells ht F o vs
  refine ⟨Nat.lt_of_lt_of_le h.lt hb.size, fun q hq => by simpa using (ht2 q hq).2, fun p hp => ?_⟩
  by_cases c : p < o ∨ o + vs.length ≤ p
  · rw [e2 p hp c]
    have h1 : w.rangeAt F p [f p] := fun j v hv => by
      have : j = 0 := by have := (List.getElem?_eq_some_iff.1 hv).1; simp at this; omega
      subst this
      simp at hv
      subst hv
      exact h.el p hp
    have h2 := World.rangeAt_setCells_apart h1 F o vs (.inr (by simp; omega))
    simpa using h2 0 (f p) (by simp)
  · have hj : p - o < vs.length := by omega
    have h1 := World.rangeAt_setCells_same w F o vs (h.there (by omega)) (p - o) vs[p - o] (List.getElem?_eq_getElem hj)
    rw [← e1 _ hj] at h1
    rw [show o + (p - o) = p by omega] at h1
    exact h1
def zero32 : Array Value := #[.bool false, .int .i64 0, .int .i64 0, .int .i64 0, .bool false, .int .i64 0, .int .i64 0, .int .i64 0, .bool false, .int .i64 0, .int .i64 0, .int .i64 0, .bool false, .int .i64 0, .int .i64 0, .int .i64 0, .bool false, .int .i64 0, .int .i64 0, .int .i64 0, .bool false, .int .i64 0, .int .i64 0, .int .i64 0, .bool false, .int .i64 0, .int .i64 0, .int .i64 0, .bool false, .int .i64 0, .int .i64 0, .int .i64 0]
theorem z32 (V : Nat → Int) : zero32.toList = (List.range 32).map (encP V 0) := by
  simp [zero32, encP, encV, List.range_succ]
theorem arr_zero (w : World) (t : TypeId) (V : Nat → Int) : Arr (w.alloc (.cells zero32 t)) w.heap.size 32 (encP V 0) := by
  refine ⟨by simp, fun o _ => by simp [go_sem], fun p hp => ?_⟩
  rw [cell_of_row (w.alloc (.cells zero32 t)) w.heap.size p zero32 t (0, 0) (heap_alloc_new w _)]
  have h : zero32.toList[p]? = some (encP V 0 p) := by
    rw [z32 V, List.getElem?_map, List.getElem?_range hp]; rfl
  simpa using h
theorem zero32_one : zero32.all (·.oneCell') = true := by simp [zero32, Value.oneCell']
theorem limb_at : ∀ (xs : List Int) (j : Nat), okL xs → val xs / 65536 ^ j % 65536 = xs.getD j 0
  | [], j, _ => by simp [val]
  | x :: xs, 0, h => by
    have := (okL_cons.1 h).1
    simp only [val, Int.pow_zero, Int.ediv_one, List.getD_cons_zero]
    omega
  | x :: xs, j + 1, h => by
    have h1 := (okL_cons.1 h).1
    rw [List.getD_cons_succ, ← limb_at xs j (okL_cons.1 h).2, Int.pow_succ, Int.mul_comm, ← Int.ediv_ediv_of_nonneg (by omega)]
    have : (x + 65536 * val xs) / 65536 = val xs := by omega
    rw [show val (x :: xs) = x + 65536 * val xs from rfl, this]
theorem enc_limb {V : Int} {xs : List Int} (h : Nm xs V.natAbs) {r : Nat} (hr : r ≠ 0) : encV V r = .int .i64 (xs.getD (r - 1) 0) := by
  unfold encV
  rw [if_neg hr, ← limb_at xs (r - 1) h.ok, h.v, Int.natCast_emod, Int.natCast_ediv, Int.natCast_pow]
  rfl
/-- The cells while number i is written: its sign, and j limbs. -/
def encJ (V : Nat → Int) (i j p : Nat) : Value := if p / 4 = i then (if p % 4 = 0 ∨ p % 4 - 1 < j then encV (V i) (p % 4) else .int .i64 0) else encP V i p
theorem enc_zero {r : Nat} (h : r ≠ 0) : encV 0 r = .int .i64 0 := by unfold encV; rw [if_neg h]; simp
theorem encJ_start (V : Nat → Int) (i : Nat) (q : Nat) : encJ V i 0 q = if q = i * 4 then .bool (decide (V i < 0)) else encP V i q := by
  unfold encJ
  by_cases h : q / 4 = i
  · rw [if_pos h]
    by_cases h2 : q % 4 = 0
    · rw [if_pos (.inl h2), if_pos (by omega), h2]; rfl
    · rw [if_neg (by omega), if_neg (by omega)]
      unfold encP
      rw [if_neg (by omega), enc_zero h2]
  · rw [if_neg h, if_neg (by omega)]
theorem encJ_next (V : Nat → Int) (i j : Nat) (hj : j < 3) (v : Value) (hv : v = encV (V i) (j + 1)) (q : Nat) : encJ V i (j + 1) q = if q = i * 4 + 1 + j then v else encJ V i j q := by
  unfold encJ
  by_cases h : q / 4 = i
  · rw [if_pos h, if_pos h]
    by_cases h2 : q = i * 4 + 1 + j
    · rw [if_pos h2, if_pos (by omega), hv, show q % 4 = j + 1 by omega]
    · rw [if_neg h2]
      by_cases h3 : q % 4 = 0 ∨ q % 4 - 1 < j
      · rw [if_pos h3, if_pos (by omega)]
      · rw [if_neg h3, if_neg (by omega)]
  · rw [if_neg h, if_neg h, if_neg (by omega)]
theorem encJ_end {V : Nat → Int} {i : Nat} {xs : List Int} (h : Nm xs (V i).natAbs) (q : Nat) : encJ V i xs.length q = encP V (i + 1) q := by
  unfold encJ
  by_cases h1 : q / 4 = i
  · rw [if_pos h1]
    have e : encP V (i + 1) q = encV (V i) (q % 4) := by unfold encP; rw [if_pos (by omega), h1]
    rw [e]
    by_cases h2 : q % 4 = 0 ∨ q % 4 - 1 < xs.length
    · rw [if_pos h2]
    · rw [if_neg h2, enc_limb h (by omega)]
      congr 1
      rw [List.getD_eq_getElem?_getD, List.getElem?_eq_none (by omega)]; rfl
  · rw [if_neg h1]
    unfold encP
    by_cases h2 : q / 4 < i
    · rw [if_pos h2, if_pos (by omega)]
    · rw [if_neg h2, if_neg (by omega)]

set_option maxHeartbeats 4000000 in
theorem sideI_v (Ri o n c : Nat) (V : Nat → Int) (w : World) (hn : n ≤ 8) (hr : Ri < w.heap.size) (h : ∀ j, j < n → ∃ b : BV, w.cell? ⟨Ri, o + j * 2, none⟩ = some (.bool b.g) ∧ w.cell? ⟨Ri, o + j * 2 + 1, none⟩ = some (.slice b.a b.n b.c) ∧ IsB w b (V j) ∧ Bd (V j) 3) :
    Calls Try.prog 105 #[.slice (some ⟨Ri, o, none⟩) n c] w fun e w' => e = .returned (.agg ((List.range 32).map (encP V n)).toArray) ∧ Below w.heap.size w w' := by
  have HV := hide h
  clear h
  have hi99 : (Try.prog.info? 99).map (·.size) = some 32 := by kernel_rfl
  have HI := hide hi99
  clear hi99
  go_enter Try.func105, Try.ntmps105
  go_upto_region 1 with fail
  have A0 := hide (arr_zero w 99 V)
  have B0 : Below w.heap.size w (w.alloc (.cells zero32 99)) := (Below.refl _ _).alloc (Nat.le_refl _) _
  have z0 : (w.alloc (.cells zero32 99)).heap.size = w.heap.size + 1 := by simp
  unfold zero32 at A0 B0 z0
  generalize w.alloc _ = wz at A0 B0 z0 ⊢
  have A1 := hide (arr_zero wz 99 V)
  have B1 : Below wz.heap.size wz (wz.alloc (.cells zero32 99)) := (Below.refl _ _).alloc (Nat.le_refl _) _
  have z1 : (wz.alloc (.cells zero32 99)).heap.size = w.heap.size + 2 := by simp; omega
  rw [z0] at A1
  have A1T := hide ((unhide A1).there (o := 0) (n := 32) (by omega))
  unfold zero32 at A1 B1 z1 A1T
  refine wp_region_list ?_
  refine wpList_plain rfl (fun K hK => ?_)
  go_simp
  refine hK _ _ ?_
  clear hK K
  refine wpList_plain rfl (fun K hK => ?_)
  go_simp
  refine hK _ _ ?_
  clear hK K
  generalize wz.alloc _ = wy at A1 B1 z1 A1T ⊢
  refine wpList_store_mid rfl 99 _ _ rfl (w.heap.size + 1) 0 zero32 rfl rfl (unhide A1T) (unhide HI) zero32_one ?_
  have A2 : Arr (wy.setCells (w.heap.size + 1) 0 zero32.toList) (w.heap.size + 1) 32 (encP V 0) := (unhide A1).store (by decide) (fun j hj => by
    have h1 : zero32.toList[j]? = some (encP V 0 j) := by rw [z32 V, List.getElem?_map, List.getElem?_range (by have h0 : zero32.size = 32 := rfl; simpa [h0] using hj)]; rfl
    rw [List.getElem?_eq_getElem hj] at h1
    rw [Nat.zero_add]
    exact (Option.some.inj h1).symm) (fun p hp h => by have : zero32.toList.length = 32 := rfl; omega)
  have B2 : But (w.heap.size + 1) (w.heap.size + 2) wy (wy.setCells (w.heap.size + 1) 0 zero32.toList) := But.cells7 (Nat.le_refl _) (by omega) _ 0 (But.refl _ _ _)
  have AR := hide (((unhide A0).later B1).but B2 (by omega))
  have AF := hide A2
  have HB := hide (B2.below (below_on B0 B1) (by omega) (by omega))
  have z2 := B2.size
  clear A0 A1 A1T A2 B0 B1 B2
  generalize wy.setCells _ _ _ = w3 at AR AF HB z2 ⊢
  go_wp2
  go_loopw [11] (fun iv wr => ∃ i : Nat, i ≤ n ∧ iv = .int .i64 i ∧ w.heap.size + 2 ≤ wr.heap.size ∧ Hid (Arr wr (w.heap.size + 1) 32 (encP V i)) ∧ Hid (Arr wr w.heap.size 32 (encP V 0)) ∧ Hid (Below w.heap.size w wr)) (fun iv _ => n - (intOf iv).toNat)
  case atStart => exact ⟨0, Nat.zero_le _, rfl, by omega, AF, AR, HB⟩
  case round =>
    clear AF AR HB z0 z1 z2
    obtain ⟨i, hi, rfl, hsz, AF, AR, HB⟩ := hrel
    by_cases hlt : i < n
    · have hlt' : (i : Int) < (n : Int) := by omega
      obtain ⟨⟨bg, ba, bn, bc⟩, h6, h7, h8, h9⟩ := (unhide HV) i hlt
      simp only at h6 h7
      have E1 : wr.cell? ⟨Ri, o + i * 2, none⟩ = some (.bool bg) := ((unhide HB).cell (p := ⟨Ri, o + i * 2, none⟩) hr).trans h6
      have E2 : wr.cell? ⟨Ri, o + i * 2 + 1, none⟩ = some (.slice ba bn bc) := ((unhide HB).cell (p := ⟨Ri, o + i * 2 + 1, none⟩) hr).trans h7
      have lb : bn ≤ 3 := h8.len h9
      obtain ⟨xs, q1, q2⟩ := h8
      have SL : Hid (Sl w ba xs) := hide q1.ar.sl
      have LX : Hid (xs.length = bn) := hide q1.ar.len
      have NX := hide q2
      have EG : bg = decide (V i < 0) := q1.sg
      have GG := hide EG
      clear h6 h7 h9 q1 q2 EG
      go_upto_region 5 with fail
      generalize hwa : wr.alloc _ = wa
      have hba : Below wr.heap.size wr wa := by rw [← hwa]; exact (Below.refl _ _).alloc (Nat.le_refl _) _
      have k0 : wa.cell? ⟨wr.heap.size, 0, none⟩ = some (.bool bg) := by rw [← hwa]; simp [go_sem]
      have k1 : wa.cell? ⟨wr.heap.size, 1, none⟩ = some (.slice ba bn bc) := by rw [← hwa]; simp [go_sem]
      have sza : wr.heap.size < wa.heap.size := by rw [← hwa]; simp
      clear hwa
      have AFa := hide ((unhide AF).later hba)
      have ARa := hide ((unhide AR).later hba)
      have HBa := hide (below_on (unhide HB) hba)
      have c0 := (unhide AFa).el (i * 4) (by omega)
      have f0 := (unhide AFa).fz (i * 4) (by omega)
      have i8 : (i : Int) < 8 := by omega
      clear AF AR HB E1 E2 hba
      go_upto_region 6 with fail
      have AFb := hide ((unhide AFa).set (f' := encJ V i 0) (v := .bool bg) (p := i * 4) (by omega) (fun q _ => by rw [encJ_start, unhide GG]))
      have bt : But (w.heap.size + 1) (w.heap.size + 1 + 1) wa (wa.setCell ⟨w.heap.size + 1, i * 4, none⟩ (.bool bg)) := (But.refl _ _ _).set (p := ⟨w.heap.size + 1, i * 4, none⟩) (Nat.le_refl _) (Nat.lt_succ_self _) _
      have ARb := hide ((unhide ARa).but bt (by omega))
      have HBb := hide (bt.below (unhide HBa) (by omega) (by omega))
      have k1b := bt.cell k1 (by omega)
      have szb := bt.size
      clear AFa ARa HBa c0 f0 bt k0 k1
      generalize wa.setCell _ _ = wb at *
      go_wp2
      obtain ⟨wp, hwp⟩ : ∃ x, x = wr := ⟨_, rfl⟩
      subst hwp
      go_loopw [24] (fun jv wr => ∃ j : Nat, j ≤ bn ∧ jv = .int .i64 j ∧ w.heap.size + 2 ≤ wr.heap.size ∧ Hid (Arr wr (w.heap.size + 1) 32 (encJ V i j)) ∧ Hid (Arr wr w.heap.size 32 (encP V 0)) ∧ Hid (Below w.heap.size w wr)) (fun jv _ => bn - (intOf jv).toNat)
      case atStart => exact ⟨0, Nat.zero_le _, rfl, by omega, AFb, ARb, HBb⟩
      case round =>
        clear AFb ARb HBb k1b szb
        obtain ⟨j, hj, rfl, hsz2, AF, AR, HB⟩ := hrel
        by_cases hjt : j < bn
        · have hjt' : (j : Int) < (bn : Int) := by omega
          have j3 : (j : Int) < 3 := by omega
          have lx := unhide LX
          rcases (unhide SL).later (Nat.le_refl _) (unhide HB) with e | ⟨bb, of, ea, h1, h2⟩
          · rw [e] at lx; simp at lx; omega
          have e0 := h2 j (by omega)
          have HX := hide lx
          clear lx
          subst ea
          have c0 := (unhide AF).el (i * 4 + 1 + j) (by omega)
          have f0 := (unhide AF).fz (i * 4 + 1 + j) (by omega)
          clear h2
          generalize hx : xs.getD j 0 = x at e0
          have EX := hide hx
          clear hx
          go_wp2
          go_roundw
          case rel =>
            have bt : But (w.heap.size + 1) (w.heap.size + 1 + 1) wr (wr.setCell ⟨w.heap.size + 1, i * 4 + 1 + j, none⟩ (.int .i64 x)) := (But.refl _ _ _).set (p := ⟨w.heap.size + 1, i * 4 + 1 + j, none⟩) (Nat.le_refl _) (Nat.lt_succ_self _) _
            refine ⟨j + 1, by omega, by go_num, Nat.le_trans hsz2 bt.size, hide ((unhide AF).set (by omega) (fun q _ => encJ_next V i j (by omega) _ (by rw [enc_limb (unhide NX) (by omega), ← unhide EX]; rfl) q)), hide ((unhide AR).but bt (by omega)), hide (bt.below (unhide HB) (by omega) (by omega))⟩
          case measure => simp [intOf]; omega
        · obtain rfl : j = bn := by omega
          go_wp2
          go_roundw
          case rel => exact ⟨i + 1, by omega, by go_num, hsz2, hide (by have h := unhide AF; rw [← unhide LX] at h; exact ⟨h.lt, h.fz, fun p hp => by rw [h.el p hp, encJ_end (unhide NX)]⟩), AR, HB⟩
          case measure => simp [intOf]; omega
    · obtain rfl : i = n := by omega
      go_upto_region 12 with fail
      refine wp_region_list ?_
      refine wpList_load_mid rfl 99 _ rfl (w.heap.size + 1) 0 rfl ((List.range 32).map (encP V i)) (.array 8 97) (by have h := (unhide AF).range (o := 0) (n := 32) (by omega); simpa using h) Try.underlying99 rfl (by rw [unhide HI]; rfl) ?_
      refine wpList_store_mid rfl 99 _ _ rfl w.heap.size 0 ((List.range 32).map (encP V i)).toArray rfl rfl ((unhide AR).there (by simp)) (by rw [unhide HI]; simp) (all_oneCell_toArray (fun v hv => by obtain ⟨p, _, rfl⟩ := List.mem_map.1 hv; unfold encP encV; split <;> (split <;> rfl))) ?_
      have AZ := (unhide AR).store (o := 0) (vs := (List.range 32).map (encP V i)) (f' := encP V i) (by simp) (fun j hj => by simp) (fun p hp h => by simp at h; omega)
      have BZ : But w.heap.size (w.heap.size + 1) wr (wr.setCells w.heap.size 0 ((List.range 32).map (encP V i))) := But.cells7 (Nat.le_refl _) (Nat.lt_succ_self _) _ 0 (But.refl _ _ _)
      have HBz := BZ.below (unhide HB) (Nat.le_refl _) (by omega)
      have AZR := AZ.range (o := 0) (n := 32) (by omega)
      simp only [Nat.zero_add] at AZR
      clear AZ BZ AF AR HB
      show wpList _ _ _ _ _ (wr.setCells w.heap.size 0 ((List.range 32).map (encP V i)))
      simp only [Act.put, List.setIfInBounds_toArray, List.set_cons_succ, List.set_cons_zero]
      generalize wr.setCells w.heap.size 0 ((List.range 32).map (encP V i)) = wl at *
      go_wp2
      refine bodyPost_ret (v := .agg ((List.range 32).map (encP V i)).toArray) ?_ rfl ⟨rfl, HBz⟩
      simp only [results, Try.results105]
      simp [Sem.run_bind, Result.andThen, asAddr, run_loadVar_mid wl w.heap.size 0 99 ((List.range 32).map (encP V i)) (.array 8 97) AZR Try.underlying99 rfl (by rw [unhide HI]; rfl)]
end Go.Proofs.Ytaaajmdneaaeeaa
namespace Go.Proofs.Ytaaajmdneaaeeaa
open Go.RowKit
set_option linter.unusedVariables false
set_option maxRecDepth 100000
set_option linter.unusedSimpArgs false

theorem mapM_some7 {α β : Type} {f : α → Option β} {g : α → β} : ∀ l : List α, (∀ x ∈ l, f x = some (g x)) → l.mapM f = some (l.map g)
  | [], _ => rfl
  | x :: l, h => by
    rw [List.mapM_cons, h x List.mem_cons_self, mapM_some7 l (fun y hy => h y (List.mem_cons_of_mem _ hy))]
    rfl
theorem c97 : Try.prog.cellsOf 97 = 4 := by kernel_rfl
theorem c95 : Try.prog.cellsOf 95 = 3 := by kernel_rfl
theorem c99 : Try.prog.cellsOf 99 = 32 := by kernel_rfl
theorem c3 : Try.prog.cellsOf 3 = 1 := by kernel_rfl
theorem c4 : Try.prog.cellsOf 4 = 1 := by kernel_rfl
theorem wf16 {a : Int} (h0 : 0 ≤ a) (h1 : a ≤ 65535) : (Lit.int .i64 a).wf = true := by
  have e1 : IntKind.i64.min = -9223372036854775808 := rfl
  have e2 : IntKind.i64.max = 9223372036854775807 := rfl
  simp [Lit.wf, e1, e2]
  omega
theorem kl_num (D : Nat) (g : Bool) (a b c : Int) (ha : 0 ≤ a ∧ a ≤ 65535) (hb : 0 ≤ b ∧ b ≤ 65535) (hc : 0 ≤ c ∧ c ≤ 65535) :
    Try.prog.keyLits (D + 3) 97 [.bool g, .int .i64 a, .int .i64 b, .int .i64 c] = some [.bool g, .int .i64 a, .int .i64 b, .int .i64 c] := by
  have w1 := wf16 ha.1 ha.2
  have w2 := wf16 hb.1 hb.2
  have w3 := wf16 hc.1 hc.2
  simp [Program.keyLits, Try.underlying97, Try.underlying95, Try.underlying3, Try.underlying4, c97, c95, c3, c4, List.range_succ, w1, w2, w3]
/-- What number i of the array is. -/
def atP (V : Nat → Int) (n i : Nat) : Int := if i < n then V i else 0
def lm (X : Int) (t : Nat) : Int := (((X.natAbs / 65536 ^ t) % 65536 : Nat) : Int)
theorem lm_bd (X : Int) (t : Nat) : 0 ≤ lm X t ∧ lm X t ≤ 65535 := by unfold lm; have := Nat.mod_lt (X.natAbs / 65536 ^ t) (show 65536 > 0 by omega); omega
theorem encP_at (V : Nat → Int) (n i : Nat) : encP V n (i * 4) = .bool (decide (atP V n i < 0)) ∧ encP V n (i * 4 + 1) = .int .i64 (lm (atP V n i) 0) ∧ encP V n (i * 4 + 2) = .int .i64 (lm (atP V n i) 1) ∧ encP V n (i * 4 + 3) = .int .i64 (lm (atP V n i) 2) := by
  unfold encP
  rw [show i * 4 / 4 = i by omega, show (i * 4 + 1) / 4 = i by omega, show (i * 4 + 2) / 4 = i by omega, show (i * 4 + 3) / 4 = i by omega, show i * 4 % 4 = 0 by omega, show (i * 4 + 1) % 4 = 1 by omega, show (i * 4 + 2) % 4 = 2 by omega, show (i * 4 + 3) % 4 = 3 by omega]
  exact ⟨rfl, rfl, rfl, rfl⟩
theorem chunk4 (e : Nat → Value) {i : Nat} (h : i < 8) : ((((List.range 32).map e).drop (i * 4)).take 4) = [e (i * 4), e (i * 4 + 1), e (i * 4 + 2), e (i * 4 + 3)] := by
  have : i = 0 ∨ i = 1 ∨ i = 2 ∨ i = 3 ∨ i = 4 ∨ i = 5 ∨ i = 6 ∨ i = 7 := by omega
  rcases this with rfl | rfl | rfl | rfl | rfl | rfl | rfl | rfl <;> rfl
def litsAt (V : Nat → Int) (n i : Nat) : List Lit := [.bool (decide (atP V n i < 0)), .int .i64 (lm (atP V n i) 0), .int .i64 (lm (atP V n i) 1), .int .i64 (lm (atP V n i) 2)]
theorem kl_row (V : Nat → Int) (n : Nat) : Try.prog.keyLits 4 99 ((List.range 32).map (encP V n)) = some ((List.range 8).map (litsAt V n)).flatten := by
  have h : (List.range 8).mapM (fun i => Try.prog.keyLits 3 97 ((((List.range 32).map (encP V n)).drop (i * 4)).take 4)) = some ((List.range 8).map (litsAt V n)) := mapM_some7 _ (fun i hi => by
    have hi := List.mem_range.1 hi
    obtain ⟨e0, e1, e2, e3⟩ := encP_at V n i
    rw [chunk4 _ hi, e0, e1, e2, e3]
    exact kl_num 0 _ _ _ _ (lm_bd _ _) (lm_bd _ _) (lm_bd _ _))
  unfold Program.keyLits
  rw [Try.underlying99]
  simp only [c97, c99, List.length_map, List.length_range, if_true]
  rw [h]
  rfl
theorem lits_inj {V V' : Nat → Int} {n : Nat} (h : ((List.range 8).map (litsAt V n)).flatten = ((List.range 8).map (litsAt V' n)).flatten) {i : Nat} (hi : i < 8) : litsAt V n i = litsAt V' n i := by
  have key : ∀ W : Nat → Int, ((((List.range 8).map (litsAt W n)).flatten.drop (i * 4)).take 4) = litsAt W n i := fun W => by
    have : i = 0 ∨ i = 1 ∨ i = 2 ∨ i = 3 ∨ i = 4 ∨ i = 5 ∨ i = 6 ∨ i = 7 := by omega
    rcases this with rfl | rfl | rfl | rfl | rfl | rfl | rfl | rfl <;> rfl
  rw [← key V, ← key V', h]
theorem lm_inj {X Y : Int} (hX : Bd X 3) (hY : Bd Y 3) (h0 : decide (X < 0) = decide (Y < 0)) (h1 : lm X 0 = lm Y 0) (h2 : lm X 1 = lm Y 1) (h3 : lm X 2 = lm Y 2) : X = Y := by
  have a := hX.lt
  have b := hY.lt
  have e1 : X.natAbs / 65536 ^ 0 % 65536 = Y.natAbs / 65536 ^ 0 % 65536 := by have := h1; unfold lm at this; exact Int.ofNat.inj this
  have e2 : X.natAbs / 65536 ^ 1 % 65536 = Y.natAbs / 65536 ^ 1 % 65536 := by have := h2; unfold lm at this; exact Int.ofNat.inj this
  have e3 : X.natAbs / 65536 ^ 2 % 65536 = Y.natAbs / 65536 ^ 2 % 65536 := by have := h3; unfold lm at this; exact Int.ofNat.inj this
  simp only [Nat.reducePow, Nat.div_one] at e1 e2 e3 a b
  have hn : X.natAbs = Y.natAbs := by omega
  have h4 : X < 0 ↔ Y < 0 := by simpa using h0
  omega
theorem formed32 (cs : List Value) (h : cs.length = 32) : (Value.agg cs.toArray).formed Try.prog 99 = true := by
  simp [Value.formed, Try.underlying99, c99, h]
theorem kt99 : Try.prog.keyTypeAt 4 99 = true := by kernel_rfl
/-- Two rows as arrays are compared. -/
theorem eq_rows (V V' : Nat → Int) (n : Nat) : ∃ r : Bool, (∀ w, (Op.equalIn 10000 99 (.agg ((List.range 32).map (encP V n)).toArray) (.agg ((List.range 32).map (encP V' n)).toArray)).run Try.prog w = .ok r w) ∧ (r = true → ∀ i, i < 8 → litsAt V n i = litsAt V' n i) := by
  have key : ∀ w, ∃ r : Bool, (Op.equalIn 10000 99 (.agg ((List.range 32).map (encP V n)).toArray) (.agg ((List.range 32).map (encP V' n)).toArray)).run Try.prog w = .ok r w ∧ (r = true ↔ ((List.range 8).map (litsAt V n)).flatten = ((List.range 8).map (litsAt V' n)).flatten) := fun w =>
    run_equalIn_deep (P := Try.prog) 9996 4 99 kt99 w 4 4 (.agg ((List.range 32).map (encP V n)).toArray) (.agg ((List.range 32).map (encP V' n)).toArray) _ _ (formed32 _ (by simp)) (formed32 _ (by simp)) (kl_row V n) (kl_row V' n)
  by_cases h : ((List.range 8).map (litsAt V n)).flatten = ((List.range 8).map (litsAt V' n)).flatten
  · refine ⟨true, fun w => ?_, fun _ i hi => lits_inj h hi⟩
    obtain ⟨r, h1, h2⟩ := key w
    rw [h1, h2.2 h]
  · refine ⟨false, fun w => ?_, fun e => by cases e⟩
    obtain ⟨r, h1, h2⟩ := key w
    rw [h1]
    cases r
    · rfl
    · exact absurd (h2.1 rfl) h
theorem alike_of {V V' : Nat → Int} {n : Nat} (hn : n ≤ 8) (hV : ∀ j, j < n → Bd (V j) 3) (hV' : ∀ j, j < n → Bd (V' j) 3) (h : ∀ i, i < 8 → litsAt V n i = litsAt V' n i) : ∀ j, j < n → V j = V' j := fun j hj => by
  have e := h j (by omega)
  have a1 : atP V n j = V j := by unfold atP; rw [if_pos hj]
  have a2 : atP V' n j = V' j := by unfold atP; rw [if_pos hj]
  unfold litsAt at e
  rw [a1, a2] at e
  simp only [List.cons.injEq, Lit.bool.injEq, Lit.int.injEq, and_true, true_and] at e
  exact lm_inj (hV j hj) (hV' j hj) e.1 e.2.1 e.2.2.1 e.2.2.2
theorem g99 : Try.prog.eqGuardType Try.prog.depth 99 = false := by kernel_rfl
theorem z256 : Try.zeroCells100.size = 256 := by kernel_rfl
theorem o256 : Try.zeroCells100.all (·.oneCell') = true := by kernel_rfl
theorem arr_of_alloc (w : World) (t : TypeId) (C : Array Value) (N : Nat) (h : C.size = N) : Arr (w.alloc (.cells C t)) w.heap.size N (fun p => C.getD p undef) := by
  refine ⟨by simp, fun o _ => by simp [go_sem], fun p hp => ?_⟩
  rw [cell_of_row (w.alloc (.cells C t)) w.heap.size p C t (0, 0) (heap_alloc_new w _)]
  simp [h, hp]

/-- Where it says so two rows are alike. -/
def OutAlk (w : World) (M : Nat → Nat → Int) (n : Nat) (e : Ending) (w' : World) : Prop := ∃ z : Bool, e = .returned (.bool z) ∧ Below w.heap.size w w' ∧ (z = true → Alk M n)
set_option maxHeartbeats 4000000 in
theorem alikeI_v (a : Option Addr) (n c : Nat) (M : Nat → Nat → Int) (w : World) (h : MatV w a n M) (hn : n ≤ 8) (bd : ∀ i j, i < n → j < n → Bd (M i j) 3) :
    Calls Try.prog 71 #[.slice a n c] w (OutAlk w M n) := by
  obtain ⟨G0, off, rfl, hG, h⟩ := h
  have HV := hide h
  have BD := hide bd
  clear h bd
  have HI : Hid ((Try.prog.info? 99).map (·.size) = some 32) := hide (by kernel_rfl)
  have HJ : Hid ((Try.prog.info? 100).map (·.size) = some 256) := hide (by kernel_rfl)
  go_enter Try.func71, Try.ntmps71
  go_upto_region 1 with fail
  refine wp_region_list ?_
  refine wpList_plain rfl (fun K hK => ?_)
  go_simp
  refine hK _ _ ?_
  clear hK K
  refine wpList_plain rfl (fun K hK => ?_)
  go_simp
  refine hK _ _ ?_
  clear hK K
  have A1 := arr_of_alloc w 100 Try.zeroCells100 256 z256
  have B1 : Below w.heap.size w (w.alloc (.cells Try.zeroCells100 100)) := (Below.refl _ _).alloc (Nat.le_refl _) _
  have AT := A1.there (o := 0) (n := 256) (by omega)
  refine wpList_store_mid rfl 100 _ _ rfl w.heap.size 0 Try.zeroCells100 rfl rfl (by rw [z256]; exact AT) (by rw [z256]; exact unhide HJ) o256 ?_
  have AF : Hid (∃ f, Arr ((w.alloc (.cells Try.zeroCells100 100)).setCells w.heap.size 0 Try.zeroCells100.toList) w.heap.size 256 f) := hide ⟨fun p => Try.zeroCells100.getD p undef, A1.store (by simp [z256]) (fun j hj => by simp at hj; simp [hj]) (fun p hp h => by simp [z256] at h; omega)⟩
  have HB := hide ((But.cells7 (Nat.le_refl _) (Nat.lt_succ_self _) Try.zeroCells100.toList 0 (But.refl w.heap.size (w.heap.size + 1) _)).below B1 (Nat.le_refl _) B1.size)
  clear A1 B1 AT
  generalize (w.alloc _).setCells _ _ _ = w3 at AF HB ⊢
  simp only [Act.put, List.setIfInBounds_toArray, List.set_cons_succ, List.set_cons_zero]
  go_wp2
  go_loopw [10] (fun iv wr => ∃ (i : Nat) (f : Nat → Value), i ≤ n ∧ iv = .int .i64 i ∧ Hid (Arr wr w.heap.size 256 f) ∧ Hid (∀ t q, t < i → q < 32 → f (t * 32 + q) = encP (M t) n q) ∧ Hid (Below w.heap.size w wr)) (fun iv _ => n - (intOf iv).toNat)
  case atStart =>
    obtain ⟨f, hf⟩ := unhide AF
    exact ⟨0, f, Nat.zero_le _, rfl, hide hf, hide (fun t q h => by omega), HB⟩
  case round =>
    clear AF HB
    obtain ⟨i, f, hi, rfl, AF, FV, HB⟩ := hrel
    by_cases hlt : i < n
    · have hlt' : (i : Int) < (n : Int) := by omega
      have i8 : (i : Int) < 8 := by omega
      obtain ⟨Ri, o, ci, h1, _, _, hr, h5⟩ := (unhide HV) i hlt
      have E0 : wr.cell? ⟨G0, off + i, none⟩ = some (.slice (some ⟨Ri, o, none⟩) n ci) := ((unhide HB).cell (p := ⟨G0, off + i, none⟩) hG).trans h1
      have HX : Hid (∀ j, j < n → ∃ b : BV, wr.cell? ⟨Ri, o + j * 2, none⟩ = some (.bool b.g) ∧ wr.cell? ⟨Ri, o + j * 2 + 1, none⟩ = some (.slice b.a b.n b.c) ∧ IsB wr b (M i j) ∧ Bd (M i j) 3) := hide (fun j hj => by
        obtain ⟨b, h6, h7, xs, q1, q2⟩ := h5 j hj
        exact ⟨b, ((unhide HB).cell (p := ⟨Ri, o + j * 2, none⟩) hr).trans h6, ((unhide HB).cell (p := ⟨Ri, o + j * 2 + 1, none⟩) hr).trans h7, ⟨xs, ⟨q1.sg, ⟨q1.ar.sl.later (Nat.le_refl _) (unhide HB), q1.ar.len, q1.ar.cap, q1.ar.top, q1.ar.addr⟩⟩, q2⟩, (unhide BD) i j hlt hj⟩)
      have hr2 : Ri < wr.heap.size := Nat.lt_of_lt_of_le hr (unhide HB).size
      clear h1 h5
      have CS := hide (fun wx (hx : wx = wr) => (by rw [hx]; exact sideI_v Ri o n ci (M i) wr hn hr2 (unhide HX) : Calls Try.prog 105 #[.slice (some ⟨Ri, o, none⟩) n ci] wx fun e w' => e = .returned (.agg ((List.range 32).map (encP (M i) n)).toArray) ∧ Below wr.heap.size wr w'))
      obtain ⟨B, hB⟩ : ∃ B : List Value, B = (List.range 32).map (encP (M i) n) := ⟨_, rfl⟩
      rw [← hB] at CS
      have oneB : ∀ v ∈ B, v.oneCell' = true := fun v hv => by rw [hB] at hv; obtain ⟨p, _, rfl⟩ := List.mem_map.1 hv; unfold encP encV; split <;> (split <;> rfl)
      have lenB : B.length = 32 := by rw [hB]; simp
      have atB : Hid (∀ q (hq : q < B.length), B[q] = encP (M i) n q) := hide (fun q hq => by subst hB; simp)
      have EB := hide hB
      have LB := hide lenB
      have OB := hide oneB
      clear hB lenB oneB
      go_wp2_with (first
        | (go_at_call 105; refine (unhide CS _ rfl).mono ?_; rintro e w1 ⟨rfl, hb⟩; have AF1 := hide ((unhide AF).later hb); have SC := hide ((unhide AF1).there (o := i * 32) (n := B.length) (by rw [unhide LB]; omega)); have HB1 := hide (below_on (unhide HB) hb); clear hb E0)
        | (have chk := SC; clear chk; refine wpList_store_mid rfl 99 _ _ rfl w.heap.size (i * 32) B.toArray rfl rfl (unhide SC) (by rw [unhide HI]; simp [unhide LB]) (all_oneCell_toArray (unhide OB)) ?_))
      have AF2 : Hid (Arr (w1.setCells w.heap.size (i * 32) B) w.heap.size 256 (fun p => if p / 32 = i then encP (M i) n (p % 32) else f p)) := hide ((unhide AF1).store (by rw [unhide LB]; omega) (fun q hq => by
        have h0 := unhide LB
        rw [(unhide atB) q hq, if_pos (by omega), show (i * 32 + q) % 32 = q by omega]) (fun p hp h => by
        have h0 := unhide LB
        rw [if_neg (by omega)]))
      have FV2 : Hid (∀ t q, t < i + 1 → q < 32 → (fun p => if p / 32 = i then encP (M i) n (p % 32) else f p) (t * 32 + q) = encP (M t) n q) := hide (fun t q ht hq => by
        show (if (t * 32 + q) / 32 = i then encP (M i) n ((t * 32 + q) % 32) else f (t * 32 + q)) = _
        by_cases e : t = i
        · subst e; rw [if_pos (by omega), show (t * 32 + q) % 32 = q by omega]
        · rw [if_neg (by omega)]; exact (unhide FV) t q (by omega) hq)
      have HB2 := hide ((But.cells7 (Nat.le_refl _) (Nat.lt_succ_self _) B (i * 32) (But.refl w.heap.size (w.heap.size + 1) w1)).below (unhide HB1) (Nat.le_refl _) (unhide HB1).size)
      generalize (fun p => if p / 32 = i then encP (M i) n (p % 32) else f p) = f2 at AF2 FV2
      clear AF AF1 FV SC HB1 CS HB
      generalize w1.setCells _ _ _ = w2 at AF2 HB2 ⊢
      go_loopw [20] (fun jv wr => ∃ j : Nat, j ≤ i ∧ jv = .int .i64 j ∧ Hid (Below w2.heap.size w2 wr)) (fun jv _ => i - (intOf jv).toNat)
      case atStart => exact ⟨0, Nat.zero_le _, rfl, hide (Below.refl _ _)⟩
      case round =>
        obtain ⟨j, hj, rfl, HBj⟩ := hrel
        by_cases hjt : j < i
        · have hjt' : (j : Int) < (i : Int) := by omega
          have j8 : (j : Int) < 8 := by omega
          have rgA : wr.rangeAt w.heap.size (j * 32) ((List.range 32).map (encP (M j) n)) := by
            have h := ((unhide AF2).later (unhide HBj)).range (o := j * 32) (n := 32) (by omega)
            rw [List.map_congr_left (fun q hq => (unhide FV2) j q (by omega) (List.mem_range.1 hq))] at h
            exact h
          have rgB : wr.rangeAt w.heap.size (i * 32) B := by
            have h := ((unhide AF2).later (unhide HBj)).range (o := i * 32) (n := 32) (by omega)
            rw [List.map_congr_left (fun q hq => (unhide FV2) i q (by omega) (List.mem_range.1 hq))] at h
            rw [unhide EB]
            exact h
          obtain ⟨r, hr1, hr2⟩ := eq_rows (M j) (M i) n
          have AL := hide (fun e => (show Alk M n from ⟨j, i, by omega, hlt, by omega, alike_of hn (fun t ht => (unhide BD) j t (by omega) ht) (fun t ht => (unhide BD) i t hlt ht) (hr2 e)⟩))
          clear hr2
          rw [← unhide EB] at hr1
          obtain ⟨A, hA⟩ : ∃ A : List Value, A = (List.range 32).map (encP (M j) n) := ⟨_, rfl⟩
          rw [← hA] at hr1 rgA
          have lenA : A.length = 32 := by rw [hA]; simp
          have oneA : ∀ v ∈ A, v.oneCell' = true := fun v hv => by rw [hA] at hv; obtain ⟨p, _, rfl⟩ := List.mem_map.1 hv; unfold encP encV; split <;> (split <;> rfl)
          clear hA
          have lenB := unhide LB
          have oneB := unhide OB
          have hu := Try.underlying99
          have hiA : (Try.prog.info? 99).map (·.size) = some A.length := by rw [lenA]; exact unhide HI
          have hiB : (Try.prog.info? 99).map (·.size) = some B.length := by rw [lenB]; exact unhide HI
          have hg := g99
          go_upto_region 9 with fail
          refine wp_region_held_drew (S := fun w' => w'.rangeAt w.heap.size (j * 32) A ∧ w'.rangeAt w.heap.size (i * 32) B) (by kernel_rfl) ⟨fun q v hv => cd_other (rgA q v hv), fun q v hv => cd_other (rgB q v hv)⟩ (fun hHeld => ?_)
          simp only [List.size_toArray, List.length_cons, List.length_nil, Nat.reduceAdd, Array.replicate_succ, Array.replicate_zero, List.push_toArray, List.nil_append, List.cons_append]
          refine wpAnyH_take (i := 0) (v := .int .i64 j) rfl (by kernel_rfl) (by kernel_rfl) (by kernel_rfl) (fun _ _ _ h => h) (Or.inl ⟨by rfl, by intro w hSw; (try dsimp only at hSw); go_simp⟩) hHeld ?_
          simp only [Act.put, List.setIfInBounds_toArray, List.set_cons_zero, List.set_cons_succ]
          refine wpAnyH_take (i := 1) (v := .pointer (some ⟨w.heap.size, j * 32, none⟩)) rfl (by kernel_rfl) (by kernel_rfl) (by kernel_rfl) (fun _ _ _ h => h) (Or.inl ⟨by rfl, by intro w hSw; (try dsimp only at hSw); go_simp⟩) hHeld ?_
          simp only [Act.put, List.setIfInBounds_toArray, List.set_cons_zero, List.set_cons_succ]
          refine wpAnyH_take (i := 2) (v := .agg A.toArray) rfl (by kernel_rfl) (by kernel_rfl) (by kernel_rfl) (fun _ _ _ h => h) (yieldsIf_load_mid (by rfl) 99 (Operand.tmp 24) (by rfl) w.heap.size (j * 32) (by rfl) A _ (fun w h => h.1) hu rfl hiA) hHeld ?_
          simp only [Act.put, List.setIfInBounds_toArray, List.set_cons_zero, List.set_cons_succ]
          refine wpAnyH_take (i := 3) (v := .int .i64 i) rfl (by kernel_rfl) (by kernel_rfl) (by kernel_rfl) (fun _ _ _ h => h) (Or.inl ⟨by rfl, by intro w hSw; (try dsimp only at hSw); go_simp⟩) hHeld ?_
          simp only [Act.put, List.setIfInBounds_toArray, List.set_cons_zero, List.set_cons_succ]
          refine wpAnyH_take (i := 4) (v := .pointer (some ⟨w.heap.size, i * 32, none⟩)) rfl (by kernel_rfl) (by kernel_rfl) (by kernel_rfl) (fun _ _ _ h => h) (Or.inl ⟨by rfl, by intro w hSw; (try dsimp only at hSw); go_simp⟩) hHeld ?_
          simp only [Act.put, List.setIfInBounds_toArray, List.set_cons_zero, List.set_cons_succ]
          refine wpAnyH_take (i := 5) (v := .agg B.toArray) rfl (by kernel_rfl) (by kernel_rfl) (by kernel_rfl) (fun _ _ _ h => h) (yieldsIf_load_mid (by rfl) 99 (Operand.tmp 27) (by rfl) w.heap.size (i * 32) (by rfl) B _ (fun w h => h.2) hu rfl hiB) hHeld ?_
          simp only [Act.put, List.setIfInBounds_toArray, List.set_cons_zero, List.set_cons_succ]
          refine wpAnyH_take (i := 6) (v := .bool r) rfl (by kernel_rfl) (by kernel_rfl) (by kernel_rfl) (fun _ _ _ h => h) (Or.inl ⟨by rfl, by intro w hSw; (try dsimp only at hSw); go_simp⟩) hHeld ?_
          simp only [Act.put, List.setIfInBounds_toArray, List.set_cons_zero, List.set_cons_succ]
          refine wpAnyH_done (by kernel_rfl) ?_ _
          have HBd := hide ((unhide HBj).trans (((Below.refl wr.heap.size wr).drew).mono (unhide HBj).size))
          clear hHeld rgA rgB hr1 hiA hiB hu hg lenA lenB oneA oneB
          generalize wr.drew = wd at HBd ⊢
          cases r
          · go_wp2
            go_roundw
            case rel => exact ⟨j + 1, by omega, by go_num, HBd⟩
            case measure => simp [intOf]; omega
          · go_wp2
            go_ret
            exact ⟨true, rfl, below_on (unhide HB2) (unhide HBd), fun _ => (unhide AL) trivial⟩
        · obtain rfl : j = i := by omega
          go_wp2
          go_roundw
          case rel => exact ⟨j + 1, f2, by omega, by go_num, hide ((unhide AF2).later (unhide HBj)), FV2, hide (below_on (unhide HB2) (unhide HBj))⟩
          case measure => simp [intOf]; omega
    · obtain rfl : i = n := by omega
      go_wp2
      go_ret
      exact ⟨false, rfl, unhide HB, fun h => by cases h⟩
end Go.Proofs.Ytaaajmdneaaeeaa
namespace Go.Proofs.Ytaaajmdneaaeeaa
open Go.RowKit
set_option linter.unusedVariables false
set_option maxRecDepth 100000
set_option linter.unusedSimpArgs false

theorem quo_exact {N D Q : Int} (hD : D ≠ 0) (h : D * Q = N) : sU (!(decide (N < 0) == decide (D < 0))) ((N.natAbs : Int) / (D.natAbs : Int)) = Q := by
  have e : (N.natAbs : Int) / (D.natAbs : Int) = (Q.natAbs : Int) := by
    rw [← h, Int.natAbs_mul, Int.natCast_mul]
    exact Int.mul_ediv_cancel_left _ (by omega)
  rw [e]
  unfold sU
  rcases Int.lt_trichotomy Q 0 with hq | hq | hq
  · rcases Int.lt_or_gt_of_ne hD with hd | hd
    · have h1 : 0 < D * Q := Int.mul_pos_of_neg_of_neg hd hq
      rw [decide_eq_false (show ¬ N < 0 by omega), decide_eq_true hd]; simp; omega
    · have h1 : D * Q < 0 := Int.mul_neg_of_pos_of_neg hd hq
      rw [decide_eq_true (show N < 0 by omega), decide_eq_false (show ¬ D < 0 by omega)]; simp; omega
  · subst hq
    simp
  · rcases Int.lt_or_gt_of_ne hD with hd | hd
    · have h1 : D * Q < 0 := Int.mul_neg_of_neg_of_pos hd hq
      rw [decide_eq_true (show N < 0 by omega), decide_eq_true hd]; simp; omega
    · have h1 : 0 < D * Q := Int.mul_pos hd hq
      rw [decide_eq_false (show ¬ N < 0 by omega), decide_eq_false (show ¬ D < 0 by omega)]; simp; omega
set_option maxHeartbeats 4000000 in
theorem quoI_v (b b' : BV) (N D Q : Int) (w : World) (h : IsB w b N) (h' : IsB w b' D) (hD : D ≠ 0) (k : Bd N 400000) (k' : Bd D 400000) (hQ : D * Q = N) : Calls Try.prog 109 #[.agg #[.bool b.g, .slice b.a b.n b.c], .agg #[.bool b'.g, .slice b'.a b'.n b'.c]] w (OutN w Q) := by
  obtain ⟨xs, hx, _, hl, nx, sx⟩ := h.num k (by omega)
  obtain ⟨ys, hy, _, hl', ny, sy⟩ := h'.num k' (by omega)
  have hm : 1 ≤ b'.n := by have := h'.zero_iff; omega
  have HX := hide hx.arg
  have HY := hide hy.arg
  have NX := hide nx
  have NY := hide ny
  have SX : Hid (sU (!(b.g == b'.g)) ((N.natAbs : Int) / (D.natAbs : Int)) = Q) := hide (by rw [sx, sy]; exact quo_exact hD hQ)
  clear h h' hx hy nx ny sx sy hQ hD
  have B0 := hide (show Below w.heap.size w (((w.alloc (.cells #[.bool b.g, .slice b.a b.n b.c] 27)).alloc (.cells #[.bool b'.g, .slice b'.a b'.n b'.c] 27)).alloc (.cells #[.bool false, .slice none 0 0] 27)) from ((((Below.refl _ _).alloc (by simp) _).alloc (by simp) _).alloc (by simp <;> omega) _))
  go_enter Try.func109, Try.ntmps109
  go_wp2_with fail
  refine (divI_any b.a b'.a b.n b'.n b.c b'.c xs ys _ ((unhide HX).later (unhide B0)) ((unhide HY).later (unhide B0)) (unhide NX).ok (unhide NX).tr (unhide NY).ok (unhide NY).tr (by omega) (by omega) (by omega)).mono ?_
  rintro e w1 ⟨a1, n1, c1, zs, a2, n2, c2, rs, rfl, hb, ho1, ha1, hn1, ho2, ha2, hn2, hap⟩
  rw [(unhide NX).v, (unhide NY).v] at hn1
  have N1 := hide hn1
  have s1 : w.heap.size + 3 ≤ w1.heap.size := by have := hb.size; simp at this; omega
  have k0_0 : w1.cell? ⟨w.heap.size, 0, none⟩ = some (.bool b.g) := cell_later hb (by simp [go_sem])
  have k1_0 : w1.cell? ⟨w.heap.size + 1, 0, none⟩ = some (.bool b'.g) := cell_later hb (by simp [go_sem])
  have k2_0 : w1.cell? ⟨w.heap.size + 1 + 1, 0, none⟩ = some (.bool false) := cell_later hb (by simp [go_sem])
  have k2_1 : w1.cell? ⟨w.heap.size + 1 + 1, 1, none⟩ = some (.slice none 0 0) := cell_later hb (by simp [go_sem])
  have z2 : ∀ o, w1.frozen? ⟨w.heap.size + 1 + 1, o, none⟩ = false := fun o => frozen_later hb (by simp) (by simp [go_sem])
  have A1 := hide (ha1)
  have O1 := hide (ho1.two)
  have HB := hide (below_on (unhide B0) hb)
  clear hb
  clear ho1 ha1 hn1 ho2 ha2 hn2 hap
  go_wp2_with fail
  refine (signI_v _ a1 n1 c1 zs _ _ _ _ (unhide A1) (unhide O1) (unhide N1)).mono ?_
  rintro e w2 ⟨x1, rfl, hb, ow, ar⟩
  rw [unhide SX] at ow ar
  have s2 := hb.size
  have OW := hide ow
  have AR := hide ar
  have NZ : Hid (Nm zs Q.natAbs) := hide (by have h1 := unhide N1; rw [← unhide SX]; unfold sU; have h2 := h1.nonneg; refine ⟨h1.ok, h1.tr, ?_⟩; rw [h1.v]; split <;> omega)
  replace z2 := fun o => frozen_later hb (World.block_lt_of_cell? _ _ k2_0) (z2 o)
  replace k2_0 := cell_later hb k2_0
  replace k2_1 := cell_later hb k2_1
  clear k0_0 k1_0
  replace A1 := hide ((unhide A1).later hb)
  replace O1 := hide ((unhide O1).later hb)
  replace HB := hide (below_on (unhide HB) hb)
  clear hb
  clear ow ar
  go_wp2
  refine bodyPost_ret (v := .agg #[.bool x1.g, .slice x1.a x1.n x1.c]) (by simp [results, Try.results109, go_sem, k2_0, k2_1]) rfl ?_
  exact outN_fin (b := x1) (R := w.heap.size + 1 + 1) (by omega) (unhide HB) (metB_but (w5 := w2) (v := x1) (G := w.heap.size + 1 + 1)) ((unhide OW).wide (by simp) (by omega)) (unhide AR) (unhide NZ)
/-- The limbs of a number with the other sign are its own. -/
theorem turnI_v (b : BV) (V : Int) (lo hi : Nat) (w : World) (h : Ow lo hi w b V) : Calls Try.prog 76 #[.agg #[.bool b.g, .slice b.a b.n b.c]] w fun e w' => ∃ x : BV, e = .returned (.agg #[.bool x.g, .slice x.a x.n x.c]) ∧ Below w.heap.size w w' ∧ Ow lo hi w' x (-V) := by
  obtain ⟨xs, k1, k2, k3⟩ := h
  have O := hide (k1.own (b, ⟨decide (V < 0), xs⟩) (List.mem_singleton.2 rfl)).own
  have A := hide k2.head.ar
  have sg : b.g = decide (V < 0) := k2.head.sg
  have NX := hide k3
  have SX : Hid (sU (!b.g) (V.natAbs : Int) = -V) := hide (by rw [sg]; unfold sU; by_cases e : V < 0 <;> simp [e] <;> omega)
  clear k1 k2 k3 sg
  have B0 := hide (show Below w.heap.size w ((w.alloc (.cells #[.bool b.g, .slice b.a b.n b.c] 27)).alloc (.cells #[.bool false, .slice none 0 0] 27)) from (((Below.refl _ _).alloc (by simp) _).alloc (by simp) _))
  go_enter Try.func76, Try.ntmps76
  go_wp2_with fail
  refine (signI_v _ b.a b.n b.c xs _ lo hi _ ((unhide A).later (unhide B0)) ((unhide O).later (unhide B0)) (unhide NX)).mono ?_
  rintro e w1 ⟨x1, rfl, hb, ow, ar⟩
  rw [unhide SX] at ow ar
  have OW := hide (outN_ow ow ar (by rw [Int.natAbs_neg]; exact unhide NX))
  have s1 : w.heap.size + 2 ≤ w1.heap.size := by have := hb.size; simp at this; omega
  have k1_0 : w1.cell? ⟨w.heap.size + 1, 0, none⟩ = some (.bool false) := cell_later hb (by simp [go_sem])
  have k1_1 : w1.cell? ⟨w.heap.size + 1, 1, none⟩ = some (.slice none 0 0) := cell_later hb (by simp [go_sem])
  have z1 : ∀ o, w1.frozen? ⟨w.heap.size + 1, o, none⟩ = false := fun o => frozen_later hb (by simp) (by simp [go_sem])
  have HB := hide (below_on (unhide B0) hb)
  clear hb
  clear ow ar
  go_wp2
  refine bodyPost_ret (v := .agg #[.bool x1.g, .slice x1.a x1.n x1.c]) (by simp [results, Try.results76, go_sem, k1_0, k1_1]) rfl ?_
  exact ⟨x1, rfl, (metB_but (w5 := w1) (v := x1) (G := w.heap.size + 1)).below (unhide HB) (by omega) (unhide HB).size, (unhide OW).blk (metB_but (w5 := w1) (v := x1) (G := w.heap.size + 1)) k1_0 (notI_b _)⟩
end Go.Proofs.Ytaaajmdneaaeeaa
namespace Go.Proofs.Ytaaajmdneaaeeaa
open Go.RowKit
set_option linter.unusedVariables false
set_option maxRecDepth 100000
set_option linter.unusedSimpArgs false

/-- A row's numbers behind k and ahead of j are new. -/
def rowTo (M : Nat → Nat → Int) (i k j : Nat) (Q : Nat → Int) : Nat → Nat → Int := fun r c => if r = i ∧ k < c ∧ c < j then Q c else M r c
set_option maxHeartbeats 8000000 in
theorem stepI_v (lo hh : Nat) (G n k i c1 c2 : Nat) (R : Nat → Nat) (M : Nat → Nat → Int) (l : BV) (L : Int) (Q : Nat → Int) (w : World) (h : MatW lo w G n n R M) (hki : k < i) (hi : i < n) (hn : n ≤ 1000) (hl : Ow lo hh w l L) (hL : L ≠ 0)
    (bd : ∀ r j, k ≤ r → r < n → k ≤ j → j < n → Bd (M r j) 1000) (bl : Bd L 1000) (ex : ∀ j, k < j → j < n → L * Q j = M k k * M i j - M i k * M k j) :
    Calls Try.prog 75 #[.slice (some ⟨R i, 0, none⟩) n c1, .slice (some ⟨R k, 0, none⟩) n c2, .int .i64 k, .agg #[.bool l.g, .slice l.a l.n l.c]] w fun e w' => e = .returned (.tuple #[]) ∧ But (R i) (R i + 1) w w' ∧ MatW lo w' G n n R (rowTo M i k n Q) := by
  have HM0 := hide h
  have OL0 := hide hl
  have HL := hide hL
  have BD := hide bd
  have BL := hide bl
  have EX := hide ex
  have hrk := (h.rlo k (by omega)).2.1
  have hri := (h.rlo i hi).2.1
  have hik : R i ≠ R k := h.inj i k hi (by omega) (by omega)
  clear h hl hL bd bl ex
  have hk' : (k : Int) < (n : Int) := by omega
  go_enter Try.func75, Try.ntmps75
  go_wp2
  go_loopw [8] (fun jv wr => ∃ j : Nat, k < j ∧ j ≤ n ∧ jv = .int .i64 j ∧ w.heap.size < wr.heap.size ∧ Hid (MatW lo wr G n n R (rowTo M i k j Q)) ∧ Hid (Ow lo hh wr l L) ∧ Hid (But (R i) (R i + 1) w wr) ∧ Hid (wr.cell? ⟨w.heap.size, 0, none⟩ = some (.bool l.g) ∧ wr.cell? ⟨w.heap.size, 1, none⟩ = some (.slice l.a l.n l.c))) (fun jv _ => n - (intOf jv).toNat)
  case atStart =>
    have ha : Below w.heap.size w (w.alloc (.cells #[.bool l.g, .slice l.a l.n l.c] 27)) := (Below.refl _ _).alloc (Nat.le_refl _) _
    exact ⟨k + 1, by omega, by omega, by go_num, by simp, hide (((unhide HM0).later ha).congr (fun r c _ _ => by unfold rowTo; rw [if_neg (by omega)])), hide ((unhide OL0).later ha), hide (But.of_below ha), hide ⟨by simp [go_sem], by simp [go_sem]⟩⟩
  case round =>
    clear HM0 OL0
    obtain ⟨j, hkj, hj, rfl, hsz, HM, OL, HT, HC⟩ := hrel
    by_cases hlt : j < n
    · have hlt' : (j : Int) < (n : Int) := by omega
      obtain ⟨b0, k0_0, k0_1, o0⟩ := (unhide HM).el k k (by omega) (by omega)
      obtain ⟨b1, k1_0, k1_1, o1⟩ := (unhide HM).el i j hi hlt
      obtain ⟨b2, k2_0, k2_1, o2⟩ := (unhide HM).el i k hi (by omega)
      obtain ⟨b3, k3_0, k3_1, o3⟩ := (unhide HM).el k j (by omega) hlt
      rw [show rowTo M i k j Q k k = M k k by unfold rowTo; rw [if_neg (by omega)]] at o0
      rw [show rowTo M i k j Q i j = M i j by unfold rowTo; rw [if_neg (by omega)]] at o1
      rw [show rowTo M i k j Q i k = M i k by unfold rowTo; rw [if_neg (by omega)]] at o2
      rw [show rowTo M i k j Q k j = M k j by unfold rowTo; rw [if_neg (by omega)]] at o3
      have O0 := hide o0
      have O1 := hide o1
      have O2 := hide o2
      have O3 := hide o3
      clear o0 o1 o2 o3
      have KB : Hid (Bd (M k k) 400000 ∧ Bd (M i j) 400000 ∧ Bd (M i k) 400000 ∧ Bd (M k j) 400000) := hide ⟨((unhide BD) k k (Nat.le_refl _) (by omega) (Nat.le_refl _) (by omega)).mono (by omega), ((unhide BD) i j (by omega) hi (by omega) hlt).mono (by omega), ((unhide BD) i k (by omega) hi (Nat.le_refl _) (by omega)).mono (by omega), ((unhide BD) k j (Nat.le_refl _) (by omega) (by omega) hlt).mono (by omega)⟩
      have BX : Hid (Bd (M k k * M i j) 400000 ∧ Bd (M i k * M k j) 400000 ∧ Bd (M k k * M i j - M i k * M k j) 400000) := hide (by
        have m1 := ((unhide BD) k k (Nat.le_refl _) (by omega) (Nat.le_refl _) (by omega)).mul ((unhide BD) i j (by omega) hi (by omega) hlt)
        have m2 := ((unhide BD) i k (by omega) hi (Nat.le_refl _) (by omega)).mul ((unhide BD) k j (Nat.le_refl _) (by omega) (by omega) hlt)
        exact ⟨m1.mono (by omega), m2.mono (by omega), (m1.sub m2).mono (by omega)⟩)
      have hrk2 : R k < wr.heap.size := by have := (unhide HT).size; omega
      have hri2 : R i < wr.heap.size := by have := (unhide HT).size; omega
      have HB := hide (Below.refl wr.heap.size wr)
      go_upto_region 4 with fail
      go_cut [9] (fun p wx => ∃ (G : Nat) (x : BV), p = .pointer (some ⟨G, 0, none⟩) ∧ Hid (BxB wr wx G x (M k k * M i j - M i k * M k j)))
      case first =>
        go_region_held3 (fun w' => w'.cell? ⟨R k, k * 2, none⟩ = some (.bool b0.g) ∧ w'.cell? ⟨R k, k * 2 + 1, none⟩ = some (.slice b0.a b0.n b0.c) ∧ w'.cell? ⟨R i, j * 2, none⟩ = some (.bool b1.g) ∧ w'.cell? ⟨R i, j * 2 + 1, none⟩ = some (.slice b1.a b1.n b1.c) ∧ w'.cell? ⟨R i, k * 2, none⟩ = some (.bool b2.g) ∧ w'.cell? ⟨R i, k * 2 + 1, none⟩ = some (.slice b2.a b2.n b2.c) ∧ w'.cell? ⟨R k, j * 2, none⟩ = some (.bool b3.g) ∧ w'.cell? ⟨R k, j * 2 + 1, none⟩ = some (.slice b3.a b3.n b3.c)) (with_reducible (first | exact ⟨k0_0, k0_1, k1_0, k1_1, k2_0, k2_1, k3_0, k3_1⟩ | exact ⟨cd_other k0_0, cd_other k0_1, cd_other k1_0, cd_other k1_1, cd_other k2_0, cd_other k2_1, cd_other k3_0, cd_other k3_1⟩ | exact ⟨ca_other k0_0, ca_other k0_1, ca_other k1_0, ca_other k1_1, ca_other k2_0, ca_other k2_1, ca_other k3_0, ca_other k3_1⟩ | exact ⟨cd_other (ca_other k0_0), cd_other (ca_other k0_1), cd_other (ca_other k1_0), cd_other (ca_other k1_1), cd_other (ca_other k2_0), cd_other (ca_other k2_1), cd_other (ca_other k3_0), cd_other (ca_other k3_1)⟩ | exact ⟨cs_other (cs_other (k0_0) (by omega)) (by omega), cs_other (cs_other (k0_1) (by omega)) (by omega), cs_other (cs_other (k1_0) (by omega)) (by omega), cs_other (cs_other (k1_1) (by omega)) (by omega), cs_other (cs_other (k2_0) (by omega)) (by omega), cs_other (cs_other (k2_1) (by omega)) (by omega), cs_other (cs_other (k3_0) (by omega)) (by omega), cs_other (cs_other (k3_1) (by omega)) (by omega)⟩ | fail))
          (first
          | (go_at_call_of 108 (Value.agg #[Value.bool b0.g, Value.slice b0.a b0.n b0.c]); refine (mulI_v b0 b1 (M k k) (M i j) _ ?_ ?_ (unhide KB).1 (unhide KB).2.1).mono ?_; (first | exact (unhide O0).is.later (Below.refl _ _).drew | exact (unhide O0).is.later ((Below.refl _ _).alloc (Nat.le_refl _) _).drew); (first | exact (unhide O1).is.later (Below.refl _ _).drew | exact (unhide O1).is.later ((Below.refl _ _).alloc (Nat.le_refl _) _).drew); rintro e w1 ⟨x1, lx1, rfl, hb, ox1, ax1, nx1⟩; have hbx : Below wr.heap.size wr w1 := (by first | exact below_of_drew hb | exact bad hb); have szw1 := hbx.size; replace k0_0 := cell_later hbx k0_0; replace k0_1 := cell_later hbx k0_1; replace k1_0 := cell_later hbx k1_0; replace k1_1 := cell_later hbx k1_1; replace k2_0 := cell_later hbx k2_0; replace k2_1 := cell_later hbx k2_1; replace k3_0 := cell_later hbx k3_0; replace k3_1 := cell_later hbx k3_1; replace O0 := hide ((unhide O0).later hbx); replace O1 := hide ((unhide O1).later hbx); replace O2 := hide ((unhide O2).later hbx); replace O3 := hide ((unhide O3).later hbx); have Px1 := hide (outN_ow ox1 ax1 nx1); (try (replace gf := fun o => frozen_later hbx (World.block_lt_of_cell? _ _ g0) (gf o); replace g0 := cell_later hbx g0; replace g1 := cell_later hbx g1)); (try (refine cutP (p := w1.cell? ⟨wr.heap.size, 0, none⟩ = some (.bool false) ∧ w1.cell? ⟨wr.heap.size, 1, none⟩ = some (.slice none 0 0) ∧ ∀ o, w1.frozen? ⟨wr.heap.size, o, none⟩ = false) ?_ (fun dd => ?_); (focus (refine ⟨cell_later hb ?_, cell_later hb ?_, fun o => frozen_later hb ?_ ?_⟩ <;> (simp [go_sem]; done))); obtain ⟨g0, g1, gf⟩ := dd)); have zz := hb.size; (try simp at zz); have HBr := hide hbx; clear hbx hb ox1 ax1 nx1)
          | (go_at_call_of 108 (Value.agg #[Value.bool b2.g, Value.slice b2.a b2.n b2.c]); refine (mulI_v b2 b3 (M i k) (M k j) _ ?_ ?_ (unhide KB).2.2.1 (unhide KB).2.2.2).mono ?_; (first | exact (unhide O2).is.later (Below.refl _ _) | exact (unhide O2).is.later ((Below.refl _ _).alloc (Nat.le_refl _) _)); (first | exact (unhide O3).is.later (Below.refl _ _) | exact (unhide O3).is.later ((Below.refl _ _).alloc (Nat.le_refl _) _)); rintro e w2 ⟨x2, lx2, rfl, hb, ox2, ax2, nx2⟩; have hbx : Below w1.heap.size w1 w2 := (by first | exact hb | exact ba hb); have szw2 := hbx.size; replace k0_0 := cell_later hbx k0_0; replace k0_1 := cell_later hbx k0_1; replace k1_0 := cell_later hbx k1_0; replace k1_1 := cell_later hbx k1_1; replace k2_0 := cell_later hbx k2_0; replace k2_1 := cell_later hbx k2_1; replace k3_0 := cell_later hbx k3_0; replace k3_1 := cell_later hbx k3_1; replace O0 := hide ((unhide O0).later hbx); replace O1 := hide ((unhide O1).later hbx); replace O2 := hide ((unhide O2).later hbx); replace O3 := hide ((unhide O3).later hbx); replace Px1 := hide ((unhide Px1).later hbx); have Px2 := hide (outN_ow ox2 ax2 nx2); (try (replace gf := fun o => frozen_later hbx (World.block_lt_of_cell? _ _ g0) (gf o); replace g0 := cell_later hbx g0; replace g1 := cell_later hbx g1)); (try (refine cutP (p := w2.cell? ⟨w1.heap.size, 0, none⟩ = some (.bool false) ∧ w2.cell? ⟨w1.heap.size, 1, none⟩ = some (.slice none 0 0) ∧ ∀ o, w2.frozen? ⟨w1.heap.size, o, none⟩ = false) ?_ (fun dd => ?_); (focus (refine ⟨cell_later hb ?_, cell_later hb ?_, fun o => frozen_later hb ?_ ?_⟩ <;> (simp [go_sem]; done))); obtain ⟨g0, g1, gf⟩ := dd)); have zz := hb.size; (try simp at zz); have HBr := hide (below_on (unhide HBr) hbx); clear hbx hb ox2 ax2 nx2)
          | (go_at_call 107; refine (subI_v x1 x2 (M k k * M i j) (M i k * M k j) _ ?_ ?_ (unhide BX).1 (unhide BX).2.1).mono ?_; (first | exact (unhide Px1).is.later (Below.refl _ _) | exact (unhide Px1).is.later ((Below.refl _ _).alloc (Nat.le_refl _) _)); (first | exact (unhide Px2).is.later (Below.refl _ _) | exact (unhide Px2).is.later ((Below.refl _ _).alloc (Nat.le_refl _) _)); rintro e w3 ⟨x3, lx3, rfl, hb, ox3, ax3, nx3⟩; have hbx : Below w2.heap.size w2 w3 := (by first | exact hb | exact ba hb); have szw3 := hbx.size; replace k0_0 := cell_later hbx k0_0; replace k0_1 := cell_later hbx k0_1; replace k1_0 := cell_later hbx k1_0; replace k1_1 := cell_later hbx k1_1; replace k2_0 := cell_later hbx k2_0; replace k2_1 := cell_later hbx k2_1; replace k3_0 := cell_later hbx k3_0; replace k3_1 := cell_later hbx k3_1; replace O0 := hide ((unhide O0).later hbx); replace O1 := hide ((unhide O1).later hbx); replace O2 := hide ((unhide O2).later hbx); replace O3 := hide ((unhide O3).later hbx); replace Px1 := hide ((unhide Px1).later hbx); replace Px2 := hide ((unhide Px2).later hbx); have Px3 := hide (outN_ow ox3 ax3 nx3); (try (replace gf := fun o => frozen_later hbx (World.block_lt_of_cell? _ _ g0) (gf o); replace g0 := cell_later hbx g0; replace g1 := cell_later hbx g1)); (try (refine cutP (p := w3.cell? ⟨w2.heap.size, 0, none⟩ = some (.bool false) ∧ w3.cell? ⟨w2.heap.size, 1, none⟩ = some (.slice none 0 0) ∧ ∀ o, w3.frozen? ⟨w2.heap.size, o, none⟩ = false) ?_ (fun dd => ?_); (focus (refine ⟨cell_later hb ?_, cell_later hb ?_, fun o => frozen_later hb ?_ ?_⟩ <;> (simp [go_sem]; done))); obtain ⟨g0, g1, gf⟩ := dd)); have zz := hb.size; (try simp at zz); have HBr := hide (below_on (unhide HBr) hbx); clear hbx hb ox3 ax3 nx3))
        all_goals go_wp2_with fail
        all_goals go_meet
        all_goals first
          | (refine ⟨_, x3, rfl, hide (bxB_alloc 27 (unhide HBr) (unhide Px3) ?_)⟩; omega)
          | (refine ⟨_, x3, rfl, hide (bxB_set (unhide HBr) (unhide Px3) ?_ ?_ g0 g1)⟩ <;> first | omega | (simp; done) | (simp; omega))
      case rest =>
        obtain ⟨G, xG, rfl, HG⟩ := hcut
        have hb := (unhide HG).bel
        have loG := (unhide HG).lo
        have hiG := (unhide HG).hi
        clear k0_0 k0_1 k1_0 k1_1 k2_0 k2_1 k3_0 k3_1
        replace O0 := hide ((unhide O0).later hb)
        replace O1 := hide ((unhide O1).later hb)
        replace O2 := hide ((unhide O2).later hb)
        replace O3 := hide ((unhide O3).later hb)
        have OG := hide ((unhide HG).ow)
        replace HB := hide (below_on (unhide HB) hb)
        clear hb
        have k4_0 := (unhide HG).c0
        have k4_1 := (unhide HG).c1
        clear HG
        have HMc := hide ((unhide HM).later (unhide HB))
        have OLc := hide ((unhide OL).later (unhide HB))
        have c0 := cell_later (unhide HB) (unhide HC).1
        have c1x := cell_later (unhide HB) (unhide HC).2
        have EQ := hide ((unhide EX) j hkj hlt)
        clear HM OL O0 O1 O2 O3
        go_wp2_with fail
        refine (quoI_v xG l _ L (Q j) _ (unhide OG).is (unhide OLc).is (unhide HL) (unhide BX).2.2 ((unhide BL).mono (by omega)) (unhide EQ)).mono ?_
        rintro e w5 ⟨x, lx, rfl, hb, ox, ax, nx⟩
        have hs5 := hb.size
        have OX := hide (outN_ow ox ax nx)
        have HM5 := hide ((unhide HMc).later hb)
        have OL5 := hide ((unhide OLc).later hb)
        have e0 := cell_later hb c0
        have e1 := cell_later hb c1x
        have HB5 := hide (below_on (unhide HB) hb)
        clear hb ox ax nx HMc OLc c0 c1x
        obtain ⟨b1', m0, m1, _⟩ := (unhide HM5).el i j hi hlt
        have fz := (unhide HM5).rfz i hi
        have lo1 := (unhide HM5).rlo i hi
        have szz := (unhide HB).size
        go_wp2
        go_roundw
        case rel =>
          have bt : But (R i) (R i + 1) w5 ((w5.setCell ⟨R i, j * 2, none⟩ (.bool x.g)).setCell ⟨R i, j * 2 + 1, none⟩ (.slice x.a x.n x.c)) := but_row7
          obtain ⟨bz, z0, _, _⟩ := (unhide HM5).el i 0 hi (by omega)
          have hs6 := bt.size
          refine ⟨j + 1, by omega, by omega, by go_num, by omega, hide ?_, hide ((unhide OL5).blk bt z0 (notI_b _)), hide (((unhide HT).trans (But.of_below (unhide HB5))).trans bt), hide ⟨bt.cell e0 (by omega), bt.cell e1 (by omega)⟩⟩
          refine ((unhide HM5).set hi hlt ((unhide OX).wide (by have := (unhide HM5).glo; omega) (Nat.le_refl _))).congr (fun r c hr hc => ?_)
          unfold upd rowTo
          by_cases y1 : r = i
          · subst y1
            by_cases y2 : c = j
            · subst y2
              rw [if_pos ⟨rfl, rfl⟩, if_pos ⟨rfl, hkj, by omega⟩]
            · rw [if_neg (fun h => y2 h.2)]
              by_cases y3 : k < c ∧ c < j
              · rw [if_pos ⟨rfl, y3⟩, if_pos ⟨rfl, y3.1, by omega⟩]
              · rw [if_neg (fun h => y3 h.2), if_neg (fun h => y3 ⟨h.2.1, by omega⟩)]
          · rw [if_neg (fun h => y1 h.1), if_neg (fun h => y1 h.1), if_neg (fun h => y1 h.1)]
        case measure => simp [intOf]; omega
    · obtain rfl : j = n := by omega
      go_wp2
      exact bodyPost_end (v := .tuple #[]) (by simp [results, Try.results75, go_sem]) rfl ⟨rfl, unhide HT, unhide HM⟩
end Go.Proofs.Ytaaajmdneaaeeaa
namespace Go.Proofs.Ytaaajmdneaaeeaa
open Go.RowKit
set_option linter.unusedVariables false
set_option maxRecDepth 100000
set_option linter.unusedSimpArgs false

def nxI (M : Nat → Nat → Int) (n k : Nat) : Int := match nxt M n k with
  | none => -1
  | some i => (i : Int)
theorem nxI_is {M : Nat → Nat → Int} {n k i : Nat} (h1 : k ≤ i) (h2 : i < n) (h3 : M i k ≠ 0) (h4 : ∀ t, k ≤ t → t < i → M t k = 0) : nxI M n k = (i : Int) := by unfold nxI; rw [nxt_is h1 h2 h3 h4]
theorem nxI_no {M : Nat → Nat → Int} {n k : Nat} (h : ∀ t, k ≤ t → t < n → M t k = 0) : nxI M n k = -1 := by unfold nxI; rw [nxt_no h]

set_option maxHeartbeats 2000000 in
theorem nextI_v (a : Option Addr) (n c k : Nat) (M : Nat → Nat → Int) (w : World) (h : MatV w a n M) (hn : n ≤ 1000) (hk : k < n) :
    Calls Try.prog 74 #[.slice a n c, .int .i64 k] w fun e w' => e = .returned (.int .i64 (nxI M n k)) ∧ Below w.heap.size w w' := by
  obtain ⟨G, off, rfl, hG, h⟩ := h
  have HV := hide h
  clear h
  have hk' : (k : Int) < (n : Int) := by omega
  go_enter Try.func74, Try.ntmps74
  go_wp2
  go_loopw [5] (fun iv wr => ∃ i : Nat, k ≤ i ∧ i ≤ n ∧ iv = .int .i64 i ∧ Hid (∀ t, k ≤ t → t < i → M t k = 0) ∧ Hid (Below w.heap.size w wr)) (fun iv _ => n - (intOf iv).toNat)
  case atStart => exact ⟨k, Nat.le_refl _, by omega, rfl, hide (fun t h1 h2 => by omega), hide (Below.refl _ _)⟩
  case round =>
    obtain ⟨i, hki, hi, rfl, HZ, HB⟩ := hrel
    by_cases hlt : i < n
    · have hlt' : (i : Int) < (n : Int) := by omega
      obtain ⟨Ri, o, ci, h1, _, _, hr, h5⟩ := (unhide HV) i hlt
      obtain ⟨b, h6, h7, h8⟩ := h5 k hk
      have E0 : wr.cell? ⟨G, off + i, none⟩ = some (.slice (some ⟨Ri, o, none⟩) n ci) := ((unhide HB).cell (p := ⟨G, off + i, none⟩) hG).trans h1
      have E1 : wr.cell? ⟨Ri, o + k * 2, none⟩ = some (.bool b.g) := ((unhide HB).cell (p := ⟨Ri, o + k * 2, none⟩) hr).trans h6
      have E2 : wr.cell? ⟨Ri, o + k * 2 + 1, none⟩ = some (.slice b.a b.n b.c) := ((unhide HB).cell (p := ⟨Ri, o + k * 2 + 1, none⟩) hr).trans h7
      have ZZ := hide h8.zero_iff
      have hmx := h8.max
      clear h1 h5 h6 h7 h8
      by_cases hz : b.n = 0
      · have C1 := hide (fun w => nought_any b.g b.a b.n b.c w hmx)
        rw [decide_eq_true hz] at C1
        have HZ0 := hide hz
        clear hz
        go_wp2_with fail
        refine (unhide C1 _).mono ?_
        rintro e w1 ⟨rfl, hb1⟩
        have HB1 := hide (below_on (unhide HB) hb1)
        clear hb1 E0 E1 E2
        go_wp2
        go_roundw
        case rel => exact ⟨i + 1, by omega, by omega, by go_num, hide (fun t h1 h2 => by
          by_cases e : t = i
          · rw [e]; exact (unhide ZZ).1 (unhide HZ0)
          · exact (unhide HZ) t h1 (by omega)), HB1⟩
        case measure => simp [intOf]; omega
      · have C1 := hide (fun w => nought_any b.g b.a b.n b.c w hmx)
        rw [decide_eq_false hz] at C1
        have EV : Hid (nxI M n k = (i : Int)) := hide (nxI_is hki hlt (fun e => hz ((unhide ZZ).2 e)) (unhide HZ))
        go_wp2_with fail
        refine (unhide C1 _).mono ?_
        rintro e w1 ⟨rfl, hb1⟩
        have HB1 := hide (below_on (unhide HB) hb1)
        clear hb1 E0 E1 E2
        go_wp2
        go_ret
        exact ⟨by rw [unhide EV]; rfl, unhide HB1⟩
    · obtain rfl : i = n := by omega
      have EV : Hid (nxI M i k = -1) := hide (nxI_no (unhide HZ))
      go_wp2
      go_ret
      exact ⟨by rw [unhide EV]; rfl, unhide HB⟩

set_option maxHeartbeats 2000000 in
theorem pivotS_v (a : Option Addr) (n c k : Nat) (M : Nat → Nat → Int) (w : World) (h : MatV w a n M) (hn : n ≤ 1000) (hk : k < n) :
    Calls Try.prog 79 #[.slice a n c, .int .i64 k] w fun e w' => e = .returned (.int .i64 (nxI M n k)) ∧ w' = w := by
  obtain ⟨G, off, rfl, hG, h⟩ := h
  have HV := hide h
  clear h
  have hk' : (k : Int) < (n : Int) := by omega
  go_enter Try.func79, Try.ntmps79
  go_wp2
  go_loop [5] (fun iv => ∃ i : Nat, k ≤ i ∧ i ≤ n ∧ iv = .int .i64 i ∧ Hid (∀ t, k ≤ t → t < i → M t k = 0)) (fun iv => n - (intOf iv).toNat)
  case atStart => exact ⟨k, Nat.le_refl _, by omega, rfl, hide (fun t h1 h2 => by omega)⟩
  case round =>
    obtain ⟨i, hki, hi, rfl, HZ⟩ := hrel
    by_cases hlt : i < n
    · have hlt' : (i : Int) < (n : Int) := by omega
      obtain ⟨Ri, o, ci, h1, _, _, hr, h5⟩ := (unhide HV) i hlt
      obtain ⟨b, h6, h7, h8⟩ := h5 k hk
      have ZZ := hide h8.zero_iff
      have hmx := h8.max
      unfold maxLen at hmx
      clear h5 h6 h8
      by_cases hz : b.n = 0
      · have hz' : ¬ (0 : Int) < (b.n : Int) := by omega
        have HZ0 := hide hz
        clear hz
        go_wp2
        go_round
        case rel => exact ⟨i + 1, by omega, by omega, by go_num, hide (fun t h1 h2 => by
          by_cases e : t = i
          · rw [e]; exact (unhide ZZ).1 (unhide HZ0)
          · exact (unhide HZ) t h1 (by omega))⟩
        case measure => simp [intOf]; omega
      · have hz' : (0 : Int) < (b.n : Int) := by omega
        have EV : Hid (nxI M n k = (i : Int)) := hide (nxI_is hki hlt (fun e => hz ((unhide ZZ).2 e)) (unhide HZ))
        go_wp2
        go_ret
        exact ⟨by rw [unhide EV]; rfl, rfl⟩
    · obtain rfl : i = n := by omega
      have EV : Hid (nxI M i k = -1) := hide (nxI_no (unhide HZ))
      go_wp2
      go_ret
      exact ⟨by rw [unhide EV]; rfl, rfl⟩
end Go.Proofs.Ytaaajmdneaaeeaa
namespace Go.Proofs.Ytaaajmdneaaeeaa
open Go.RowKit
set_option linter.unusedVariables false
set_option maxRecDepth 100000
set_option linter.unusedSimpArgs false

theorem fct_small {k : Nat} (h : k ≤ 8) : fct k < 65536 := by
  have : k = 0 ∨ k = 1 ∨ k = 2 ∨ k = 3 ∨ k = 4 ∨ k = 5 ∨ k = 6 ∨ k = 7 ∨ k = 8 := by omega
  rcases this with rfl | rfl | rfl | rfl | rfl | rfl | rfl | rfl | rfl <;> decide
theorem bd_of_abs {V : Int} {k : Nat} (hk : k ≤ 8) (h : V.natAbs ≤ fct k * (65536 ^ 3) ^ k) : Bd V 25 := by
  constructor
  have h1 : fct k * (65536 ^ 3) ^ k < 65536 * (65536 ^ 3) ^ k := Nat.mul_lt_mul_of_pos_right (fct_small hk) (Nat.pow_pos (Nat.pow_pos (by omega)))
  have h2 : 65536 * (65536 ^ 3) ^ k = 65536 ^ (3 * k + 1) := by rw [← Nat.pow_mul, Nat.pow_succ, Nat.mul_comm]
  have h3 : 65536 ^ (3 * k + 1) ≤ 65536 ^ 25 := Nat.pow_le_pow_right (by omega) (by omega)
  omega
theorem abs_of_bd {V : Int} (h : Bd V 3) : V.natAbs ≤ 65536 ^ 3 := Nat.le_of_lt h.lt
theorem sw_comm (a b i : Nat) : sw a b i = sw b a i := by unfold sw; split <;> split <;> omega
theorem swp_self (M : Nat → Nat → Int) (k r c : Nat) : swp M k k r c = M r c := by
  unfold swp sw
  by_cases h : r = k
  · rw [if_pos h, h]
  · rw [if_neg h, if_neg h]
/-- Rows from k + 1 on, t of them, have gone a step. -/
def stT (M : Nat → Nat → Int) (k : Nat) (l : Int) (t : Nat) : Nat → Nat → Int := fun r c => if k < r ∧ r < k + 1 + t ∧ k < c then stp M k l r c else M r c
/-- What lies in memory at a step: the matrix, and the box of the last number. -/
structure St7 (lo : Nat) (w : World) (G L n : Nat) (R : Nat → Nat) (M : Nat → Nat → Int) (l : Int) : Prop where
  m : MatW lo w G n n R M
  llo : lo ≤ L
  lG : L ≠ G
  lR : ∀ i, i < n → L ≠ R i
  lf : ∀ o, w.frozen? ⟨L, o, none⟩ = false
  b : ∃ b : BV, w.cell? ⟨L, 0, none⟩ = some (.bool b.g) ∧ w.cell? ⟨L, 1, none⟩ = some (.slice b.a b.n b.c) ∧ Ow lo w.heap.size w b l
theorem St7.later {lo : Nat} {w w' : World} {G L n : Nat} {R : Nat → Nat} {M : Nat → Nat → Int} {l : Int} (h : St7 lo w G L n R M l) (hb : Below w.heap.size w w') : St7 lo w' G L n R M l := by
  obtain ⟨b, h1, h2, h3⟩ := h.b
  have := World.block_lt_of_cell? _ _ h1
  exact ⟨h.m.later hb, h.llo, h.lG, h.lR, fun o => frozen_later hb this (h.lf o), b, cell_later hb h1, cell_later hb h2, (h3.later hb).wide (Nat.le_refl _) hb.size⟩
/-- A row of the matrix has changed. -/
theorem St7.row {lo : Nat} {w w' : World} {G L n i : Nat} {R : Nat → Nat} {M M' : Nat → Nat → Int} {l : Int} (h : St7 lo w G L n R M l) (hi : i < n) (hb : But (R i) (R i + 1) w w') (hm : MatW lo w' G n n R M') : St7 lo w' G L n R M' l := by
  obtain ⟨b, h1, h2, h3⟩ := h.b
  have h0 := World.block_lt_of_cell? _ _ h1
  have hne := h.lR i hi
  obtain ⟨bz, z0, _⟩ := h.m.el i 0 hi (by omega)
  exact ⟨hm, h.llo, h.lG, h.lR, fun o => hb.fz7 (h.lf o) h0 (by omega), b, hb.cell h1 (by omega), hb.cell h2 (by omega), (h3.blk hb z0 (notI_b _)).wide (Nat.le_refl _) hb.size⟩
/-- The list of rows has changed. -/
theorem St7.rows {lo : Nat} {w w' : World} {G L n : Nat} {R R' : Nat → Nat} {M M' : Nat → Nat → Int} {l : Int} (h : St7 lo w G L n R M l) (h0 : 0 < n) (hb : But G (G + 1) w w') (hm : MatW lo w' G n n R' M') (hR : ∀ i, i < n → L ≠ R' i) : St7 lo w' G L n R' M' l := by
  obtain ⟨b, h1, h2, h3⟩ := h.b
  have hl := World.block_lt_of_cell? _ _ h1
  have hne := h.lG
  obtain ⟨c, z0, _⟩ := h.m.out 0 h0
  exact ⟨hm, h.llo, h.lG, hR, fun o => hb.fz7 (h.lf o) hl (by omega), b, hb.cell h1 (by omega), hb.cell h2 (by omega), (h3.blk hb z0 (notI_s _ _ _)).wide (Nat.le_refl _) hb.size⟩
/-- The last number has changed. -/
theorem St7.last {lo : Nat} {w : World} {G L n : Nat} {R : Nat → Nat} {M : Nat → Nat → Int} {l l' : Int} {u : BV} (h : St7 lo w G L n R M l) (ho : Ow lo w.heap.size w u l') : St7 lo ((w.setCell ⟨L, 0, none⟩ (.bool u.g)).setCell ⟨L, 1, none⟩ (.slice u.a u.n u.c)) G L n R M l' := by
  obtain ⟨b, h1, h2, h3⟩ := h.b
  have hb : But L (L + 1) w ((w.setCell ⟨L, 0, none⟩ (.bool u.g)).setCell ⟨L, 1, none⟩ (.slice u.a u.n u.c)) := metB_but
  refine ⟨h.m.but hb h1 (notI_b _) h.lG h.lR, h.llo, h.lG, h.lR, fun o => by simp only [World.frozen?_setCell]; exact h.lf o, u, cs7_skip (cs7_hit h1) (.inr (by omega)), cs7_hit (cs7_skip h2 (.inr (by omega))), (ho.blk hb h1 (notI_b _)).wide (Nat.le_refl _) hb.size⟩
theorem St7.swap {lo : Nat} {w : World} {G L n : Nat} {R : Nat → Nat} {M : Nat → Nat → Int} {l : Int} (h : St7 lo w G L n R M l) {k i c1 c2 : Nat} (hk : k < n) (hi : i < n) (hki : k ≠ i)
    (e1 : w.cell? ⟨G, i, none⟩ = some (.slice (some ⟨R i, 0, none⟩) n c1)) (e2 : w.cell? ⟨G, k, none⟩ = some (.slice (some ⟨R k, 0, none⟩) n c2)) (m1 : n ≤ c1 ∧ c1 ≤ maxLen) (m2 : n ≤ c2 ∧ c2 ≤ maxLen) :
    St7 lo ((w.setCell ⟨G, k, none⟩ (.slice (some ⟨R i, 0, none⟩) n c1)).setCell ⟨G, i, none⟩ (.slice (some ⟨R k, 0, none⟩) n c2)) G L n (fun r => R (sw k i r)) (swp M k i) l :=
  h.rows (by omega) (((But.refl _ _ _).set (p := ⟨G, k, none⟩) (Nat.le_refl G) (Nat.lt_succ_self G) _).set (p := ⟨G, i, none⟩) (Nat.le_refl G) (Nat.lt_succ_self G) _) (h.m.swap hk hi hki e1 e2 m1 m2) (fun r hr => h.lR _ (sw_lt hk hi hr))
theorem out_of_ow {w w' : World} {lo hi : Nat} {b : BV} {V : Int} (h : Ow lo hi w' b V) (hl : w.heap.size ≤ lo) (hh : hi ≤ w'.heap.size) (hb : Below w.heap.size w w') : OutN w V (.returned (.agg #[.bool b.g, .slice b.a b.n b.c])) w' := by
  obtain ⟨xs, k1, k2, k3⟩ := h
  exact ⟨b, xs, rfl, hb, k1.wide hl hh, k2, k3⟩
/-- The box of the answer. -/
structure Rs7 (w : World) (H : Nat) : Prop where
  c : ∃ b : BV, w.cell? ⟨H, 0, none⟩ = some (.bool b.g) ∧ w.cell? ⟨H, 1, none⟩ = some (.slice b.a b.n b.c)
  f : ∀ o, w.frozen? ⟨H, o, none⟩ = false
theorem Rs7.later {w w' : World} {H : Nat} (h : Rs7 w H) (hb : Below w.heap.size w w') : Rs7 w' H := by
  obtain ⟨b, h1, h2⟩ := h.c
  exact ⟨⟨b, cell_later hb h1, cell_later hb h2⟩, fun o => frozen_later hb (World.block_lt_of_cell? _ _ h1) (h.f o)⟩
theorem Rs7.but {w w' : World} {H F : Nat} (h : Rs7 w H) (hb : But F (F + 1) w w') (hne : H ≠ F) : Rs7 w' H := by
  obtain ⟨b, h1, h2⟩ := h.c
  exact ⟨⟨b, hb.cell h1 (by omega), hb.cell h2 (by omega)⟩, fun o => hb.fz7 (h.f o) (World.block_lt_of_cell? _ _ h1) (by omega)⟩
theorem but_two {w : World} {G k i : Nat} {v1 v2 : Value} : But G (G + 1) w ((w.setCell ⟨G, k, none⟩ v1).setCell ⟨G, i, none⟩ v2) := ((But.refl _ _ _).set (p := ⟨G, k, none⟩) (Nat.le_refl G) (Nat.lt_succ_self G) v1).set (p := ⟨G, i, none⟩) (Nat.le_refl G) (Nat.lt_succ_self G) v2
theorem sw7_a {lo H : Nat} {w0 w : World} {G L n : Nat} {R : Nat → Nat} {M : Nat → Nat → Int} {l : Int} {k i c1 c2 : Nat} (h : St7 lo w G L n R M l) (hr : Rs7 w H) (hb : Below w0.heap.size w0 w) (hk : k < n) (hi : i < n) (hki : k ≠ i)
    (e1 : w.cell? ⟨G, i, none⟩ = some (.slice (some ⟨R i, 0, none⟩) n c1)) (e2 : w.cell? ⟨G, k, none⟩ = some (.slice (some ⟨R k, 0, none⟩) n c2)) (m1 : n ≤ c1 ∧ c1 ≤ maxLen) (m2 : n ≤ c2 ∧ c2 ≤ maxLen) (hH : H ≠ G) (hG : w0.heap.size ≤ G) :
    Hid (∃ R', St7 lo ((w.setCell ⟨G, k, none⟩ (.slice (some ⟨R i, 0, none⟩) n c1)).setCell ⟨G, i, none⟩ (.slice (some ⟨R k, 0, none⟩) n c2)).drew G L n R' (swp M k i) l) ∧ Hid (Rs7 ((w.setCell ⟨G, k, none⟩ (.slice (some ⟨R i, 0, none⟩) n c1)).setCell ⟨G, i, none⟩ (.slice (some ⟨R k, 0, none⟩) n c2)).drew H) ∧ Hid (Below w0.heap.size w0 ((w.setCell ⟨G, k, none⟩ (.slice (some ⟨R i, 0, none⟩) n c1)).setCell ⟨G, i, none⟩ (.slice (some ⟨R k, 0, none⟩) n c2)).drew) :=
  ⟨hide ⟨_, (h.swap hk hi hki e1 e2 m1 m2).later (Below.refl _ _).drew⟩, hide ((hr.but but_two hH).later (Below.refl _ _).drew), hide ((but_two.below hb hG hb.size).drew)⟩
theorem sw7_b {lo H : Nat} {w0 w : World} {G L n : Nat} {R : Nat → Nat} {M : Nat → Nat → Int} {l : Int} {k i c1 c2 : Nat} (h : St7 lo w G L n R M l) (hr : Rs7 w H) (hb : Below w0.heap.size w0 w) (hk : k < n) (hi : i < n) (hki : k ≠ i)
    (e1 : w.cell? ⟨G, i, none⟩ = some (.slice (some ⟨R i, 0, none⟩) n c1)) (e2 : w.cell? ⟨G, k, none⟩ = some (.slice (some ⟨R k, 0, none⟩) n c2)) (m1 : n ≤ c1 ∧ c1 ≤ maxLen) (m2 : n ≤ c2 ∧ c2 ≤ maxLen) (hH : H ≠ G) (hG : w0.heap.size ≤ G) :
    Hid (∃ R', St7 lo ((w.setCell ⟨G, i, none⟩ (.slice (some ⟨R k, 0, none⟩) n c2)).setCell ⟨G, k, none⟩ (.slice (some ⟨R i, 0, none⟩) n c1)).drew G L n R' (swp M k i) l) ∧ Hid (Rs7 ((w.setCell ⟨G, i, none⟩ (.slice (some ⟨R k, 0, none⟩) n c2)).setCell ⟨G, k, none⟩ (.slice (some ⟨R i, 0, none⟩) n c1)).drew H) ∧ Hid (Below w0.heap.size w0 ((w.setCell ⟨G, i, none⟩ (.slice (some ⟨R k, 0, none⟩) n c2)).setCell ⟨G, k, none⟩ (.slice (some ⟨R i, 0, none⟩) n c1)).drew) := by
  have h2 := (h.swap hi hk (Ne.symm hki) e2 e1 m2 m1).later (Below.refl _ _).drew
  exact ⟨hide ⟨_, h2.m.congr (fun r c _ _ => by unfold swp; rw [sw_comm]), h2.llo, h2.lG, h2.lR, h2.lf, h2.b⟩, hide ((hr.but but_two hH).later (Below.refl _ _).drew), hide ((but_two.below hb hG hb.size).drew)⟩
set_option maxHeartbeats 16000000 in
theorem detI_v (a : Option Addr) (n c : Nat) (M : Nat → Nat → Int) (w : World) (h : MatV w a n M) (h1 : 1 ≤ n) (hn : n ≤ 8) (bd : ∀ i j, i < n → j < n → Bd (M i j) 3) :
    Calls Try.prog 41 #[.slice a n c] w (OutN w (barVal M n)) := by
  have HV := hide h
  have BD := hide bd
  have BA : Hid (∀ r c, r < n → c < n → (M r c).natAbs ≤ 65536 ^ 3) := hide (fun r c hr hc => abs_of_bd (bd r c hr hc))
  clear h bd
  go_enter Try.func41, Try.ntmps41
  go_upto_region 1 with fail
  have hb0 : Below w.heap.size w (w.alloc (.cells #[.bool false, .slice none 0 0] 27)) := (Below.refl _ _).alloc (Nat.le_refl _) _
  have RS0 : Rs7 (w.alloc (.cells #[.bool false, .slice none 0 0] 27)) w.heap.size := ⟨⟨⟨false, none, 0, 0⟩, by simp [go_sem], by simp [go_sem]⟩, fun o => by simp [go_sem]⟩
  have sz0 : (w.alloc (.cells #[.bool false, .slice none 0 0] 27)).heap.size = w.heap.size + 1 := by simp
  generalize w.alloc (.cells #[.bool false, .slice none 0 0] 27) = wz at *
  have HV0 := hide ((unhide HV).later hb0)
  have RS := hide RS0
  have HB := hide hb0
  clear HV hb0 RS0
  go_wp2_with fail
  refine (alikeI_v a n c M _ (unhide HV0) hn (unhide BD)).mono ?_
  rintro e w1 ⟨z, rfl, hb, hz⟩
  have HZ := hide hz
  have HV1 := hide ((unhide HV0).later hb)
  have RS1 := hide ((unhide RS).later hb)
  have HB1 := hide (below_on (unhide HB) hb)
  have sz1 := hb.size
  clear hb hz HV0 RS HB
  cases z
  case true =>
    have EV := hide (barVal_alike (unhide BA) ((unhide HZ) rfl))
    obtain ⟨bz, r0, r1⟩ := (unhide RS1).c
    have rf := (unhide RS1).f
    go_wp2
    refine bodyPost_ret (v := .agg #[.bool false, .slice none 0 0]) (by simp [results, Try.results41, go_sem, r0, r1]) rfl ?_
    rw [unhide EV]
    exact out_of_ow (b := ⟨false, none, 0, 0⟩) (Ow.nought7 _ _ _) (Nat.le_refl _) (Nat.le_refl _) ((metB_but (w5 := w1) (v := ⟨false, none, 0, 0⟩) (G := w.heap.size)).below (unhide HB1) (Nat.le_refl _) (unhide HB1).size)
  case false =>
    clear HZ
    go_wp2_with fail
    refine (copyM_v a n c M _ (unhide HV1) (by omega) (fun i j hi hj => ((unhide BD) i j hi hj).mono (by omega))).mono ?_
    rintro e w2 ⟨R0, rfl, hb, hm⟩
    have HM := hide hm
    have RS2 := hide ((unhide RS1).later hb)
    have HB2 := hide (below_on (unhide HB1) hb)
    have sz2 := hb.size
    clear hb hm RS1 HB1 HV1
    go_wp2_with fail
    refine (ofI_v 1 _ (by omega) (by omega)).mono ?_
    rintro e w3 ⟨x, lx, rfl, hb, ox, ax, nx⟩
    have OX := hide (outN_ow ox ax nx)
    have HM3 := hide ((unhide HM).later hb)
    have RS3 := hide ((unhide RS2).later hb)
    have HB3 := hide (below_on (unhide HB2) hb)
    have sz3 := hb.size
    have lt2 := (unhide HM).ghi
    have rl2 := hide (fun i hi => ((unhide HM).rlo i hi).2.1)
    clear hb ox ax nx HM RS2 HB2
    go_upto_region 5 with fail
    have hb4 : Below w3.heap.size w3 (w3.alloc (.cells #[.bool x.g, .slice x.a x.n x.c] 27)) := (Below.refl _ _).alloc (Nat.le_refl _) _
    have ST : Hid (St7 w1.heap.size (w3.alloc (.cells #[.bool x.g, .slice x.a x.n x.c] 27)) w1.heap.size w3.heap.size n R0 M 1) := hide ⟨(unhide HM3).later hb4, by omega, by omega, fun i hi => by have := (unhide rl2) i hi; omega, fun o => by simp [go_sem], x, by simp [go_sem], by simp [go_sem], ((unhide OX).later hb4).wide (by omega) hb4.size⟩
    have RS := hide ((unhide RS3).later hb4)
    have HB := hide (below_on (unhide HB3) hb4)
    have sz4 := hb4.size
    clear hb4 HM3 RS3 HB3 OX
    generalize w3.alloc (.cells #[.bool x.g, .slice x.a x.n x.c] 27) = w4 at *
    go_wp2
    go_loopw [5, 18] (fun tv kv wr => ∃ (k : Nat) (R : Nat → Nat) (Mk : Nat → Nat → Int) (l : Int) (g : Bool), k ≤ n ∧ tv = .bool g ∧ kv = .int .i64 k ∧ Hid (bst M n k = some (Mk, l, g)) ∧ Hid (St7 w1.heap.size wr w1.heap.size w3.heap.size n R Mk l) ∧ Hid (Rs7 wr w.heap.size) ∧ Hid (Below w.heap.size w wr)) (fun _ kv _ => n - (intOf kv).toNat)
    case atStart => exact ⟨0, R0, M, 1, false, Nat.zero_le _, rfl, rfl, hide rfl, ST, RS, HB⟩
    case round =>
      clear ST RS HB
      obtain ⟨k, R, Mk, l, g, hk, rfl, rfl, HS, ST, RS, HB⟩ := hrel
      by_cases hlt : k < n
      · have hlt' : (k : Int) < (n : Int) := by omega
        obtain ⟨A', hA⟩ := bst_inv (unhide BA) (unhide HS)
        have HA := hide hA
        clear hA
        have MV := hide (unhide ST).m.v
        cases hx : nxt Mk n k with
        | none =>
          have NX : nxI Mk n k = -1 := by unfold nxI; rw [hx]
          have EV : Hid (barVal M n = 0) := hide (barVal_none (k := k + 1) (by rw [bst_next (unhide HS), hx]) (by omega))
          have C1 := hide (fun w h => nextI_v (some ⟨w1.heap.size, 0, none⟩) n n k Mk w h (by omega) hlt)
          rw [NX] at C1
          clear NX hx
          go_wp2_with fail
          refine (unhide C1 _ (unhide MV)).mono ?_
          rintro e w5 ⟨rfl, hb⟩
          have HB5 := hide (below_on (unhide HB) hb)
          obtain ⟨bz, r0, r1⟩ := ((unhide RS).later hb).c
          have rf := ((unhide RS).later hb).f
          clear hb HB RS ST MV
          go_wp2
          refine bodyPost_ret (v := .agg #[.bool false, .slice none 0 0]) (by simp [results, Try.results41, go_sem, r0, r1]) rfl ?_
          rw [unhide EV]
          exact out_of_ow (b := ⟨false, none, 0, 0⟩) (Ow.nought7 _ _ _) (Nat.le_refl _) (Nat.le_refl _) ((metB_but (w5 := w5) (v := ⟨false, none, 0, 0⟩) (G := w.heap.size)).below (unhide HB5) (Nat.le_refl _) (unhide HB5).size)
        | some i =>
          obtain ⟨hki, hin, hpz⟩ := nxt_some hx
          have NX : nxI Mk n k = (i : Int) := by unfold nxI; rw [hx]
          have HN := hide hx
          have C1 := hide (fun w h => nextI_v (some ⟨w1.heap.size, 0, none⟩) n n k Mk w h (by omega) hlt)
          rw [NX] at C1
          clear NX hx hpz
          have i0 : ¬ (i : Int) < 0 := by omega
          go_wp2_with fail
          refine (unhide C1 _ (unhide MV)).mono ?_
          rintro e w5 ⟨rfl, hb⟩
          have ST5 := hide ((unhide ST).later hb)
          have RS5 := hide ((unhide RS).later hb)
          have HB5 := hide (below_on (unhide HB) hb)
          have sz5 := hb.size
          clear hb HB RS ST MV C1
          by_cases hik : i = k
          · have hik2 : k = i := hik.symm
            subst hik2
            have STq : Hid (St7 w1.heap.size w5 w1.heap.size w3.heap.size n R (swp Mk k k) l) := hide (by have h := unhide ST5; exact ⟨h.m.congr (fun r c _ _ => (swp_self Mk k r c).symm), h.llo, h.lG, h.lR, h.lf, h.b⟩)
            have RSq := RS5
            have HBq := HB5
            clear ST5 RS5 HB5
            have EG : Hid ((if k = k then g else !g) = g) := hide (by rw [if_pos rfl])
            go_upto_region 14 with fail
            obtain ⟨wq, hwq⟩ : ∃ x, x = w5 := ⟨_, rfl⟩
            subst hwq
            have k1 : (k : Int) + 1 ≤ (n : Int) := by omega
            clear hik
            by_cases hne : n = k + 1
            · have HE := hide hne
              go_wp2
              clear hne
              have STt : Hid (St7 w1.heap.size wq w1.heap.size w3.heap.size n R (stT (swp Mk k k) k l (n - (k + 1))) l) := hide (by
                have h := unhide STq
                have he := unhide HE
                exact ⟨h.m.congr (fun r c hr hc => by unfold stT; rw [if_neg (by omega)]), h.llo, h.lG, h.lR, h.lf, h.b⟩)
              have RSt := RSq
              have HBt := HBq
              clear STq RSq HBq
              obtain ⟨wt, hwt⟩ : ∃ x, x = wq := ⟨_, rfl⟩
              subst hwt
              refine wp_loop_rounds 1 ?_
              rw [rounds_succ]
              have lo1 := (unhide STt).llo
              obtain ⟨ck, p0, _, _⟩ := (unhide STt).m.out k hlt
              obtain ⟨bk, p1, p2, ok⟩ := (unhide STt).m.el k k hlt hlt
              obtain ⟨lb, q1, q2, _⟩ := (unhide STt).b
              have lf := (unhide STt).lf
              have OK : Hid (Ow w1.heap.size wt.heap.size wt bk (Mk k k)) := hide (by
                rw [show stT (swp Mk k k) k l (n - (k + 1)) k k = Mk k k by unfold stT; rw [if_neg (by omega)]; unfold swp sw; rw [if_pos rfl]] at ok
                exact ok)
              clear ok
              go_wp2
              go_roundw
              case rel =>
                have bt := metB_but (w5 := wt) (v := bk) (G := w3.heap.size)
                refine ⟨k + 1, R, stp (swp Mk k k) k l, Mk k k, _, by omega, rfl, by go_num, hide (by rw [bst_next (unhide HS), unhide HN]; simp only [unhide EG]), hide ?_, hide ((unhide RSt).but bt (by omega)), hide (bt.below (unhide HBt) (by omega) (unhide HBt).size)⟩
                have h2 := (unhide STt).last (unhide OK)
                exact ⟨h2.m.congr (fun r c hr hc => by
                  unfold stT
                  by_cases y : k < r ∧ k < c
                  · rw [if_pos ⟨y.1, by omega, y.2⟩]
                  · rw [if_neg (fun h => y ⟨h.1, h.2.2⟩)]; unfold stp; rw [if_neg y]), h2.llo, h2.lG, h2.lR, h2.lf, h2.b⟩
              case measure => simp [intOf]; omega
            · have kb : k + 1 ≤ n := by omega
              go_wp2
              go_loopw [51] (fun tv wr => ∃ t : Nat, t ≤ n - (k + 1) ∧ tv = .int .i64 t ∧ Hid (St7 w1.heap.size wr w1.heap.size w3.heap.size n R (stT (swp Mk k k) k l t) l) ∧ Hid (Rs7 wr w.heap.size) ∧ Hid (Below w.heap.size w wr)) (fun tv _ => n - (k + 1) - (intOf tv).toNat)
              case atStart => exact ⟨0, Nat.zero_le _, rfl, hide (by have h := unhide STq; exact ⟨h.m.congr (fun r c hr hc => by unfold stT; rw [if_neg (by omega)]), h.llo, h.lG, h.lR, h.lf, h.b⟩), RSq, HBq⟩
              case round =>
                clear STq RSq HBq
                obtain ⟨t, ht, rfl, ST, RS, HB⟩ := hrel
                by_cases htt : t < n - (k + 1)
                · have htt' : (t : Int) < ((n - (k + 1) : Nat) : Int) := by omega
                  obtain ⟨c1, E0, _, _⟩ := (unhide ST).m.out (k + 1 + t) (by omega)
                  obtain ⟨c2, q0, _, _⟩ := (unhide ST).m.out k hlt
                  obtain ⟨lb, q1, q2, ol⟩ := (unhide ST).b
                  have OL := hide ol
                  have rr := (unhide ST).m.rlo (k + 1 + t) (by omega)
                  have lR := (unhide ST).lR (k + 1 + t) (by omega)
                  have lo1 := (unhide ST).llo
                  have lG := (unhide ST).lG
                  clear ol
                  have HSW : Hid (∀ r j, k ≤ r → r < n → k ≤ j → j < n → Bd (swp Mk k k r j) 25) := hide (fun r j a b c d => bd_of_abs (k := k + 1) (by omega) ((unhide HA).abs (sw_ge (Nat.le_refl _) hki a) (sw_lt hlt hin b) c d))
                  have BN : Hid (∀ r j, k < r → r < n → k < j → j < n → Bd (stp (swp Mk k k) k l r j) 25) := hide (fun r j a b c d => bd_of_abs (k := k + 2) (by omega) (((unhide HA).next (unhide HN)).abs a b c d))
                  have CT := hide (fun (wx : World) (hs : St7 w1.heap.size wx w1.heap.size w3.heap.size n R (stT (swp Mk k k) k l t) l) (ho : Ow w1.heap.size wr.heap.size wx lb l) => stepI_v w1.heap.size wr.heap.size w1.heap.size n k (k + 1 + t) c1 c2 R (stT (swp Mk k k) k l t) lb l (stp (swp Mk k k) k l (k + 1 + t)) wx hs.m (by omega) (by omega) (by omega) ho (unhide HA).lnz (fun r j a b c d => by
                    unfold stT
                    by_cases y : k < r ∧ r < k + 1 + t ∧ k < j
                    · rw [if_pos y]; exact ((unhide BN) r j y.1 b y.2.2 d).mono (by omega)
                    · rw [if_neg y]; exact ((unhide HSW) r j a b c d).mono (by omega)) ((bd_of_abs (k := k) (by omega) ((unhide HA).labs (by omega))).mono (by omega)) (fun j a b => by
                    have e := (unhide HA).exact (unhide HN) (r := k + 1 + t) (j := j) (by omega) (by omega) a b
                    have z1 : stT (swp Mk k k) k l t k k = swp Mk k k k k := by unfold stT; rw [if_neg (by omega)]
                    have z2 : stT (swp Mk k k) k l t (k + 1 + t) j = swp Mk k k (k + 1 + t) j := by unfold stT; rw [if_neg (by omega)]
                    have z3 : stT (swp Mk k k) k l t (k + 1 + t) k = swp Mk k k (k + 1 + t) k := by unfold stT; rw [if_neg (by omega)]
                    have z4 : stT (swp Mk k k) k l t k j = swp Mk k k k j := by unfold stT; rw [if_neg (by omega)]
                    rw [z1, z2, z3, z4]
                    exact e))
                  go_upto_region 17 with fail
                  go_region_held3 (fun w' => w'.cell? ⟨w1.heap.size, k, none⟩ = some (.slice (some ⟨R k, 0, none⟩) n c2) ∧ w'.cell? ⟨w3.heap.size, 0, none⟩ = some (.bool lb.g) ∧ w'.cell? ⟨w3.heap.size, 1, none⟩ = some (.slice lb.a lb.n lb.c)) (with_reducible (first | exact ⟨q0, q1, q2⟩ | exact ⟨cd_other q0, cd_other q1, cd_other q2⟩ | fail))
                    (first | (go_at_call 75; refine (unhide CT _ ?_ ?_).mono ?_; exact (unhide ST).later (Below.refl _ _).drew; exact (unhide OL).later (Below.refl _ _).drew; rintro e w6 ⟨rfl, bt, hm⟩; have ST6 := hide (((unhide ST).later (Below.refl _ _).drew).row (by omega) bt hm); have RS6 := hide (((unhide RS).later (Below.refl _ _).drew).but bt (by omega)); have HB6 := hide (bt.below ((unhide HB).drew) (by omega) (show w.heap.size ≤ wr.heap.size from (unhide HB).size)); replace q0 := bt.cell (cd_other q0) (by omega); replace q1 := bt.cell (cd_other q1) (by omega); replace q2 := bt.cell (cd_other q2) (by omega); clear bt hm))
                  clear q0 q1 q2 E0
                  go_wp2
                  go_roundw
                  case rel =>
                    refine ⟨t + 1, by omega, by go_num, hide ?_, RS6, HB6⟩
                    have h := unhide ST6
                    exact ⟨h.m.congr (fun r c hr hc => by
                      unfold rowTo stT
                      by_cases y1 : r = k + 1 + t
                      · subst y1
                        by_cases y2 : k < c
                        · rw [if_pos ⟨rfl, y2, hc⟩, if_pos ⟨by omega, by omega, y2⟩]
                        · rw [if_neg (fun h => y2 h.2.1), if_neg (fun h => y2 h.2.2), if_neg (fun h => y2 h.2.2)]
                      · rw [if_neg (fun h => y1 h.1)]
                        by_cases y2 : k < r ∧ r < k + 1 + t ∧ k < c
                        · rw [if_pos y2, if_pos ⟨y2.1, by omega, y2.2.2⟩]
                        · rw [if_neg y2, if_neg (fun h => y2 ⟨h.1, by omega, h.2.2⟩)]), h.llo, h.lG, h.lR, h.lf, h.b⟩
                  case measure => simp [intOf]; omega
                · obtain rfl : t = n - (k + 1) := by omega
                  have STt := ST
                  have RSt := RS
                  have HBt := HB
                  clear ST RS HB
                  obtain ⟨wt, hwt⟩ : ∃ x, x = wr := ⟨_, rfl⟩
                  subst hwt
                  have lo1 := (unhide STt).llo
                  obtain ⟨ck, p0, _, _⟩ := (unhide STt).m.out k hlt
                  obtain ⟨bk, p1, p2, ok⟩ := (unhide STt).m.el k k hlt hlt
                  obtain ⟨lb, q1, q2, _⟩ := (unhide STt).b
                  have lf := (unhide STt).lf
                  have OK : Hid (Ow w1.heap.size wt.heap.size wt bk (Mk k k)) := hide (by
                    rw [show stT (swp Mk k k) k l (n - (k + 1)) k k = Mk k k by unfold stT; rw [if_neg (by omega)]; unfold swp sw; rw [if_pos rfl]] at ok
                    exact ok)
                  clear ok
                  go_wp2
                  go_roundw
                  case rel =>
                    have bt := metB_but (w5 := wt) (v := bk) (G := w3.heap.size)
                    refine ⟨k + 1, R, stp (swp Mk k k) k l, Mk k k, _, by omega, rfl, by go_num, hide (by rw [bst_next (unhide HS), unhide HN]; simp only [unhide EG]), hide ?_, hide ((unhide RSt).but bt (by omega)), hide (bt.below (unhide HBt) (by omega) (unhide HBt).size)⟩
                    have h2 := (unhide STt).last (unhide OK)
                    exact ⟨h2.m.congr (fun r c hr hc => by
                      unfold stT
                      by_cases y : k < r ∧ k < c
                      · rw [if_pos ⟨y.1, by omega, y.2⟩]
                      · rw [if_neg (fun h => y ⟨h.1, h.2.2⟩)]; unfold stp; rw [if_neg y]), h2.llo, h2.lG, h2.lR, h2.lf, h2.b⟩
                  case measure => simp [intOf]; omega
          · have hki2 : k ≠ i := fun e => hik e.symm
            have hin' : (i : Int) < (n : Int) := by omega
            have e0 : ¬ (i : Int) = (k : Int) := by omega
            have STd := ST5
            have RSd := RS5
            have HBd := HB5
            obtain ⟨c1, E1, m1⟩ := (unhide STd).m.out i hin
            obtain ⟨c2, E2, m2⟩ := (unhide STd).m.out k hlt
            have gf := (unhide STd).m.gfz
            have glt := (unhide STd).m.ghi
            have llo := (unhide STd).llo
            have M1 := hide m1
            have M2 := hide m2
            have hH : w.heap.size ≠ w1.heap.size := by omega
            clear ST5 RS5 HB5 m1 m2
            go_upto_region 12 with fail
            go_cut [30] (fun _ wx => Hid (∃ R', St7 w1.heap.size wx w1.heap.size w3.heap.size n R' (swp Mk k i) l) ∧ Hid (Rs7 wx w.heap.size) ∧ Hid (Below w.heap.size w wx))
            case first =>
              go_region
              all_goals go_wp2
              all_goals go_meet
              all_goals first
                | exact sw7_a (unhide STd) (unhide RSd) (unhide HBd) hlt hin hki2 E1 E2 (unhide M1) (unhide M2) hH (by omega)
                | exact sw7_b (unhide STd) (unhide RSd) (unhide HBd) hlt hin hki2 E1 E2 (unhide M1) (unhide M2) hH (by omega)
            case rest =>
              obtain ⟨HSq, RSq, HBq⟩ := hcut
              obtain ⟨R', hsq⟩ := unhide HSq
              have STq := hide hsq
              clear HSq hsq STd RSd HBd E1 E2 gf
              have EG : Hid ((if i = k then g else !g) = !g) := hide (by rw [if_neg hik])
              go_upto_region 14 with fail
              obtain ⟨wq, hwq⟩ : ∃ x, x = wc := ⟨_, rfl⟩
              subst hwq
              have k1 : (k : Int) + 1 ≤ (n : Int) := by omega
              by_cases hne : n = k + 1
              · have HE := hide hne
                go_wp2
                clear hne
                have STt : Hid (St7 w1.heap.size wq w1.heap.size w3.heap.size n R' (stT (swp Mk k i) k l (n - (k + 1))) l) := hide (by
                  have h := unhide STq
                  have he := unhide HE
                  exact ⟨h.m.congr (fun r c hr hc => by unfold stT; rw [if_neg (by omega)]), h.llo, h.lG, h.lR, h.lf, h.b⟩)
                have RSt := RSq
                have HBt := HBq
                clear STq RSq HBq
                obtain ⟨wt, hwt⟩ : ∃ x, x = wq := ⟨_, rfl⟩
                subst hwt
                refine wp_loop_rounds 1 ?_
                rw [rounds_succ]
                have lo1 := (unhide STt).llo
                obtain ⟨ck, p0, _, _⟩ := (unhide STt).m.out k hlt
                obtain ⟨bk, p1, p2, ok⟩ := (unhide STt).m.el k k hlt hlt
                obtain ⟨lb, q1, q2, _⟩ := (unhide STt).b
                have lf := (unhide STt).lf
                have OK : Hid (Ow w1.heap.size wt.heap.size wt bk (Mk i k)) := hide (by
                  rw [show stT (swp Mk k i) k l (n - (k + 1)) k k = Mk i k by unfold stT; rw [if_neg (by omega)]; unfold swp sw; rw [if_pos rfl]] at ok
                  exact ok)
                clear ok
                go_wp2
                go_roundw
                case rel =>
                  have bt := metB_but (w5 := wt) (v := bk) (G := w3.heap.size)
                  refine ⟨k + 1, R', stp (swp Mk k i) k l, Mk i k, _, by omega, rfl, by go_num, hide (by rw [bst_next (unhide HS), unhide HN]; simp only [unhide EG]), hide ?_, hide ((unhide RSt).but bt (by omega)), hide (bt.below (unhide HBt) (by omega) (unhide HBt).size)⟩
                  have h2 := (unhide STt).last (unhide OK)
                  exact ⟨h2.m.congr (fun r c hr hc => by
                    unfold stT
                    by_cases y : k < r ∧ k < c
                    · rw [if_pos ⟨y.1, by omega, y.2⟩]
                    · rw [if_neg (fun h => y ⟨h.1, h.2.2⟩)]; unfold stp; rw [if_neg y]), h2.llo, h2.lG, h2.lR, h2.lf, h2.b⟩
                case measure => simp [intOf]; omega
              · have kb : k + 1 ≤ n := by omega
                go_wp2
                go_loopw [51] (fun tv wr => ∃ t : Nat, t ≤ n - (k + 1) ∧ tv = .int .i64 t ∧ Hid (St7 w1.heap.size wr w1.heap.size w3.heap.size n R' (stT (swp Mk k i) k l t) l) ∧ Hid (Rs7 wr w.heap.size) ∧ Hid (Below w.heap.size w wr)) (fun tv _ => n - (k + 1) - (intOf tv).toNat)
                case atStart => exact ⟨0, Nat.zero_le _, rfl, hide (by have h := unhide STq; exact ⟨h.m.congr (fun r c hr hc => by unfold stT; rw [if_neg (by omega)]), h.llo, h.lG, h.lR, h.lf, h.b⟩), RSq, HBq⟩
                case round =>
                  clear STq RSq HBq
                  obtain ⟨t, ht, rfl, ST, RS, HB⟩ := hrel
                  by_cases htt : t < n - (k + 1)
                  · have htt' : (t : Int) < ((n - (k + 1) : Nat) : Int) := by omega
                    obtain ⟨c1, E0, _, _⟩ := (unhide ST).m.out (k + 1 + t) (by omega)
                    obtain ⟨c2, q0, _, _⟩ := (unhide ST).m.out k hlt
                    obtain ⟨lb, q1, q2, ol⟩ := (unhide ST).b
                    have OL := hide ol
                    have rr := (unhide ST).m.rlo (k + 1 + t) (by omega)
                    have lR := (unhide ST).lR (k + 1 + t) (by omega)
                    have lo1 := (unhide ST).llo
                    have lG := (unhide ST).lG
                    clear ol
                    have HSW : Hid (∀ r j, k ≤ r → r < n → k ≤ j → j < n → Bd (swp Mk k i r j) 25) := hide (fun r j a b c d => bd_of_abs (k := k + 1) (by omega) ((unhide HA).abs (sw_ge (Nat.le_refl _) hki a) (sw_lt hlt hin b) c d))
                    have BN : Hid (∀ r j, k < r → r < n → k < j → j < n → Bd (stp (swp Mk k i) k l r j) 25) := hide (fun r j a b c d => bd_of_abs (k := k + 2) (by omega) (((unhide HA).next (unhide HN)).abs a b c d))
                    have CT := hide (fun (wx : World) (hs : St7 w1.heap.size wx w1.heap.size w3.heap.size n R' (stT (swp Mk k i) k l t) l) (ho : Ow w1.heap.size wr.heap.size wx lb l) => stepI_v w1.heap.size wr.heap.size w1.heap.size n k (k + 1 + t) c1 c2 R' (stT (swp Mk k i) k l t) lb l (stp (swp Mk k i) k l (k + 1 + t)) wx hs.m (by omega) (by omega) (by omega) ho (unhide HA).lnz (fun r j a b c d => by
                      unfold stT
                      by_cases y : k < r ∧ r < k + 1 + t ∧ k < j
                      · rw [if_pos y]; exact ((unhide BN) r j y.1 b y.2.2 d).mono (by omega)
                      · rw [if_neg y]; exact ((unhide HSW) r j a b c d).mono (by omega)) ((bd_of_abs (k := k) (by omega) ((unhide HA).labs (by omega))).mono (by omega)) (fun j a b => by
                      have e := (unhide HA).exact (unhide HN) (r := k + 1 + t) (j := j) (by omega) (by omega) a b
                      have z1 : stT (swp Mk k i) k l t k k = swp Mk k i k k := by unfold stT; rw [if_neg (by omega)]
                      have z2 : stT (swp Mk k i) k l t (k + 1 + t) j = swp Mk k i (k + 1 + t) j := by unfold stT; rw [if_neg (by omega)]
                      have z3 : stT (swp Mk k i) k l t (k + 1 + t) k = swp Mk k i (k + 1 + t) k := by unfold stT; rw [if_neg (by omega)]
                      have z4 : stT (swp Mk k i) k l t k j = swp Mk k i k j := by unfold stT; rw [if_neg (by omega)]
                      rw [z1, z2, z3, z4]
                      exact e))
                    go_upto_region 17 with fail
                    go_region_held3 (fun w' => w'.cell? ⟨w1.heap.size, k, none⟩ = some (.slice (some ⟨R' k, 0, none⟩) n c2) ∧ w'.cell? ⟨w3.heap.size, 0, none⟩ = some (.bool lb.g) ∧ w'.cell? ⟨w3.heap.size, 1, none⟩ = some (.slice lb.a lb.n lb.c)) (with_reducible (first | exact ⟨q0, q1, q2⟩ | exact ⟨cd_other q0, cd_other q1, cd_other q2⟩ | fail))
                      (first | (go_at_call 75; refine (unhide CT _ ?_ ?_).mono ?_; exact (unhide ST).later (Below.refl _ _).drew; exact (unhide OL).later (Below.refl _ _).drew; rintro e w6 ⟨rfl, bt, hm⟩; have ST6 := hide (((unhide ST).later (Below.refl _ _).drew).row (by omega) bt hm); have RS6 := hide (((unhide RS).later (Below.refl _ _).drew).but bt (by omega)); have HB6 := hide (bt.below ((unhide HB).drew) (by omega) (show w.heap.size ≤ wr.heap.size from (unhide HB).size)); replace q0 := bt.cell (cd_other q0) (by omega); replace q1 := bt.cell (cd_other q1) (by omega); replace q2 := bt.cell (cd_other q2) (by omega); clear bt hm))
                    clear q0 q1 q2 E0
                    go_wp2
                    go_roundw
                    case rel =>
                      refine ⟨t + 1, by omega, by go_num, hide ?_, RS6, HB6⟩
                      have h := unhide ST6
                      exact ⟨h.m.congr (fun r c hr hc => by
                        unfold rowTo stT
                        by_cases y1 : r = k + 1 + t
                        · subst y1
                          by_cases y2 : k < c
                          · rw [if_pos ⟨rfl, y2, hc⟩, if_pos ⟨by omega, by omega, y2⟩]
                          · rw [if_neg (fun h => y2 h.2.1), if_neg (fun h => y2 h.2.2), if_neg (fun h => y2 h.2.2)]
                        · rw [if_neg (fun h => y1 h.1)]
                          by_cases y2 : k < r ∧ r < k + 1 + t ∧ k < c
                          · rw [if_pos y2, if_pos ⟨y2.1, by omega, y2.2.2⟩]
                          · rw [if_neg y2, if_neg (fun h => y2 ⟨h.1, by omega, h.2.2⟩)]), h.llo, h.lG, h.lR, h.lf, h.b⟩
                    case measure => simp [intOf]; omega
                  · obtain rfl : t = n - (k + 1) := by omega
                    have STt := ST
                    have RSt := RS
                    have HBt := HB
                    clear ST RS HB
                    obtain ⟨wt, hwt⟩ : ∃ x, x = wr := ⟨_, rfl⟩
                    subst hwt
                    have lo1 := (unhide STt).llo
                    obtain ⟨ck, p0, _, _⟩ := (unhide STt).m.out k hlt
                    obtain ⟨bk, p1, p2, ok⟩ := (unhide STt).m.el k k hlt hlt
                    obtain ⟨lb, q1, q2, _⟩ := (unhide STt).b
                    have lf := (unhide STt).lf
                    have OK : Hid (Ow w1.heap.size wt.heap.size wt bk (Mk i k)) := hide (by
                      rw [show stT (swp Mk k i) k l (n - (k + 1)) k k = Mk i k by unfold stT; rw [if_neg (by omega)]; unfold swp sw; rw [if_pos rfl]] at ok
                      exact ok)
                    clear ok
                    go_wp2
                    go_roundw
                    case rel =>
                      have bt := metB_but (w5 := wt) (v := bk) (G := w3.heap.size)
                      refine ⟨k + 1, R', stp (swp Mk k i) k l, Mk i k, _, by omega, rfl, by go_num, hide (by rw [bst_next (unhide HS), unhide HN]; simp only [unhide EG]), hide ?_, hide ((unhide RSt).but bt (by omega)), hide (bt.below (unhide HBt) (by omega) (unhide HBt).size)⟩
                      have h2 := (unhide STt).last (unhide OK)
                      exact ⟨h2.m.congr (fun r c hr hc => by
                        unfold stT
                        by_cases y : k < r ∧ k < c
                        · rw [if_pos ⟨y.1, by omega, y.2⟩]
                        · rw [if_neg (fun h => y ⟨h.1, h.2.2⟩)]; unfold stp; rw [if_neg y]), h2.llo, h2.lG, h2.lR, h2.lf, h2.b⟩
                    case measure => simp [intOf]; omega
      · obtain rfl : k = n := by omega
        have EV := hide (barVal_end (unhide HS))
        obtain ⟨lb, q1, q2, ol⟩ := (unhide ST).b
        have OL := hide ol
        have llo := (unhide ST).llo
        obtain ⟨bz, r0, r1⟩ := (unhide RS).c
        have rf := (unhide RS).f
        clear ol
        cases g
        case false =>
          go_wp2
          refine bodyPost_ret (v := .agg #[.bool lb.g, .slice lb.a lb.n lb.c]) (by simp [results, Try.results41, go_sem, r0, r1]) rfl ?_
          rw [unhide EV]
          have bt := metB_but (w5 := wr) (v := lb) (G := w.heap.size)
          exact out_of_ow (((unhide OL).blk bt r0 (notI_b _)).wide (Nat.le_refl _) bt.size) (by omega) (Nat.le_refl _) (bt.below (unhide HB) (Nat.le_refl _) (unhide HB).size)
        case true =>
          go_wp2_with fail
          refine (turnI_v lb l _ _ _ (unhide OL)).mono ?_
          rintro e w5 ⟨x5, rfl, hb, o5⟩
          have O5 := hide o5
          have HB5 := hide (below_on (unhide HB) hb)
          obtain ⟨bz, r0, r1⟩ := ((unhide RS).later hb).c
          have rf := ((unhide RS).later hb).f
          have sz5 := hb.size
          clear hb o5 HB RS ST q1 q2 OL
          go_wp2
          refine bodyPost_ret (v := .agg #[.bool x5.g, .slice x5.a x5.n x5.c]) (by simp [results, Try.results41, go_sem, r0, r1]) rfl ?_
          rw [unhide EV]
          have bt := metB_but (w5 := w5) (v := x5) (G := w.heap.size)
          exact out_of_ow (((unhide O5).blk bt r0 (notI_b _)).wide (Nat.le_refl _) (Nat.le_trans sz5 bt.size)) (by omega) (Nat.le_refl _) (bt.below (unhide HB5) (Nat.le_refl _) (unhide HB5).size)
end Go.Proofs.Ytaaajmdneaaeeaa
