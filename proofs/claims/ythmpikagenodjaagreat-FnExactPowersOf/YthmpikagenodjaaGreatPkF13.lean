/- The specification's l2Make: a fraction in lowest terms. No condition beyond those typed. Written by mklow2.py. -/
import Derived.Test.YthmpikagenodjaaGreatBI
import Derived.Test.YthmpikagenodjaaGreatVarQ
import Derived.Test.YthmpikagenodjaaGreatFlat
import Derived.Test.YthmpikagenodjaaGreatDivJ
import Derived.Test.YthmpikagenodjaaGreatDivI
namespace Go.Proofs.YthmpikagenodjaaGreat
open Go.RowKit
set_option linter.unusedVariables false
set_option maxRecDepth 100000
set_option linter.unusedSimpArgs false

theorem Own2.take {lo hi : Nat} {w : World} {a : Option Addr} {zs : List Int} (h : Own2 lo hi w a zs) (k : Nat) : Own2 lo hi w a (zs.take k) := by
  rcases h with rfl | ⟨b, cur, rfl, h1, h2, hg, hc⟩
  · exact .inl (by simp)
  · refine .inr ⟨b, cur, rfl, h1, h2, hg, fun i hi => ?_⟩
    rw [List.length_take] at hi
    rw [hc i (by omega)]
    simp only [List.getD_eq_getElem?_getD, List.getElem?_take]
    rw [if_pos (by omega)]
theorem trim_any2 (a : Option Addr) (n c : Nat) (xs : List Int) (w : World) (hx : Arg w a n c xs) :
    Calls Tryz.prog 164 #[.slice a n c] w fun e w' => ∃ a' n' c', e = .returned (.slice a' n' c') ∧ w' = w ∧ (∀ wx, Arg wx a n c xs → Arg wx a' n' c' (trim xs)) ∧ (∀ lo hi wx, Own2 lo hi wx a xs → Own2 lo hi wx a' (trim xs)) := by
  obtain ⟨hs, hn, hnc, hcm, had⟩ := hx
  by_cases h0 : n = 0
  · subst h0
    obtain rfl : xs = [] := List.length_eq_zero_iff.1 hn
    refine (trim_nil_any a c w).mono ?_
    rintro e w' ⟨rfl, rfl⟩
    exact ⟨none, 0, 0, rfl, rfl, fun _ _ => Arg.none _, fun _ _ _ _ => .inl rfl⟩
  · rcases hs with rfl | ⟨b, off, rfl, hb, hc⟩
    · simp at hn; omega
    · refine (trim_cons b off n c xs w hn (by omega) (by omega) hnc hcm hb (by rw [← hn]; exact hc)).mono ?_
      rintro e w' ⟨⟨k, h1, h2, rfl⟩, rfl⟩
      have hl := trim_len xs
      by_cases hk : k = 0
      · have e : trim xs = [] := List.length_eq_zero_iff.1 (by omega)
        rw [if_pos hk, e]
        exact ⟨none, 0, 0, rfl, rfl, fun _ _ => Arg.none _, fun _ _ _ _ => .inl rfl⟩
      · rw [if_neg hk]
        refine ⟨_, _, _, rfl, rfl, fun wx hwx => ⟨?_, h2.symm, Nat.le_refl _, by omega, .inr ⟨_, _, rfl⟩⟩, fun lo hi wx ho => ?_⟩
        · rw [h1]; exact hwx.sl.take k
        · rw [h1]; exact ho.take k

set_option maxHeartbeats 1000000 in
theorem sign_any2 (g : Bool) (a : Option Addr) (n c : Nat) (xs : List Int) (w : World) (hx : Arg w a n c xs) :
    Calls Tryz.prog 125 #[.bool g, .slice a n c] w fun e w' => ∃ a' n' c', e = .returned (.agg #[.bool (sgn g (trim xs)), .slice a' n' c']) ∧ Below w.heap.size w w' ∧ Arg w' a' n' c' (trim xs) ∧ (∀ lo hi, Own2 lo hi w a xs → Own2 lo hi w' a' (trim xs)) := by
  have HX := hide hx
  clear hx
  go_enter Tryz.func125, Tryz.ntmps125
  go_wp2_with fail
  have HB := hide (show ∀ o, Below w.heap.size w (w.alloc o) from fun o => (Below.refl _ _).alloc (Nat.le_refl _) _)
  refine (trim_any2 a n c xs _ ((unhide HX).later (unhide HB _))).mono ?_
  rintro e w1 ⟨a', k, c', rfl, rfl, harg, hown⟩
  have hk := hide (harg _ ((unhide HX).later (unhide HB (.cells #[] 0)))).len
  have fin : Hid (∀ o, Below w.heap.size w (w.alloc o) ∧ Arg (w.alloc o) a' k c' (trim xs) ∧ ∀ lo hi, Own2 lo hi w a xs → Own2 lo hi (w.alloc o) a' (trim xs)) :=
    hide (fun o => ⟨unhide HB o, harg _ ((unhide HX).later (unhide HB o)), fun lo hi ho => hown lo hi _ (ho.later (unhide HB o))⟩)
  clear harg hown
  cases g
  · go_wp2
    refine bodyPost_ret (v := .agg #[.bool false, .slice a' k c']) (by simp [results, Tryz.results125, go_sem]) rfl ⟨a', k, c', rfl, ?_⟩
    exact unhide fin _
  · by_cases h0 : k = 0
    · subst h0
      go_wp2
      refine bodyPost_ret (v := .agg #[.bool false, .slice a' 0 c']) (by simp [results, Tryz.results125, go_sem]) rfl ⟨a', 0, c', ?_, ?_⟩
      · rw [List.length_eq_zero_iff.1 (unhide hk), sgn_nil]
      · exact unhide fin _
    · have hp : 0 < k := by omega
      go_wp2
      refine bodyPost_ret (v := .agg #[.bool true, .slice a' k c']) (by simp [results, Tryz.results125, go_sem, hp]) rfl ⟨a', k, c', ?_, ?_⟩
      · rw [sgn_cons (by rw [unhide hk]; exact hp)]
      · exact unhide fin _

/-- The number with a sign: g and U. -/
def sU (g : Bool) (U : Int) : Int := if g then -U else U
theorem sU_abs {g : Bool} {U : Int} (h : 0 ≤ U) : ((sU g U).natAbs : Int) = U := natAbs_sign h rfl
theorem signI_v (g : Bool) (a : Option Addr) (n c : Nat) (zs : List Int) (w : World) (lo hi : Nat) (U : Int) (ha : Arg w a n c zs) (ho : Own2 lo hi w a zs) (hk : Nm zs U) :
    Calls Tryz.prog 125 #[.bool g, .slice a n c] w fun e w' => ∃ b : BV, e = .returned (.agg #[.bool b.g, .slice b.a b.n b.c]) ∧ Below w.heap.size w w' ∧ AllOwn lo hi w' [(b, ⟨decide (sU g U < 0), zs⟩)] ∧ AllAr w' [(b, ⟨decide (sU g U < 0), zs⟩)] := by
  refine (sign_any2 g a n c zs w ha).mono ?_
  rintro e w' ⟨a2, n2, c2, rfl, hb2, ha2, ho2⟩
  have hg : sgn g (trim zs) = decide (sU g U < 0) := by rw [sgn_val (U := U) (by rw [hk.tr]; exact hk)]; rfl
  rw [hk.tr] at ha2
  have ho3 := ho2 lo hi ho
  rw [hk.tr] at ho3
  exact ⟨⟨sgn g (trim zs), a2, n2, c2⟩, rfl, hb2, AllOwn.one ⟨hg, ho3, ha2.len⟩, AllAr.cons ⟨hg, ha2⟩ (AllAr.nil _)⟩
theorem makeS_v (g : Bool) (a : Option Addr) (n c : Nat) (zs : List Int) (w : World) (U : Int) (ha : Arg w a n c zs) (hk : Nm zs U) (h1 : n ≤ 1048576) :
    Calls Tryz.prog 114 #[.bool g, .slice a n c] w fun e w' => ∃ b : BV, e = .returned (.agg #[.bool b.g, .slice b.a b.n b.c]) ∧ Below w.heap.size w w' ∧ AllOwn w.heap.size w'.heap.size w' [(b, ⟨decide (sU g U < 0), zs⟩)] ∧ AllAr w' [(b, ⟨decide (sU g U < 0), zs⟩)] := by
  refine (make_any g a n c zs w ha h1).mono ?_
  rintro e w' ⟨a2, n2, c2, rfl, hb2, ho2, ha2⟩
  have hg : sgn g (trim zs) = decide (sU g U < 0) := by rw [sgn_val (U := U) (by rw [hk.tr]; exact hk)]; rfl
  rw [hk.tr] at ha2 ho2
  exact ⟨⟨sgn g (trim zs), a2, n2, c2⟩, rfl, hb2, AllOwn.one ⟨hg, ho2.two, ha2.len⟩, AllAr.cons ⟨hg, ha2⟩ (AllAr.nil _)⟩

/-- Fractions by value. -/
def IsQ (w : World) (q : QV) (N D : Int) : Prop := IsB w q.num N ∧ IsB w q.den D
theorem IsQ.later {w w' : World} {q : QV} {N D : Int} (h : IsQ w q N D) (hb : Below w.heap.size w w') : IsQ w' q N D := ⟨h.1.later hb, h.2.later hb⟩
theorem IsQ.drew {w : World} {q : QV} {N D : Int} (h : IsQ w q N D) : IsQ w.drew q N D := h.later (Below.refl _ _).drew
def QD.of (N D : Int) (xs us : List Int) : QD := ⟨⟨decide (N < 0), xs⟩, ⟨decide (D < 0), us⟩⟩
/-- A call answers the fraction N / D in memory of its own. -/
def OutQ (w : World) (N D : Int) (e : Ending) (w' : World) : Prop :=
  ∃ (q : QV) (xs us : List Int), e = .returned (.agg #[.bool q.num.g, .slice q.num.a q.num.n q.num.c, .bool q.den.g, .slice q.den.a q.den.n q.den.c]) ∧ Below w.heap.size w w' ∧
    AllOwn w.heap.size w'.heap.size w' [(q.num, ⟨decide (N < 0), xs⟩), (q.den, ⟨decide (D < 0), us⟩)] ∧ AllAr w' [(q.num, ⟨decide (N < 0), xs⟩), (q.den, ⟨decide (D < 0), us⟩)] ∧ Nm xs N.natAbs ∧ Nm us D.natAbs
/-- b is the number V, its limbs at blocks from lo to below hi. -/
def Ow (lo hi : Nat) (w : World) (b : BV) (V : Int) : Prop := ∃ xs, AllOwn lo hi w [(b, ⟨decide (V < 0), xs⟩)] ∧ AllAr w [(b, ⟨decide (V < 0), xs⟩)] ∧ Nm xs V.natAbs
theorem Ow.later {lo hi : Nat} {w w' : World} {b : BV} {V : Int} (h : Ow lo hi w b V) (hb : Below w.heap.size w w') : Ow lo hi w' b V := by
  obtain ⟨xs, h1, h2, h3⟩ := h
  exact ⟨xs, h1.later hb, h2.later hb, h3⟩
theorem Ow.is {lo hi : Nat} {w : World} {b : BV} {V : Int} (h : Ow lo hi w b V) : IsB w b V := by
  obtain ⟨xs, h1, h2, h3⟩ := h
  exact ⟨xs, h2.head, h3⟩
theorem Ow.wide {lo hi lo' hi' : Nat} {w : World} {b : BV} {V : Int} (h : Ow lo hi w b V) (h1 : lo' ≤ lo) (h2 : hi ≤ hi') : Ow lo' hi' w b V := by
  obtain ⟨xs, k1, k2, k3⟩ := h
  exact ⟨xs, k1.wide h1 h2, k2, k3⟩
theorem Ow.but {lo hi lo' hi' : Nat} {w w' : World} {b : BV} {V : Int} (h : Ow lo hi w b V) (bt : But lo' hi' w w') (hd : hi ≤ lo' ∨ hi' ≤ lo) : Ow lo hi w' b V := by
  obtain ⟨xs, k1, k2, k3⟩ := h
  have o := k1.but bt hd
  exact ⟨xs, o, fun p hp => ⟨(k2 p hp).sg, ⟨(o.sl p hp).sl, (k2 p hp).ar.len, (k2 p hp).ar.cap, (k2 p hp).ar.top, (k2 p hp).ar.addr⟩⟩, k3⟩
theorem Ow.two {lo mid hi : Nat} {w : World} {b b' : BV} {V V' : Int} (h : Ow lo mid w b V) (k : Ow mid hi w b' V') (h1 : lo ≤ mid) (h2 : mid ≤ hi) :
    ∃ xs us, AllOwn lo hi w [(b, ⟨decide (V < 0), xs⟩), (b', ⟨decide (V' < 0), us⟩)] ∧ AllAr w [(b, ⟨decide (V < 0), xs⟩), (b', ⟨decide (V' < 0), us⟩)] ∧ Nm xs V.natAbs ∧ Nm us V'.natAbs := by
  obtain ⟨xs, k1, k2, k3⟩ := h
  obtain ⟨us, m1, m2, m3⟩ := k
  exact ⟨xs, us, k1.join m1 h1 h2, k2.append m2, k3, m3⟩
/-- A call answers what reads as the fraction N / D, in memory of its own (Num and Den may share it). -/
def OutQv (w : World) (N D : Int) (e : Ending) (w' : World) : Prop :=
  ∃ q : QV, e = .returned (.agg #[.bool q.num.g, .slice q.num.a q.num.n q.num.c, .bool q.den.g, .slice q.den.a q.den.n q.den.c]) ∧ Below w.heap.size w w' ∧ Ow w.heap.size w'.heap.size w' q.num N ∧ Ow w.heap.size w'.heap.size w' q.den D
theorem isQ_of {w : World} {q : QV} {N D : Int} {xs us : List Int} (h : AllAr w [(q.num, ⟨decide (N < 0), xs⟩), (q.den, ⟨decide (D < 0), us⟩)]) (h1 : Nm xs N.natAbs) (h2 : Nm us D.natAbs) : IsQ w q N D :=
  ⟨⟨xs, h.head, h1⟩, ⟨us, h.tail.head, h2⟩⟩
theorem outN_ow {w' : World} {b : BV} {V : Int} {xs : List Int} {lo hi : Nat} (ho : AllOwn lo hi w' [(b, ⟨decide (V < 0), xs⟩)]) (ha : AllAr w' [(b, ⟨decide (V < 0), xs⟩)]) (hn : Nm xs V.natAbs) : Ow lo hi w' b V := ⟨xs, ho, ha, hn⟩
/-- What a call's own box is written with at the end turns nothing else. -/
theorem own_fin {lo hi R : Nat} {wN W : World} {l : List (BV × BD)} (bt : But R (R + 1) wN W) (ho : AllOwn lo hi wN l) (hR : R + 1 ≤ lo) : AllOwn lo hi W l := ho.but bt (.inr hR)
theorem ar_fin {lo hi R : Nat} {wN W : World} {l : List (BV × BD)} (bt : But R (R + 1) wN W) (ho : AllOwn lo hi wN l) (ha : AllAr wN l) (hR : R + 1 ≤ lo) : AllAr W l := fun p hp =>
  ⟨(ha p hp).sg, ⟨((own_fin bt ho hR).sl p hp).sl, (ha p hp).ar.len, (ha p hp).ar.cap, (ha p hp).ar.top, (ha p hp).ar.addr⟩⟩
theorem outQ_fin {w wN W : World} {R : Nat} {q : QV} {xs us : List Int} {N D : Int} (hR : w.heap.size ≤ R) (hb : Below w.heap.size w wN) (bt : But R (R + 1) wN W)
    (ho : AllOwn (R + 1) wN.heap.size wN [(q.num, ⟨decide (N < 0), xs⟩), (q.den, ⟨decide (D < 0), us⟩)]) (ha : AllAr wN [(q.num, ⟨decide (N < 0), xs⟩), (q.den, ⟨decide (D < 0), us⟩)]) (h1 : Nm xs N.natAbs) (h2 : Nm us D.natAbs) :
    OutQ w N D (.returned (.agg #[.bool q.num.g, .slice q.num.a q.num.n q.num.c, .bool q.den.g, .slice q.den.a q.den.n q.den.c])) W :=
  ⟨q, xs, us, rfl, bt.below hb hR hb.size, (own_fin bt ho (Nat.le_refl _)).wide (by omega) bt.size, ar_fin bt ho ha (Nat.le_refl _), h1, h2⟩

/-- In lowest terms. -/
def lowU (N D : Int) : Int := (N.natAbs : Int) / (Nat.gcd N.natAbs D.natAbs : Int)
def lowN (N D : Int) : Int := sU (!(decide (N < 0) == decide (D < 0))) (lowU N D)
def lowD (N D : Int) : Int := (D.natAbs : Int) / (Nat.gcd N.natAbs D.natAbs : Int)
theorem lowU_nonneg (N D : Int) : 0 ≤ lowU N D := Int.ediv_nonneg (by omega) (by omega)
theorem lowD_nonneg (N D : Int) : 0 ≤ lowD N D := Int.ediv_nonneg (by omega) (by omega)
theorem lowN_abs (N D : Int) : ((lowN N D).natAbs : Int) = lowU N D := sU_abs (lowU_nonneg N D)
theorem lowD_abs (N D : Int) : ((lowD N D).natAbs : Int) = lowD N D := by have := lowD_nonneg N D; omega
theorem lowU_le (N D : Int) : lowU N D ≤ N.natAbs := Int.ediv_le_self _ (by omega)
theorem lowD_le (N D : Int) : lowD N D ≤ D.natAbs := Int.ediv_le_self _ (by omega)
theorem lowN_bd {N D : Int} {L : Nat} (h : Bd N L) : Bd (lowN N D) L := h.le (by have := lowN_abs N D; have := lowU_le N D; omega)
theorem lowD_bd {N D : Int} {L : Nat} (h : Bd D L) : Bd (lowD N D) L := h.le (by have := lowD_abs N D; have := lowD_le N D; omega)
theorem gcd_pos_right {N D : Int} (h : D ≠ 0) : 0 < Nat.gcd N.natAbs D.natAbs := Nat.gcd_pos_of_pos_right _ (by omega)
theorem lowD_pos {N D : Int} (h : D ≠ 0) : 0 < lowD N D := by
  have hg := gcd_pos_right (N := N) h
  have hd : Nat.gcd N.natAbs D.natAbs ≤ D.natAbs := Nat.le_of_dvd (by omega) (Nat.gcd_dvd_right _ _)
  have : 1 ≤ (D.natAbs : Int) / (Nat.gcd N.natAbs D.natAbs : Int) := Int.le_ediv_of_mul_le (by omega) (by omega)
  unfold lowD; omega
end Go.Proofs.YthmpikagenodjaaGreat
namespace Go.Proofs.YthmpikagenodjaaGreat
open Go.RowKit
set_option linter.unusedVariables false
set_option maxRecDepth 100000
set_option linter.unusedSimpArgs false

/-- A variable of the law's own: its box at block G, what it leads to at blocks from lo to below hi. -/
structure VarB (wx : World) (G lo hi : Nat) (v : BV) (d : BD) : Prop where
  c0 : wx.cell? ⟨G, 0, none⟩ = some (.bool v.g)
  c1 : wx.cell? ⟨G, 1, none⟩ = some (.slice v.a v.n v.c)
  own : AllOwn lo hi wx [(v, d)]
theorem VarB.later {wx wy : World} {G lo hi : Nat} {v : BV} {d : BD} (h : VarB wx G lo hi v d) (hb : Below wx.heap.size wx wy) : VarB wy G lo hi v d :=
  ⟨cell_later hb h.c0, cell_later hb h.c1, h.own.later hb⟩
theorem VarB.but {wx wy : World} {G lo hi lo' hi' : Nat} {v : BV} {d : BD} (h : VarB wx G lo hi v d) (hb : But lo' hi' wx wy) (hG : G < lo' ∨ hi' ≤ G) (hd : hi ≤ lo' ∨ hi' ≤ lo) : VarB wy G lo hi v d :=
  ⟨hb.cell h.c0 hG, hb.cell h.c1 hG, h.own.but hb hd⟩
theorem VarB.mark {wx wy : World} {G lo hi : Nat} {v : BV} {d d' : BD} (h : VarB wx G lo hi v d) (hb : But lo hi wx wy) (hG : G < lo ∨ hi ≤ G) (ho : AllOwn lo hi wy [(v, d')]) : VarB wy G lo hi v d' :=
  ⟨hb.cell h.c0 hG, hb.cell h.c1 hG, ho⟩
theorem VarB.low {wx : World} {G lo hi lo' : Nat} {v : BV} {d : BD} (h : VarB wx G lo hi v d) (hl : lo' ≤ lo) : VarB wx G lo' hi v d := ⟨h.c0, h.c1, h.own.wide hl (Nat.le_refl _)⟩
theorem VarB.start {wx : World} {lo : Nat} {v : BV} {d : BD} (t : TypeId) (h : AllOwn lo wx.heap.size wx [(v, d)]) : VarB (wx.alloc (.cells #[.bool v.g, .slice v.a v.n v.c] t)) wx.heap.size lo wx.heap.size v d :=
  ⟨by simp [go_sem], by simp [go_sem], h.later ((Below.refl _ _).alloc (Nat.le_refl _) _)⟩
theorem VarB.gt {wx : World} {G lo hi : Nat} {v : BV} {d : BD} (h : VarB wx G lo hi v d) : G < wx.heap.size := World.block_lt_of_cell? _ _ h.c0
theorem metB_but {w5 : World} {v : BV} {G : Nat} : But G (G + 1) w5 ((w5.setCell ⟨G, 0, none⟩ (.bool v.g)).setCell ⟨G, 1, none⟩ (.slice v.a v.n v.c)) := (((But.refl _ _ _).set (p := ⟨G, 0, none⟩) (Nat.le_refl _) (Nat.lt_succ_self _) _).set (p := ⟨G, 1, none⟩) (Nat.le_refl _) (Nat.lt_succ_self _) _)
end Go.Proofs.YthmpikagenodjaaGreat
namespace Go.Proofs.YthmpikagenodjaaGreat
open Go.RowKit
set_option linter.unusedVariables false
set_option maxRecDepth 100000
set_option linter.unusedSimpArgs false

theorem cd_other {w : World} {b o : Nat} {x : Value} (h : w.cell? ⟨b, o, none⟩ = some x) : w.drew.cell? ⟨b, o, none⟩ = some x := cell_later (Below.refl _ _).drew h
theorem gcd_len {gs : List Int} {N D : Int} {n : Nat} (h : Nm gs ((Nat.gcd N.natAbs D.natAbs : Nat) : Int)) (hl : gs.length = n) (hD : D ≠ 0) (k : Bd D 400000) : 1 ≤ n ∧ n ≤ 400000 := by
  have hg := gcd_pos_right (N := N) hD
  have hd : Nat.gcd N.natAbs D.natAbs ≤ D.natAbs := Nat.le_of_dvd (by omega) (Nat.gcd_dvd_right _ _)
  subst hl
  constructor
  · have := h.nil_iff
    by_cases e : gs = []
    · have := this.1 e; omega
    · have : gs.length ≠ 0 := fun e0 => e (List.length_eq_zero_iff.1 e0)
      omega
  · exact Nm.len_le (V := ((Nat.gcd N.natAbs D.natAbs : Nat) : Int)) (by simpa using h) (k.le (by simp; omega))

set_option maxHeartbeats 4000000 in
theorem lowI (b b' : BV) (N D : Int) (w : World) (h : IsB w b N) (h' : IsB w b' D) (hD : D ≠ 0) (k : Bd N 400000) (k' : Bd D 400000) :
    Calls Tryz.prog 64 #[.agg #[.bool b.g, .slice b.a b.n b.c], .agg #[.bool b'.g, .slice b'.a b'.n b'.c]] w (OutQ w (lowN N D) (lowD N D)) := by
  obtain ⟨xs, hx, _, hl, nx, sx⟩ := h.num k (by omega)
  obtain ⟨ys, hy, _, hl', ny, sy⟩ := h'.num k' (by omega)
  have hm : 1 ≤ b'.n := by have := h'.zero_iff; omega
  have HX := hide hx.arg
  have HY := hide hy.arg
  have SX := hide (And.intro sx sy)
  have EN : Hid ((val xs).toNat = N.natAbs ∧ (val ys).toNat = D.natAbs) := hide ⟨by rw [nx.v]; simp, by rw [ny.v]; simp⟩
  have KD := hide k'
  have NX := hide nx
  have NY := hide ny
  have HD := hide hD
  clear h h' hx hy nx ny sx sy k k' hD
  have B0 := hide (show Below w.heap.size w (((w.alloc (.cells #[.bool b.g, .slice b.a b.n b.c] 27)).alloc (.cells #[.bool b'.g, .slice b'.a b'.n b'.c] 27)).alloc (.cells #[.bool false, .slice none 0 0, .bool false, .slice none 0 0] 29)) from ((((Below.refl _ _).alloc (by simp) _).alloc (by simp) _).alloc (by simp <;> omega) _))
  go_enter Tryz.func64, Tryz.ntmps64
  go_wp2_with fail
  refine (gcdI_any b.a b'.a b.n b'.n b.c b'.c xs ys _ ((unhide HX).later (unhide B0)) ((unhide HY).later (unhide B0)) (unhide NX).ok (unhide NX).tr (unhide NY).ok (unhide NY).tr (by omega) (by omega)).mono ?_
  rintro e w1 ⟨a1, n1, c1, gs, rfl, hb, ho1, ha1, hn1⟩
  rw [(unhide EN).1, (unhide EN).2] at hn1
  obtain ⟨g1, g2⟩ := gcd_len hn1 ha1.len (unhide HD) (unhide KD)
  have N1 := hide hn1
  have s1 : w.heap.size + 3 ≤ w1.heap.size := by have := hb.size; simp at this; omega
  have k0_0 : w1.cell? ⟨w.heap.size, 0, none⟩ = some (.bool b.g) := cell_later hb (by simp [go_sem])
  have k1_0 : w1.cell? ⟨w.heap.size + 1, 0, none⟩ = some (.bool b'.g) := cell_later hb (by simp [go_sem])
  have k0_1 : w1.cell? ⟨w.heap.size, 1, none⟩ = some (.slice b.a b.n b.c) := cell_later hb (by simp [go_sem])
  have k1_1 : w1.cell? ⟨w.heap.size + 1, 1, none⟩ = some (.slice b'.a b'.n b'.c) := cell_later hb (by simp [go_sem])
  have k2_0 : w1.cell? ⟨w.heap.size + 1 + 1, 0, none⟩ = some (.bool false) := cell_later hb (by simp [go_sem])
  have k2_1 : w1.cell? ⟨w.heap.size + 1 + 1, 1, none⟩ = some (.slice none 0 0) := cell_later hb (by simp [go_sem])
  have k2_2 : w1.cell? ⟨w.heap.size + 1 + 1, 2, none⟩ = some (.bool false) := cell_later hb (by simp [go_sem])
  have k2_3 : w1.cell? ⟨w.heap.size + 1 + 1, 3, none⟩ = some (.slice none 0 0) := cell_later hb (by simp [go_sem])
  have z2 : ∀ o, w1.frozen? ⟨w.heap.size + 1 + 1, o, none⟩ = false := fun o => frozen_later hb (by simp) (by simp [go_sem])
  have A1 := hide (ha1)
  have HB := hide (below_on (unhide B0) hb)
  clear hb
  clear ho1 ha1 hn1
  go_wp2_with fail
  refine (divI_any b.a a1 b.n n1 b.c c1 xs gs _ ((unhide HX).later (unhide HB)) (unhide A1) (unhide NX).ok (unhide NX).tr (unhide N1).ok (unhide N1).tr (by omega) (by omega) (by omega)).mono ?_
  rintro e w2 ⟨a2, n2, c2, zs, a2', n2', c2', rs, rfl, hb, ho2, ha2, hn2, _, _, _, _⟩
  have s2 := hb.size
  rw [(unhide NX).v, (unhide N1).v] at hn2
  have N2 : Hid (Nm zs (lowU N D)) := hide hn2
  replace z2 := fun o => frozen_later hb (World.block_lt_of_cell? _ _ k2_0) (z2 o)
  replace k0_0 := cell_later hb k0_0
  replace k1_0 := cell_later hb k1_0
  replace k1_1 := cell_later hb k1_1
  replace k2_0 := cell_later hb k2_0
  replace k2_1 := cell_later hb k2_1
  replace k2_2 := cell_later hb k2_2
  replace k2_3 := cell_later hb k2_3
  clear k0_1
  replace A1 := hide ((unhide A1).later hb)
  have A2 := hide (ha2)
  have O2 := hide (ho2.two)
  replace HB := hide (below_on (unhide HB) hb)
  clear hb
  clear ho2 ha2 hn2
  go_wp2_with fail
  refine (divI_any b'.a a1 b'.n n1 b'.c c1 ys gs _ ((unhide HY).later (unhide HB)) (unhide A1) (unhide NY).ok (unhide NY).tr (unhide N1).ok (unhide N1).tr (by omega) (by omega) (by omega)).mono ?_
  rintro e w3 ⟨a3, n3, c3, zs3, a3', n3', c3', rs3, rfl, hb, ho3, ha3, hn3, _, _, _, _⟩
  have s3 := hb.size
  rw [(unhide NY).v, (unhide N1).v] at hn3
  have N3 : Hid (Nm zs3 (lowD N D)) := hide hn3
  replace z2 := fun o => frozen_later hb (World.block_lt_of_cell? _ _ k2_0) (z2 o)
  replace k0_0 := cell_later hb k0_0
  replace k1_0 := cell_later hb k1_0
  replace k2_0 := cell_later hb k2_0
  replace k2_1 := cell_later hb k2_1
  replace k2_2 := cell_later hb k2_2
  replace k2_3 := cell_later hb k2_3
  clear k1_1
  replace A1 := hide ((unhide A1).later hb)
  replace A2 := hide ((unhide A2).later hb)
  replace O2 := hide ((unhide O2).later hb)
  have A3 := hide (ha3)
  have O3 := hide (ho3.two)
  replace HB := hide (below_on (unhide HB) hb)
  clear hb
  clear ho3 ha3 hn3
  clear A1
  go_wp2_with fail
  refine (signI_v _ a2 n2 c2 zs _ w1.heap.size w2.heap.size (lowU N D) (unhide A2) (unhide O2) (unhide N2)).mono ?_
  rintro e w4 ⟨x1, rfl, hb, ow1, ar1⟩
  have s4 := hb.size
  rw [(unhide SX).1, (unhide SX).2] at ow1 ar1
  replace ow1 : AllOwn w1.heap.size w2.heap.size w4 [(x1, ⟨decide (lowN N D < 0), zs⟩)] := ow1
  replace ar1 : AllAr w4 [(x1, ⟨decide (lowN N D < 0), zs⟩)] := ar1
  replace z2 := fun o => frozen_later hb (World.block_lt_of_cell? _ _ k2_0) (z2 o)
  replace k2_0 := cell_later hb k2_0
  replace k2_1 := cell_later hb k2_1
  replace k2_2 := cell_later hb k2_2
  replace k2_3 := cell_later hb k2_3
  clear k0_0 k1_0
  replace A2 := hide ((unhide A2).later hb)
  replace O2 := hide ((unhide O2).later hb)
  replace A3 := hide ((unhide A3).later hb)
  replace O3 := hide ((unhide O3).later hb)
  have OW1 := hide (ow1)
  have AR1 := hide (ar1)
  replace HB := hide (below_on (unhide HB) hb)
  clear hb
  clear ow1 ar1
  clear A2 O2
  go_wp2_with fail
  refine (signI_v false a3 n3 c3 zs3 _ w2.heap.size w3.heap.size (lowD N D) (unhide A3) (unhide O3) (unhide N3)).mono ?_
  rintro e w5 ⟨x2, rfl, hb, ow2, ar2⟩
  have s5 := hb.size
  replace ow2 : AllOwn w2.heap.size w3.heap.size w5 [(x2, ⟨decide (lowD N D < 0), zs3⟩)] := ow2
  replace ar2 : AllAr w5 [(x2, ⟨decide (lowD N D < 0), zs3⟩)] := ar2
  replace z2 := fun o => frozen_later hb (World.block_lt_of_cell? _ _ k2_0) (z2 o)
  replace k2_0 := cell_later hb k2_0
  replace k2_1 := cell_later hb k2_1
  replace k2_2 := cell_later hb k2_2
  replace k2_3 := cell_later hb k2_3
  replace A3 := hide ((unhide A3).later hb)
  replace O3 := hide ((unhide O3).later hb)
  replace OW1 := hide ((unhide OW1).later hb)
  replace AR1 := hide ((unhide AR1).later hb)
  have OW2 := hide (ow2)
  have AR2 := hide (ar2)
  replace HB := hide (below_on (unhide HB) hb)
  clear hb
  clear ow2 ar2
  clear A3 O3
  have OO := hide (((unhide OW1).join (unhide OW2) s2 s3).wide (lo' := w.heap.size + 1 + 1 + 1) (hi' := w5.heap.size) (by omega) (by omega))
  have AA := hide ((unhide AR1).append (unhide AR2))
  have NN : Hid (Nm zs (lowN N D).natAbs ∧ Nm zs3 (lowD N D).natAbs) := hide ⟨by rw [lowN_abs]; exact unhide N2, by rw [lowD_abs]; exact unhide N3⟩
  clear OW1 OW2 AR1 AR2 N2 N3 N1 NX NY EN KD
  go_wp2
  refine bodyPost_ret (v := .agg #[.bool x1.g, .slice x1.a x1.n x1.c, .bool x2.g, .slice x2.a x2.n x2.c]) (by simp [results, Tryz.results64, go_sem, k2_0, k2_1, k2_2, k2_3]) rfl ?_
  exact outQ_fin (q := ⟨x1, x2⟩) (R := w.heap.size + 1 + 1) (by omega) (unhide HB) (metQ_but (w5 := w5) (v := ⟨x1, x2⟩) (G := w.heap.size + 1 + 1)) (unhide OO) (unhide AA) (unhide NN).1 (unhide NN).2

theorem outN_fin {w wN W : World} {R : Nat} {b : BV} {xs : List Int} {V : Int} (hR : w.heap.size ≤ R) (hb : Below w.heap.size w wN) (bt : But R (R + 1) wN W)
    (ho : AllOwn (R + 1) wN.heap.size wN [(b, ⟨decide (V < 0), xs⟩)]) (ha : AllAr wN [(b, ⟨decide (V < 0), xs⟩)]) (h1 : Nm xs V.natAbs) : OutN w V (.returned (.agg #[.bool b.g, .slice b.a b.n b.c])) W :=
  ⟨b, xs, rfl, bt.below hb hR hb.size, (own_fin bt ho (Nat.le_refl _)).wide (by omega) bt.size, ar_fin bt ho ha (Nat.le_refl _), h1⟩
set_option maxHeartbeats 1000000 in
theorem negS_v (b : BV) (V : Int) (w : World) (h : IsB w b V) (k : Bd V 400000) :
    Calls Tryz.prog 159 #[.agg #[.bool b.g, .slice b.a b.n b.c]] w (OutN w (-V)) := by
  obtain ⟨xs, hx, _, hl, nx, sx⟩ := h.num k (by omega)
  have HX := hide hx.arg
  have NX := hide nx
  have SX := hide sx
  clear h hx nx sx
  have B0 := hide (show Below w.heap.size w ((w.alloc (.cells #[.bool b.g, .slice b.a b.n b.c] 27)).alloc (.cells #[.bool false, .slice none 0 0] 27)) from (((Below.refl _ _).alloc (by simp) _).alloc (by simp) _))
  go_enter Tryz.func159, Tryz.ntmps159
  go_wp2_with fail
  refine (makeS_v _ b.a b.n b.c xs _ (V.natAbs : Int) ((unhide HX).later (unhide B0)) (unhide NX) (by omega)).mono ?_
  rintro e w1 ⟨x1, rfl, hb, ow1, ar1⟩
  have s1 : w.heap.size + 1 + 1 ≤ w1.heap.size := by have := hb.size; simp at this; omega
  have e0 : sU (!b.g) (V.natAbs : Int) = -V := by
    rw [unhide SX]; unfold sU
    by_cases h0 : V < 0
    · rw [decide_eq_true h0, if_neg (by simp)]; omega
    · rw [decide_eq_false h0, if_pos (by simp)]; omega
  rw [e0] at ow1 ar1
  have OW := hide (ow1.wide (lo' := w.heap.size + 1 + 1) (by simp) (Nat.le_refl _))
  have AR := hide ar1
  have k1_0 : w1.cell? ⟨w.heap.size + 1, 0, none⟩ = some (.bool false) := cell_later hb (by simp [go_sem])
  have k1_1 : w1.cell? ⟨w.heap.size + 1, 1, none⟩ = some (.slice none 0 0) := cell_later hb (by simp [go_sem])
  have z1 : ∀ o, w1.frozen? ⟨w.heap.size + 1, o, none⟩ = false := fun o => frozen_later hb (by simp) (by simp [go_sem])
  have HB := hide (below_on (unhide B0) hb)
  clear hb
  clear ow1 ar1 e0
  have NN : Hid (Nm xs (-V).natAbs) := hide (by rw [Int.natAbs_neg]; exact unhide NX)
  go_wp2
  refine bodyPost_ret (v := .agg #[.bool x1.g, .slice x1.a x1.n x1.c]) (by simp [results, Tryz.results159, go_sem, k1_0, k1_1]) rfl ?_
  exact outN_fin (b := x1) (R := w.heap.size + 1) (by omega) (unhide HB) (metB_but (w5 := w1) (v := x1) (G := w.heap.size + 1)) (unhide OW) (unhide AR) (unhide NN)

theorem quot_len {zs rs : List Int} {X Y : Int} {N : Int} {n m : Nat} (h : Nm zs (X / Y)) (h' : Nm rs (X % Y)) (k : X = N.natAbs) (hn : zs.length = n) (hm : rs.length = m) (hY : 0 < Y) (kb : Bd N 400000) : n ≤ 400000 ∧ m ≤ 400000 := by
  subst k
  have h1 : (N.natAbs : Int) / Y ≤ N.natAbs := Int.ediv_le_self _ (by omega)
  have h2 : 0 ≤ (N.natAbs : Int) / Y := Int.ediv_nonneg (by omega) (by omega)
  have h3 : (N.natAbs : Int) % Y ≤ N.natAbs := by have e1 := Int.emod_add_mul_ediv (N.natAbs : Int) Y; have e2 := Int.mul_nonneg (show 0 ≤ Y by omega) h2; omega
  have h4 : 0 ≤ (N.natAbs : Int) % Y := Int.emod_nonneg _ (by omega)
  subst hn hm
  exact ⟨Nm.len_le (V := (N.natAbs : Int) / Y) (by rw [Int.natAbs_of_nonneg h2]; exact h) (kb.le (by omega)), Nm.len_le (V := (N.natAbs : Int) % Y) (by rw [Int.natAbs_of_nonneg h4]; exact h') (kb.le (by omega))⟩
/-- The quotient and the rest, with signs. -/
def OutDv (w : World) (N D : Int) (e : Ending) (w' : World) : Prop :=
  ∃ x y : BV, e = .returned (.tuple #[.agg #[.bool x.g, .slice x.a x.n x.c], .agg #[.bool y.g, .slice y.a y.n y.c]]) ∧ Below w.heap.size w w' ∧ Ow w.heap.size w'.heap.size w' x (sU (!(decide (N < 0) == decide (D < 0))) ((N.natAbs : Int) / (D.natAbs : Int))) ∧ Ow w.heap.size w'.heap.size w' y (sU (decide (N < 0)) ((N.natAbs : Int) % (D.natAbs : Int)))
set_option maxHeartbeats 4000000 in
theorem divS_v (b b' : BV) (N D : Int) (w : World) (h : IsB w b N) (h' : IsB w b' D) (hD : D ≠ 0) (k : Bd N 400000) (k' : Bd D 400000) :
    Calls Tryz.prog 158 #[.agg #[.bool b.g, .slice b.a b.n b.c], .agg #[.bool b'.g, .slice b'.a b'.n b'.c]] w (OutDv w N D) := by
  obtain ⟨xs, hx, _, hl, nx, sx⟩ := h.num k (by omega)
  obtain ⟨ys, hy, _, hl', ny, sy⟩ := h'.num k' (by omega)
  have hm : 1 ≤ b'.n := by have := h'.zero_iff; omega
  have HX := hide hx.arg
  have HY := hide hy.arg
  have SX := hide (And.intro sx sy)
  have EN : Hid ((val xs).toNat = N.natAbs ∧ (val ys).toNat = D.natAbs) := hide ⟨by rw [nx.v]; simp, by rw [ny.v]; simp⟩
  have KD := hide k'
  have KN := hide k
  have NX := hide nx
  have NY := hide ny
  have HD := hide hD
  clear h h' hx hy nx ny sx sy k k' hD
  have B0 := hide (show Below w.heap.size w ((((w.alloc (.cells #[.bool b.g, .slice b.a b.n b.c] 27)).alloc (.cells #[.bool b'.g, .slice b'.a b'.n b'.c] 27)).alloc (.cells #[.bool false, .slice none 0 0] 27)).alloc (.cells #[.bool false, .slice none 0 0] 27)) from (((((Below.refl _ _).alloc (by simp) _).alloc (by simp) _).alloc (by simp <;> omega) _).alloc (by simp <;> omega) _))
  go_enter Tryz.func158, Tryz.ntmps158
  go_wp2_with fail
  refine (divS_any b.a b'.a b.n b'.n b.c b'.c xs ys _ ((unhide HX).later (unhide B0)) ((unhide HY).later (unhide B0)) (unhide NX).ok (unhide NX).tr (unhide NY).ok (unhide NY).tr (by omega) (by omega) (by omega)).mono ?_
  rintro e w2 ⟨a2, n2, c2, zs, a3, n3, c3, rs, rfl, hb, ho2, ha2, hn2, ho3, ha3, hn3, _⟩
  have s2 : w.heap.size + 1 + 1 + 1 + 1 ≤ w2.heap.size := by have := hb.size; simp at this; omega
  have hq : n2 ≤ 400000 ∧ n3 ≤ 400000 := quot_len hn2 hn3 (unhide NX).v ha2.len ha3.len (by rw [(unhide NY).v]; have := unhide HD; omega) (unhide KN)
  obtain ⟨q2, q3⟩ := hq
  rw [(unhide NX).v, (unhide NY).v] at hn2 hn3
  have N2 : Hid (Nm zs ((N.natAbs : Int) / (D.natAbs : Int))) := hide hn2
  have N3 : Hid (Nm rs ((N.natAbs : Int) % (D.natAbs : Int))) := hide hn3
  have k0_0 : w2.cell? ⟨w.heap.size, 0, none⟩ = some (.bool b.g) := cell_later hb (by simp [go_sem])
  have k1_0 : w2.cell? ⟨w.heap.size + 1, 0, none⟩ = some (.bool b'.g) := cell_later hb (by simp [go_sem])
  have k2_0 : w2.cell? ⟨w.heap.size + 1 + 1, 0, none⟩ = some (.bool false) := cell_later hb (by simp [go_sem])
  have k2_1 : w2.cell? ⟨w.heap.size + 1 + 1, 1, none⟩ = some (.slice none 0 0) := cell_later hb (by simp [go_sem])
  have k3_0 : w2.cell? ⟨w.heap.size + 1 + 1 + 1, 0, none⟩ = some (.bool false) := cell_later hb (by simp [go_sem])
  have k3_1 : w2.cell? ⟨w.heap.size + 1 + 1 + 1, 1, none⟩ = some (.slice none 0 0) := cell_later hb (by simp [go_sem])
  have z2 : ∀ o, w2.frozen? ⟨w.heap.size + 1 + 1, o, none⟩ = false := fun o => frozen_later hb (by simp) (by simp [go_sem])
  have z3 : ∀ o, w2.frozen? ⟨w.heap.size + 1 + 1 + 1, o, none⟩ = false := fun o => frozen_later hb (by simp) (by simp [go_sem])
  have A2 := hide (ha2)
  have A3 := hide (ha3)
  have HB := hide (below_on (unhide B0) hb)
  clear hb
  clear ho2 ha2 hn2 ho3 ha3 hn3
  have ne : (w.heap.size ≠ w.heap.size + 1 + 1) ∧ (w.heap.size + 1 ≠ w.heap.size + 1 + 1) ∧ (w.heap.size ≠ w.heap.size + 1 + 1 + 1) ∧ (w.heap.size + 1 ≠ w.heap.size + 1 + 1 + 1) := by omega
  go_upto_region 2 with fail
  go_region_held3 (fun w' => w'.cell? ⟨w.heap.size, 0, none⟩ = some (.bool b.g) ∧ w'.cell? ⟨w.heap.size + 1, 0, none⟩ = some (.bool b'.g)) (with_reducible (first | exact ⟨k0_0, k1_0⟩ | exact ⟨cd_other k0_0, cd_other k1_0⟩ | exact ⟨j0, j1⟩ | exact ⟨i0, i1⟩ | exact ⟨cs_other (cs_other i0 ne.1) ne.1, cs_other (cs_other i1 ne.2.1) ne.2.1⟩ | exact ⟨cs_other (cs_other (cs_other (cs_other i0 ne.1) ne.1) ne.2.2.1) ne.2.2.1, cs_other (cs_other (cs_other (cs_other i1 ne.2.1) ne.2.1) ne.2.2.2) ne.2.2.2⟩ | fail))
    (first
    | (go_at_call_of 114 (Value.bool (!(b.g == b'.g))); refine (makeS_v _ a2 n2 c2 zs _ ((N.natAbs : Int) / (D.natAbs : Int)) (?_) (unhide N2) (?_)).mono ?_; exact (unhide A2).drew; omega; rintro e w3 ⟨x1, rfl, hb', ow1, ar1⟩; have hb := below_of_drew hb'; have s3 := hb.size; have OW1 := hide (show AllOwn w2.heap.size w3.heap.size w3 _ from ow1); have AR1 := hide ar1; have A3b := hide ((unhide A3).later hb); have B3 := hide hb; have j0 := cell_later hb k0_0; have j1 := cell_later hb k1_0; have j2 := cell_later hb k2_0; have j3 := cell_later hb k2_1; have j4 := cell_later hb k3_0; have j5 := cell_later hb k3_1; have y2 := fun o => frozen_later hb (World.block_lt_of_cell? _ _ k2_0) (z2 o); have y3 := fun o => frozen_later hb (World.block_lt_of_cell? _ _ k3_0) (z3 o); clear ow1 ar1 hb hb')
    | (go_at_call_of 114 (Value.bool b.g); refine (makeS_v _ a3 n3 c3 rs _ ((N.natAbs : Int) % (D.natAbs : Int)) (?_) (unhide N3) (?_)).mono ?_; exact unhide A3b; omega; rintro e w4 ⟨x2, rfl, hb, ow2, ar2⟩; have s4 := hb.size; have OW2 := hide ow2; have AR2 := hide ar2; have OW1b := hide ((unhide OW1).later hb); have AR1b := hide ((unhide AR1).later hb); have B4 := hide hb; have i0 := cell_later hb j0; have i1 := cell_later hb j1; have i2 := cell_later hb j2; have i3 := cell_later hb j3; have i4 := cell_later hb j4; have i5 := cell_later hb j5; have u2 := fun o => frozen_later hb (World.block_lt_of_cell? _ _ j2) (y2 o); have u3 := fun o => frozen_later hb (World.block_lt_of_cell? _ _ j4) (y3 o); clear ow2 ar2 hb))
  all_goals
    have HB2 := hide (below_on (below_on (unhide HB) (unhide B3)) (unhide B4))
    go_wp2
    refine bodyPost_ret (v := .tuple #[.agg #[.bool x1.g, .slice x1.a x1.n x1.c], .agg #[.bool x2.g, .slice x2.a x2.n x2.c]]) (by simp [results, Tryz.results158, go_sem, i2, i3, i4, i5]) rfl ?_
    have bt1 := metB_but (w5 := w4) (v := x1) (G := w.heap.size + 1 + 1)
    have bt2 := metB_but (w5 := (w4.setCell ⟨w.heap.size + 1 + 1, 0, none⟩ (.bool x1.g)).setCell ⟨w.heap.size + 1 + 1, 1, none⟩ (.slice x1.a x1.n x1.c)) (v := x2) (G := w.heap.size + 1 + 1 + 1)
    refine ⟨x1, x2, rfl, bt2.below (bt1.below (unhide HB2) (by omega) (unhide HB2).size) (by omega) (by have := bt1.size; have := (unhide HB2).size; omega), ?_, ?_⟩
    · have a0 := unhide OW1b
      have a1 := unhide AR1b
      rw [(unhide SX).1, (unhide SX).2] at a0 a1
      exact ((outN_ow (V := sU (!(decide (N < 0) == decide (D < 0))) ((N.natAbs : Int) / (D.natAbs : Int))) a0 a1 (by rw [sU_abs (Int.ediv_nonneg (by omega) (by omega))]; exact unhide N2)).but bt1 (.inr (by omega))).but bt2 (.inr (by omega)) |>.wide (by omega) (by have := bt1.size; have := bt2.size; omega)
    · have a0 := unhide OW2
      have a1 := unhide AR2
      rw [(unhide SX).1] at a0 a1
      exact ((outN_ow (V := sU (decide (N < 0)) ((N.natAbs : Int) % (D.natAbs : Int))) a0 a1 (by rw [sU_abs (Int.emod_nonneg _ (by have := unhide HD; omega))]; exact unhide N3)).but bt1 (.inr (by omega))).but bt2 (.inr (by omega)) |>.wide (by omega) (by have := bt1.size; have := bt2.size; omega)
end Go.Proofs.YthmpikagenodjaaGreat
namespace Go.Proofs.YthmpikagenodjaaGreat
open Go.RowKit
set_option linter.unusedVariables false
set_option maxRecDepth 100000
set_option linter.unusedSimpArgs false

theorem quot_g (N D X : Int) (hD : D ≠ 0) : sU (!(decide (X < 0) == decide (((Nat.gcd N.natAbs D.natAbs : Nat) : Int) < 0))) ((X.natAbs : Int) / ((((Nat.gcd N.natAbs D.natAbs : Nat) : Int)).natAbs : Int)) = sU (decide (X < 0)) ((X.natAbs : Int) / ((Nat.gcd N.natAbs D.natAbs : Nat) : Int)) := by
  have : decide (((Nat.gcd N.natAbs D.natAbs : Nat) : Int) < 0) = false := decide_eq_false (by omega)
  rw [this, Int.natAbs_natCast]
  cases decide (X < 0) <;> rfl
theorem low_neg {N D : Int} (h : D < 0) : -(sU (decide (N < 0)) (lowU N D)) = lowN N D ∧ -(sU (decide (D < 0)) (lowD N D)) = lowD N D := by
  unfold lowN sU
  rw [decide_eq_true h]
  refine ⟨?_, by simp⟩
  cases decide (N < 0) <;> simp
theorem low_pos {N D : Int} (h : 0 ≤ D) : sU (decide (N < 0)) (lowU N D) = lowN N D ∧ sU (decide (D < 0)) (lowD N D) = lowD N D := by
  unfold lowN sU
  rw [decide_eq_false (show ¬ D < 0 by omega)]
  refine ⟨?_, by simp⟩
  cases decide (N < 0) <;> simp
theorem outQv_fin {w wN W : World} {R : Nat} {q : QV} {N D : Int} (hR : w.heap.size ≤ R) (hb : Below w.heap.size w wN) (bt : But R (R + 1) wN W)
    (h1 : Ow (R + 1) wN.heap.size wN q.num N) (h2 : Ow (R + 1) wN.heap.size wN q.den D) : OutQv w N D (.returned (.agg #[.bool q.num.g, .slice q.num.a q.num.n q.num.c, .bool q.den.g, .slice q.den.a q.den.n q.den.c])) W :=
  ⟨q, rfl, bt.below hb hR hb.size, (h1.but bt (.inr (Nat.le_refl _))).wide (by omega) bt.size, (h2.but bt (.inr (Nat.le_refl _))).wide (by omega) bt.size⟩

set_option maxHeartbeats 4000000 in
theorem lowS (b b' : BV) (N D : Int) (w : World) (h : IsB w b N) (h' : IsB w b' D) (hD : D ≠ 0) (k : Bd N 400000) (k' : Bd D 400000) :
    Calls Tryz.prog 119 #[.agg #[.bool b.g, .slice b.a b.n b.c], .agg #[.bool b'.g, .slice b'.a b'.n b'.c]] w (OutQv w (lowN N D) (lowD N D)) := by
  by_cases hD0 : D < 0
  · have HI := hide h
    have HI' := hide h'
    obtain ⟨xs, hx, _, hl, nx, sx⟩ := h.num k (by omega)
    obtain ⟨ys, hy, _, hl', ny, sy⟩ := h'.num k' (by omega)
    have hm : 1 ≤ b'.n := by have := h'.zero_iff; omega
    have HX := hide hx.arg
    have HY := hide hy.arg
    have EN : Hid ((val xs).toNat = N.natAbs ∧ (val ys).toNat = D.natAbs) := hide ⟨by rw [nx.v]; simp, by rw [ny.v]; simp⟩
    have KD := hide k'
    have KN := hide k
    have NX := hide nx
    have NY := hide ny
    have HD := hide hD
    have HD0 := hide hD0
    clear hD0
    have KG : Hid (Bd ((Nat.gcd N.natAbs D.natAbs : Nat) : Int) 400000 ∧ ((Nat.gcd N.natAbs D.natAbs : Nat) : Int) ≠ 0) := hide ⟨k'.le (by have := Nat.le_of_dvd (show 0 < D.natAbs by omega) (Nat.gcd_dvd_right N.natAbs D.natAbs); simp; omega), by have := gcd_pos_right (N := N) hD; omega⟩
    clear h h' hx hy nx ny sx sy k k' hD
    have B0 := hide (show Below w.heap.size w (((w.alloc (.cells #[.bool b.g, .slice b.a b.n b.c] 27)).alloc (.cells #[.bool b'.g, .slice b'.a b'.n b'.c] 27)).alloc (.cells #[.bool false, .slice none 0 0, .bool false, .slice none 0 0] 29)) from ((((Below.refl _ _).alloc (by simp) _).alloc (by simp) _).alloc (by simp <;> omega) _))
    go_enter Tryz.func119, Tryz.ntmps119
    go_wp2_with fail
    refine (gcdS_any b.a b'.a b.n b'.n b.c b'.c xs ys _ ((unhide HX).later (unhide B0)) ((unhide HY).later (unhide B0)) (unhide NX).ok (unhide NX).tr (unhide NY).ok (unhide NY).tr (by omega) (by omega)).mono ?_
    rintro e w1 ⟨a1, n1, c1, gs, rfl, hb, ho1, ha1, hn1⟩
    rw [(unhide EN).1, (unhide EN).2] at hn1
    obtain ⟨g1, g2⟩ := gcd_len hn1 ha1.len (unhide HD) (unhide KD)
    have N1 := hide hn1
    have s1 : w.heap.size + 3 ≤ w1.heap.size := by have := hb.size; simp at this; omega
    have k0_0 : w1.cell? ⟨w.heap.size, 0, none⟩ = some (.bool b.g) := cell_later hb (by simp [go_sem])
    have k1_0 : w1.cell? ⟨w.heap.size + 1, 0, none⟩ = some (.bool b'.g) := cell_later hb (by simp [go_sem])
    have k0_1 : w1.cell? ⟨w.heap.size, 1, none⟩ = some (.slice b.a b.n b.c) := cell_later hb (by simp [go_sem])
    have k1_1 : w1.cell? ⟨w.heap.size + 1, 1, none⟩ = some (.slice b'.a b'.n b'.c) := cell_later hb (by simp [go_sem])
    have k2_0 : w1.cell? ⟨w.heap.size + 1 + 1, 0, none⟩ = some (.bool false) := cell_later hb (by simp [go_sem])
    have k2_1 : w1.cell? ⟨w.heap.size + 1 + 1, 1, none⟩ = some (.slice none 0 0) := cell_later hb (by simp [go_sem])
    have k2_2 : w1.cell? ⟨w.heap.size + 1 + 1, 2, none⟩ = some (.bool false) := cell_later hb (by simp [go_sem])
    have k2_3 : w1.cell? ⟨w.heap.size + 1 + 1, 3, none⟩ = some (.slice none 0 0) := cell_later hb (by simp [go_sem])
    have z2 : ∀ o, w1.frozen? ⟨w.heap.size + 1 + 1, o, none⟩ = false := fun o => frozen_later hb (by simp) (by simp [go_sem])
    have A1 := hide (ha1)
    have HB := hide (below_on (unhide B0) hb)
    clear hb
    clear ho1 ha1 hn1
    go_wp2_with fail
    refine (makeS_v false a1 n1 c1 gs _ _ (unhide A1) (unhide N1) (by omega)).mono ?_
    rintro e w2 ⟨x1, rfl, hb, ow, ar⟩
    have s2 := hb.size
    replace z2 := fun o => frozen_later hb (World.block_lt_of_cell? _ _ k2_0) (z2 o)
    replace k0_0 := cell_later hb k0_0
    replace k1_0 := cell_later hb k1_0
    replace k0_1 := cell_later hb k0_1
    replace k1_1 := cell_later hb k1_1
    replace k2_0 := cell_later hb k2_0
    replace k2_1 := cell_later hb k2_1
    replace k2_2 := cell_later hb k2_2
    replace k2_3 := cell_later hb k2_3
    replace A1 := hide ((unhide A1).later hb)
    have G1 := hide (isB_of_out (V := ((Nat.gcd N.natAbs D.natAbs : Nat) : Int)) ar (by rw [Int.natAbs_natCast]; exact unhide N1))
    replace HB := hide (below_on (unhide HB) hb)
    clear hb
    clear ow ar
    clear A1
    have k0_0u : (w2.alloc (.cells #[.bool x1.g, .slice x1.a x1.n x1.c] 27)).cell? ⟨w.heap.size, 0, none⟩ = some (.bool b.g) := (ca_other k0_0)
    have k1_0u : (w2.alloc (.cells #[.bool x1.g, .slice x1.a x1.n x1.c] 27)).cell? ⟨w.heap.size + 1, 0, none⟩ = some (.bool b'.g) := (ca_other k1_0)
    have k0_1u : (w2.alloc (.cells #[.bool x1.g, .slice x1.a x1.n x1.c] 27)).cell? ⟨w.heap.size, 1, none⟩ = some (.slice b.a b.n b.c) := (ca_other k0_1)
    have k1_1u : (w2.alloc (.cells #[.bool x1.g, .slice x1.a x1.n x1.c] 27)).cell? ⟨w.heap.size + 1, 1, none⟩ = some (.slice b'.a b'.n b'.c) := (ca_other k1_1)
    have k2_0u : (w2.alloc (.cells #[.bool x1.g, .slice x1.a x1.n x1.c] 27)).cell? ⟨w.heap.size + 1 + 1, 0, none⟩ = some (.bool false) := (ca_other k2_0)
    have k2_1u : (w2.alloc (.cells #[.bool x1.g, .slice x1.a x1.n x1.c] 27)).cell? ⟨w.heap.size + 1 + 1, 1, none⟩ = some (.slice none 0 0) := (ca_other k2_1)
    have k2_2u : (w2.alloc (.cells #[.bool x1.g, .slice x1.a x1.n x1.c] 27)).cell? ⟨w.heap.size + 1 + 1, 2, none⟩ = some (.bool false) := (ca_other k2_2)
    have k2_3u : (w2.alloc (.cells #[.bool x1.g, .slice x1.a x1.n x1.c] 27)).cell? ⟨w.heap.size + 1 + 1, 3, none⟩ = some (.slice none 0 0) := (ca_other k2_3)
    go_wp2_with fail
    refine (divS_v b x1 N _ _ ((unhide HI).later (below_on (unhide HB) ((Below.refl _ _).alloc (by simp) _))) ((unhide G1).later ((Below.refl _ _).alloc (by simp) _)) (unhide KG).2 (unhide KN) (unhide KG).1).mono ?_
    rintro e w3 ⟨y1, y2, rfl, hb, i1, i2⟩
    clear k0_0u k1_0u k0_1u k1_1u k2_0u k2_1u k2_2u k2_3u
    rw [quot_g N D N (unhide HD)] at i1
    have s3 : w2.heap.size ≤ w3.heap.size := by have := hb.size; simp at this; omega
    replace i1 : Ow w2.heap.size w3.heap.size w3 y1 (sU (decide (N < 0)) (lowU N D)) := i1.wide (by simp) (Nat.le_refl _)
    have hbx := ba (hb)
    replace z2 := fun o => frozen_later hbx (World.block_lt_of_cell? _ _ k2_0) (z2 o)
    replace k1_0 := cell_later hbx k1_0
    replace k1_1 := cell_later hbx k1_1
    replace k2_0 := cell_later hbx k2_0
    replace k2_1 := cell_later hbx k2_1
    replace k2_2 := cell_later hbx k2_2
    replace k2_3 := cell_later hbx k2_3
    have k3_0 : w3.cell? ⟨w2.heap.size, 0, none⟩ = some (.bool x1.g) := cell_later hb (by simp [go_sem])
    have k3_1 : w3.cell? ⟨w2.heap.size, 1, none⟩ = some (.slice x1.a x1.n x1.c) := cell_later hb (by simp [go_sem])
    clear k0_0 k0_1
    replace G1 := hide ((unhide G1).later hbx)
    have I1 := hide (i1)
    replace HB := hide (below_on (unhide HB) hbx)
    clear hbx hb
    clear i1 i2
    have k1_0u : ((w3.alloc (.cells #[.bool y1.g, .slice y1.a y1.n y1.c] 27)).alloc (.cells #[.bool y2.g, .slice y2.a y2.n y2.c] 27)).cell? ⟨w.heap.size + 1, 0, none⟩ = some (.bool b'.g) := (ca_other (ca_other k1_0))
    have k1_1u : ((w3.alloc (.cells #[.bool y1.g, .slice y1.a y1.n y1.c] 27)).alloc (.cells #[.bool y2.g, .slice y2.a y2.n y2.c] 27)).cell? ⟨w.heap.size + 1, 1, none⟩ = some (.slice b'.a b'.n b'.c) := (ca_other (ca_other k1_1))
    have k2_0u : ((w3.alloc (.cells #[.bool y1.g, .slice y1.a y1.n y1.c] 27)).alloc (.cells #[.bool y2.g, .slice y2.a y2.n y2.c] 27)).cell? ⟨w.heap.size + 1 + 1, 0, none⟩ = some (.bool false) := (ca_other (ca_other k2_0))
    have k2_1u : ((w3.alloc (.cells #[.bool y1.g, .slice y1.a y1.n y1.c] 27)).alloc (.cells #[.bool y2.g, .slice y2.a y2.n y2.c] 27)).cell? ⟨w.heap.size + 1 + 1, 1, none⟩ = some (.slice none 0 0) := (ca_other (ca_other k2_1))
    have k2_2u : ((w3.alloc (.cells #[.bool y1.g, .slice y1.a y1.n y1.c] 27)).alloc (.cells #[.bool y2.g, .slice y2.a y2.n y2.c] 27)).cell? ⟨w.heap.size + 1 + 1, 2, none⟩ = some (.bool false) := (ca_other (ca_other k2_2))
    have k2_3u : ((w3.alloc (.cells #[.bool y1.g, .slice y1.a y1.n y1.c] 27)).alloc (.cells #[.bool y2.g, .slice y2.a y2.n y2.c] 27)).cell? ⟨w.heap.size + 1 + 1, 3, none⟩ = some (.slice none 0 0) := (ca_other (ca_other k2_3))
    have k3_0u : ((w3.alloc (.cells #[.bool y1.g, .slice y1.a y1.n y1.c] 27)).alloc (.cells #[.bool y2.g, .slice y2.a y2.n y2.c] 27)).cell? ⟨w2.heap.size, 0, none⟩ = some (.bool x1.g) := (ca_other (ca_other k3_0))
    have k3_1u : ((w3.alloc (.cells #[.bool y1.g, .slice y1.a y1.n y1.c] 27)).alloc (.cells #[.bool y2.g, .slice y2.a y2.n y2.c] 27)).cell? ⟨w2.heap.size, 1, none⟩ = some (.slice x1.a x1.n x1.c) := (ca_other (ca_other k3_1))
    go_wp2_with fail
    refine (divS_v b' x1 D _ _ ((unhide HI').later (below_on (unhide HB) (((Below.refl _ _).alloc (by simp) _).alloc (by simp) _))) ((unhide G1).later (((Below.refl _ _).alloc (by simp) _).alloc (by simp) _)) (unhide KG).2 (unhide KD) (unhide KG).1).mono ?_
    rintro e w4 ⟨z1, zr, rfl, hb, i3, i4⟩
    clear k1_0u k1_1u k2_0u k2_1u k2_2u k2_3u k3_0u k3_1u
    rw [quot_g N D D (unhide HD)] at i3
    have s4 : w3.heap.size + 1 ≤ w4.heap.size := by have := hb.size; simp at this; omega
    replace i3 : Ow w3.heap.size w4.heap.size w4 z1 (sU (decide (D < 0)) (lowD N D)) := i3.wide (by simp <;> omega) (Nat.le_refl _)
    have hbx := ba (ba (hb))
    replace z2 := fun o => frozen_later hbx (World.block_lt_of_cell? _ _ k2_0) (z2 o)
    replace k2_0 := cell_later hbx k2_0
    replace k2_1 := cell_later hbx k2_1
    replace k2_2 := cell_later hbx k2_2
    replace k2_3 := cell_later hbx k2_3
    have k4_0 : w4.cell? ⟨w3.heap.size, 0, none⟩ = some (.bool y1.g) := cell_later hb (by simp [go_sem])
    have k4_1 : w4.cell? ⟨w3.heap.size, 1, none⟩ = some (.slice y1.a y1.n y1.c) := cell_later hb (by simp [go_sem])
    clear k1_0 k1_1 k3_0 k3_1
    replace G1 := hide ((unhide G1).later hbx)
    replace I1 := hide ((unhide I1).later hbx)
    have I3 := hide (i3)
    replace HB := hide (below_on (unhide HB) hbx)
    clear hbx hb
    clear i3 i4
    clear G1
    have hz : z1.g = true := by
      obtain ⟨us, h1, h2⟩ := (unhide I3).is
      have h3 := h1.sg
      rw [h3]
      refine decide_eq_true ?_
      have := lowD_pos (N := N) (unhide HD)
      rw [← (low_neg (unhide HD0)).2] at this
      show sU (decide (D < 0)) (lowD N D) < 0
      omega
    have BD : Hid (Bd (sU (decide (N < 0)) (lowU N D)) 400000 ∧ Bd (sU (decide (D < 0)) (lowD N D)) 400000) := hide ⟨(unhide KN).le (by have := sU_abs (g := decide (N < 0)) (lowU_nonneg N D); have := lowU_le N D; omega), (unhide KD).le (by have := sU_abs (g := decide (D < 0)) (lowD_nonneg N D); have := lowD_le N D; omega)⟩
    have LN := hide (low_neg (N := N) (unhide HD0))
    obtain ⟨zg, za, zn, zc⟩ := z1
    obtain rfl : zg = true := hz
    go_upto_region 5 with fail
    have hb : Below w4.heap.size w4 ((w4.alloc (.cells #[.bool true, .slice za zn zc] 27)).alloc (.cells #[.bool zr.g, .slice zr.a zr.n zr.c] 27)) := (((Below.refl _ _).alloc (by simp) _).alloc (by simp) _)
    replace k4_0 : ((w4.alloc (.cells #[.bool true, .slice za zn zc] 27)).alloc (.cells #[.bool zr.g, .slice zr.a zr.n zr.c] 27)).cell? ⟨w3.heap.size, 0, none⟩ = some (.bool y1.g) := (ca_other (ca_other k4_0))
    replace k4_1 : ((w4.alloc (.cells #[.bool true, .slice za zn zc] 27)).alloc (.cells #[.bool zr.g, .slice zr.a zr.n zr.c] 27)).cell? ⟨w3.heap.size, 1, none⟩ = some (.slice y1.a y1.n y1.c) := (ca_other (ca_other k4_1))
    have k6_0 : ((w4.alloc (.cells #[.bool true, .slice za zn zc] 27)).alloc (.cells #[.bool zr.g, .slice zr.a zr.n zr.c] 27)).cell? ⟨w4.heap.size, 0, none⟩ = some (.bool true) := by simp [go_sem]
    have k6_1 : ((w4.alloc (.cells #[.bool true, .slice za zn zc] 27)).alloc (.cells #[.bool zr.g, .slice zr.a zr.n zr.c] 27)).cell? ⟨w4.heap.size, 1, none⟩ = some (.slice za zn zc) := by simp [go_sem]
    replace k2_0 : ((w4.alloc (.cells #[.bool true, .slice za zn zc] 27)).alloc (.cells #[.bool zr.g, .slice zr.a zr.n zr.c] 27)).cell? ⟨w.heap.size + 1 + 1, 0, none⟩ = some (.bool false) := (ca_other (ca_other k2_0))
    replace k2_1 : ((w4.alloc (.cells #[.bool true, .slice za zn zc] 27)).alloc (.cells #[.bool zr.g, .slice zr.a zr.n zr.c] 27)).cell? ⟨w.heap.size + 1 + 1, 1, none⟩ = some (.slice none 0 0) := (ca_other (ca_other k2_1))
    replace k2_2 : ((w4.alloc (.cells #[.bool true, .slice za zn zc] 27)).alloc (.cells #[.bool zr.g, .slice zr.a zr.n zr.c] 27)).cell? ⟨w.heap.size + 1 + 1, 2, none⟩ = some (.bool false) := (ca_other (ca_other k2_2))
    replace k2_3 : ((w4.alloc (.cells #[.bool true, .slice za zn zc] 27)).alloc (.cells #[.bool zr.g, .slice zr.a zr.n zr.c] 27)).cell? ⟨w.heap.size + 1 + 1, 3, none⟩ = some (.slice none 0 0) := (ca_other (ca_other k2_3))
    replace z2 : ∀ o, ((w4.alloc (.cells #[.bool true, .slice za zn zc] 27)).alloc (.cells #[.bool zr.g, .slice zr.a zr.n zr.c] 27)).frozen? ⟨w.heap.size + 1 + 1, o, none⟩ = false := fun o => frozen_later hb (by omega) (z2 o)
    replace I1 := hide ((unhide I1).later hb)
    replace I3 := hide ((unhide I3).later hb)
    replace HB := hide (below_on (unhide HB) hb)
    have szw5 := hb.size
    clear hb
    generalize ((w4.alloc (.cells #[.bool true, .slice za zn zc] 27)).alloc (.cells #[.bool zr.g, .slice zr.a zr.n zr.c] 27)) = w5 at *
    have ne4_2 : w3.heap.size ≠ w.heap.size + 1 + 1 := by omega
    have ne6_2 : w4.heap.size ≠ w.heap.size + 1 + 1 := by omega
    go_region_held3 (fun w' => w'.cell? ⟨w3.heap.size, 0, none⟩ = some (.bool y1.g) ∧ w'.cell? ⟨w3.heap.size, 1, none⟩ = some (.slice y1.a y1.n y1.c) ∧ w'.cell? ⟨w4.heap.size, 0, none⟩ = some (.bool true) ∧ w'.cell? ⟨w4.heap.size, 1, none⟩ = some (.slice za zn zc)) (with_reducible (first | exact ⟨k4_0, k4_1, k6_0, k6_1⟩ | exact ⟨cd_other k4_0, cd_other k4_1, cd_other k6_0, cd_other k6_1⟩ | exact ⟨cs_other (cs_other (cs_other (cs_other (k4_0) ne4_2) ne4_2) ne4_2) ne4_2, cs_other (cs_other (cs_other (cs_other (k4_1) ne4_2) ne4_2) ne4_2) ne4_2, cs_other (cs_other (cs_other (cs_other (k6_0) ne6_2) ne6_2) ne6_2) ne6_2, cs_other (cs_other (cs_other (cs_other (k6_1) ne6_2) ne6_2) ne6_2) ne6_2⟩ | fail))
      (first
      | (go_at_call_of 159 (Value.agg #[Value.bool y1.g, Value.slice y1.a y1.n y1.c]); refine (negS_v y1 _ _ ?_ (unhide BD).1).mono ?_; exact (unhide I1).is.later (Below.refl _ _).drew; rintro e w6 ⟨u1, as1, rfl, hb, ow1, ar1, nn1⟩; have hbx : Below w5.heap.size w5 w6 := below_of_drew hb; have szw6 := hbx.size; replace z2 := fun o => frozen_later hbx (World.block_lt_of_cell? _ _ k2_0) (z2 o); replace k2_0 := cell_later hbx k2_0; replace k2_1 := cell_later hbx k2_1; replace k2_2 := cell_later hbx k2_2; replace k2_3 := cell_later hbx k2_3; replace k4_0 := cell_later hbx k4_0; replace k4_1 := cell_later hbx k4_1; replace k6_0 := cell_later hbx k6_0; replace k6_1 := cell_later hbx k6_1; replace I1 := hide ((unhide I1).later hbx); replace I3 := hide ((unhide I3).later hbx); have P1 := hide (outN_ow ow1 ar1 nn1); have HBr := hide hbx; clear hbx hb ow1 ar1 nn1)
      | (go_at_call_of 159 (Value.agg #[Value.bool true, Value.slice za zn zc]); refine (negS_v ⟨true, za, zn, zc⟩ _ _ ?_ (unhide BD).2).mono ?_; exact (unhide I3).is.later (Below.refl _ _); rintro e w7 ⟨u2, bs1, rfl, hb, ow2, ar2, nn2⟩; have hbx : Below w6.heap.size w6 w7 := hb; have szw7 := hbx.size; replace z2 := fun o => frozen_later hbx (World.block_lt_of_cell? _ _ k2_0) (z2 o); replace k2_0 := cell_later hbx k2_0; replace k2_1 := cell_later hbx k2_1; replace k2_2 := cell_later hbx k2_2; replace k2_3 := cell_later hbx k2_3; replace k4_0 := cell_later hbx k4_0; replace k4_1 := cell_later hbx k4_1; replace k6_0 := cell_later hbx k6_0; replace k6_1 := cell_later hbx k6_1; replace I1 := hide ((unhide I1).later hbx); replace I3 := hide ((unhide I3).later hbx); replace P1 := hide ((unhide P1).later hbx); have P2 := hide (outN_ow ow2 ar2 nn2); have HBr := hide (below_on (unhide HBr) hbx); clear hbx hb ow2 ar2 nn2))
    replace HB := hide (below_on (unhide HB) (unhide HBr))
    clear HBr
    have P3 : Hid (Ow (w.heap.size + 1 + 1 + 1) w7.heap.size w7 u1 (lowN N D) ∧ Ow (w.heap.size + 1 + 1 + 1) w7.heap.size w7 u2 (lowD N D)) := hide ⟨by rw [← (unhide LN).1]; exact (unhide P1).wide (show _ ≤ w5.heap.size by omega) (by omega), by rw [← (unhide LN).2]; exact (unhide P2).wide (by omega) (by omega)⟩
    go_wp2
    refine bodyPost_ret (v := .agg #[.bool u1.g, .slice u1.a u1.n u1.c, .bool u2.g, .slice u2.a u2.n u2.c]) (by simp [results, Tryz.results119, go_sem, k2_0, k2_1, k2_2, k2_3]) rfl ?_
    exact outQv_fin (q := ⟨u1, u2⟩) (R := w.heap.size + 1 + 1) (by omega) (unhide HB) (metQ_but (w5 := w7) (v := ⟨u1, u2⟩) (G := w.heap.size + 1 + 1)) (unhide P3).1 (unhide P3).2
  · have HI := hide h
    have HI' := hide h'
    obtain ⟨xs, hx, _, hl, nx, sx⟩ := h.num k (by omega)
    obtain ⟨ys, hy, _, hl', ny, sy⟩ := h'.num k' (by omega)
    have hm : 1 ≤ b'.n := by have := h'.zero_iff; omega
    have HX := hide hx.arg
    have HY := hide hy.arg
    have EN : Hid ((val xs).toNat = N.natAbs ∧ (val ys).toNat = D.natAbs) := hide ⟨by rw [nx.v]; simp, by rw [ny.v]; simp⟩
    have KD := hide k'
    have KN := hide k
    have NX := hide nx
    have NY := hide ny
    have HD := hide hD
    have HD0 := hide (show 0 ≤ D by omega)
    clear hD0
    have KG : Hid (Bd ((Nat.gcd N.natAbs D.natAbs : Nat) : Int) 400000 ∧ ((Nat.gcd N.natAbs D.natAbs : Nat) : Int) ≠ 0) := hide ⟨k'.le (by have := Nat.le_of_dvd (show 0 < D.natAbs by omega) (Nat.gcd_dvd_right N.natAbs D.natAbs); simp; omega), by have := gcd_pos_right (N := N) hD; omega⟩
    clear h h' hx hy nx ny sx sy k k' hD
    have B0 := hide (show Below w.heap.size w (((w.alloc (.cells #[.bool b.g, .slice b.a b.n b.c] 27)).alloc (.cells #[.bool b'.g, .slice b'.a b'.n b'.c] 27)).alloc (.cells #[.bool false, .slice none 0 0, .bool false, .slice none 0 0] 29)) from ((((Below.refl _ _).alloc (by simp) _).alloc (by simp) _).alloc (by simp <;> omega) _))
    go_enter Tryz.func119, Tryz.ntmps119
    go_wp2_with fail
    refine (gcdS_any b.a b'.a b.n b'.n b.c b'.c xs ys _ ((unhide HX).later (unhide B0)) ((unhide HY).later (unhide B0)) (unhide NX).ok (unhide NX).tr (unhide NY).ok (unhide NY).tr (by omega) (by omega)).mono ?_
    rintro e w1 ⟨a1, n1, c1, gs, rfl, hb, ho1, ha1, hn1⟩
    rw [(unhide EN).1, (unhide EN).2] at hn1
    obtain ⟨g1, g2⟩ := gcd_len hn1 ha1.len (unhide HD) (unhide KD)
    have N1 := hide hn1
    have s1 : w.heap.size + 3 ≤ w1.heap.size := by have := hb.size; simp at this; omega
    have k0_0 : w1.cell? ⟨w.heap.size, 0, none⟩ = some (.bool b.g) := cell_later hb (by simp [go_sem])
    have k1_0 : w1.cell? ⟨w.heap.size + 1, 0, none⟩ = some (.bool b'.g) := cell_later hb (by simp [go_sem])
    have k0_1 : w1.cell? ⟨w.heap.size, 1, none⟩ = some (.slice b.a b.n b.c) := cell_later hb (by simp [go_sem])
    have k1_1 : w1.cell? ⟨w.heap.size + 1, 1, none⟩ = some (.slice b'.a b'.n b'.c) := cell_later hb (by simp [go_sem])
    have k2_0 : w1.cell? ⟨w.heap.size + 1 + 1, 0, none⟩ = some (.bool false) := cell_later hb (by simp [go_sem])
    have k2_1 : w1.cell? ⟨w.heap.size + 1 + 1, 1, none⟩ = some (.slice none 0 0) := cell_later hb (by simp [go_sem])
    have k2_2 : w1.cell? ⟨w.heap.size + 1 + 1, 2, none⟩ = some (.bool false) := cell_later hb (by simp [go_sem])
    have k2_3 : w1.cell? ⟨w.heap.size + 1 + 1, 3, none⟩ = some (.slice none 0 0) := cell_later hb (by simp [go_sem])
    have z2 : ∀ o, w1.frozen? ⟨w.heap.size + 1 + 1, o, none⟩ = false := fun o => frozen_later hb (by simp) (by simp [go_sem])
    have A1 := hide (ha1)
    have HB := hide (below_on (unhide B0) hb)
    clear hb
    clear ho1 ha1 hn1
    go_wp2_with fail
    refine (makeS_v false a1 n1 c1 gs _ _ (unhide A1) (unhide N1) (by omega)).mono ?_
    rintro e w2 ⟨x1, rfl, hb, ow, ar⟩
    have s2 := hb.size
    replace z2 := fun o => frozen_later hb (World.block_lt_of_cell? _ _ k2_0) (z2 o)
    replace k0_0 := cell_later hb k0_0
    replace k1_0 := cell_later hb k1_0
    replace k0_1 := cell_later hb k0_1
    replace k1_1 := cell_later hb k1_1
    replace k2_0 := cell_later hb k2_0
    replace k2_1 := cell_later hb k2_1
    replace k2_2 := cell_later hb k2_2
    replace k2_3 := cell_later hb k2_3
    replace A1 := hide ((unhide A1).later hb)
    have G1 := hide (isB_of_out (V := ((Nat.gcd N.natAbs D.natAbs : Nat) : Int)) ar (by rw [Int.natAbs_natCast]; exact unhide N1))
    replace HB := hide (below_on (unhide HB) hb)
    clear hb
    clear ow ar
    clear A1
    have k0_0u : (w2.alloc (.cells #[.bool x1.g, .slice x1.a x1.n x1.c] 27)).cell? ⟨w.heap.size, 0, none⟩ = some (.bool b.g) := (ca_other k0_0)
    have k1_0u : (w2.alloc (.cells #[.bool x1.g, .slice x1.a x1.n x1.c] 27)).cell? ⟨w.heap.size + 1, 0, none⟩ = some (.bool b'.g) := (ca_other k1_0)
    have k0_1u : (w2.alloc (.cells #[.bool x1.g, .slice x1.a x1.n x1.c] 27)).cell? ⟨w.heap.size, 1, none⟩ = some (.slice b.a b.n b.c) := (ca_other k0_1)
    have k1_1u : (w2.alloc (.cells #[.bool x1.g, .slice x1.a x1.n x1.c] 27)).cell? ⟨w.heap.size + 1, 1, none⟩ = some (.slice b'.a b'.n b'.c) := (ca_other k1_1)
    have k2_0u : (w2.alloc (.cells #[.bool x1.g, .slice x1.a x1.n x1.c] 27)).cell? ⟨w.heap.size + 1 + 1, 0, none⟩ = some (.bool false) := (ca_other k2_0)
    have k2_1u : (w2.alloc (.cells #[.bool x1.g, .slice x1.a x1.n x1.c] 27)).cell? ⟨w.heap.size + 1 + 1, 1, none⟩ = some (.slice none 0 0) := (ca_other k2_1)
    have k2_2u : (w2.alloc (.cells #[.bool x1.g, .slice x1.a x1.n x1.c] 27)).cell? ⟨w.heap.size + 1 + 1, 2, none⟩ = some (.bool false) := (ca_other k2_2)
    have k2_3u : (w2.alloc (.cells #[.bool x1.g, .slice x1.a x1.n x1.c] 27)).cell? ⟨w.heap.size + 1 + 1, 3, none⟩ = some (.slice none 0 0) := (ca_other k2_3)
    go_wp2_with fail
    refine (divS_v b x1 N _ _ ((unhide HI).later (below_on (unhide HB) ((Below.refl _ _).alloc (by simp) _))) ((unhide G1).later ((Below.refl _ _).alloc (by simp) _)) (unhide KG).2 (unhide KN) (unhide KG).1).mono ?_
    rintro e w3 ⟨y1, y2, rfl, hb, i1, i2⟩
    clear k0_0u k1_0u k0_1u k1_1u k2_0u k2_1u k2_2u k2_3u
    rw [quot_g N D N (unhide HD)] at i1
    have s3 : w2.heap.size ≤ w3.heap.size := by have := hb.size; simp at this; omega
    replace i1 : Ow w2.heap.size w3.heap.size w3 y1 (sU (decide (N < 0)) (lowU N D)) := i1.wide (by simp) (Nat.le_refl _)
    have hbx := ba (hb)
    replace z2 := fun o => frozen_later hbx (World.block_lt_of_cell? _ _ k2_0) (z2 o)
    replace k1_0 := cell_later hbx k1_0
    replace k1_1 := cell_later hbx k1_1
    replace k2_0 := cell_later hbx k2_0
    replace k2_1 := cell_later hbx k2_1
    replace k2_2 := cell_later hbx k2_2
    replace k2_3 := cell_later hbx k2_3
    have k3_0 : w3.cell? ⟨w2.heap.size, 0, none⟩ = some (.bool x1.g) := cell_later hb (by simp [go_sem])
    have k3_1 : w3.cell? ⟨w2.heap.size, 1, none⟩ = some (.slice x1.a x1.n x1.c) := cell_later hb (by simp [go_sem])
    clear k0_0 k0_1
    replace G1 := hide ((unhide G1).later hbx)
    have I1 := hide (i1)
    replace HB := hide (below_on (unhide HB) hbx)
    clear hbx hb
    clear i1 i2
    have k1_0u : ((w3.alloc (.cells #[.bool y1.g, .slice y1.a y1.n y1.c] 27)).alloc (.cells #[.bool y2.g, .slice y2.a y2.n y2.c] 27)).cell? ⟨w.heap.size + 1, 0, none⟩ = some (.bool b'.g) := (ca_other (ca_other k1_0))
    have k1_1u : ((w3.alloc (.cells #[.bool y1.g, .slice y1.a y1.n y1.c] 27)).alloc (.cells #[.bool y2.g, .slice y2.a y2.n y2.c] 27)).cell? ⟨w.heap.size + 1, 1, none⟩ = some (.slice b'.a b'.n b'.c) := (ca_other (ca_other k1_1))
    have k2_0u : ((w3.alloc (.cells #[.bool y1.g, .slice y1.a y1.n y1.c] 27)).alloc (.cells #[.bool y2.g, .slice y2.a y2.n y2.c] 27)).cell? ⟨w.heap.size + 1 + 1, 0, none⟩ = some (.bool false) := (ca_other (ca_other k2_0))
    have k2_1u : ((w3.alloc (.cells #[.bool y1.g, .slice y1.a y1.n y1.c] 27)).alloc (.cells #[.bool y2.g, .slice y2.a y2.n y2.c] 27)).cell? ⟨w.heap.size + 1 + 1, 1, none⟩ = some (.slice none 0 0) := (ca_other (ca_other k2_1))
    have k2_2u : ((w3.alloc (.cells #[.bool y1.g, .slice y1.a y1.n y1.c] 27)).alloc (.cells #[.bool y2.g, .slice y2.a y2.n y2.c] 27)).cell? ⟨w.heap.size + 1 + 1, 2, none⟩ = some (.bool false) := (ca_other (ca_other k2_2))
    have k2_3u : ((w3.alloc (.cells #[.bool y1.g, .slice y1.a y1.n y1.c] 27)).alloc (.cells #[.bool y2.g, .slice y2.a y2.n y2.c] 27)).cell? ⟨w.heap.size + 1 + 1, 3, none⟩ = some (.slice none 0 0) := (ca_other (ca_other k2_3))
    have k3_0u : ((w3.alloc (.cells #[.bool y1.g, .slice y1.a y1.n y1.c] 27)).alloc (.cells #[.bool y2.g, .slice y2.a y2.n y2.c] 27)).cell? ⟨w2.heap.size, 0, none⟩ = some (.bool x1.g) := (ca_other (ca_other k3_0))
    have k3_1u : ((w3.alloc (.cells #[.bool y1.g, .slice y1.a y1.n y1.c] 27)).alloc (.cells #[.bool y2.g, .slice y2.a y2.n y2.c] 27)).cell? ⟨w2.heap.size, 1, none⟩ = some (.slice x1.a x1.n x1.c) := (ca_other (ca_other k3_1))
    go_wp2_with fail
    refine (divS_v b' x1 D _ _ ((unhide HI').later (below_on (unhide HB) (((Below.refl _ _).alloc (by simp) _).alloc (by simp) _))) ((unhide G1).later (((Below.refl _ _).alloc (by simp) _).alloc (by simp) _)) (unhide KG).2 (unhide KD) (unhide KG).1).mono ?_
    rintro e w4 ⟨z1, zr, rfl, hb, i3, i4⟩
    clear k1_0u k1_1u k2_0u k2_1u k2_2u k2_3u k3_0u k3_1u
    rw [quot_g N D D (unhide HD)] at i3
    have s4 : w3.heap.size + 1 ≤ w4.heap.size := by have := hb.size; simp at this; omega
    replace i3 : Ow w3.heap.size w4.heap.size w4 z1 (sU (decide (D < 0)) (lowD N D)) := i3.wide (by simp <;> omega) (Nat.le_refl _)
    have hbx := ba (ba (hb))
    replace z2 := fun o => frozen_later hbx (World.block_lt_of_cell? _ _ k2_0) (z2 o)
    replace k2_0 := cell_later hbx k2_0
    replace k2_1 := cell_later hbx k2_1
    replace k2_2 := cell_later hbx k2_2
    replace k2_3 := cell_later hbx k2_3
    have k4_0 : w4.cell? ⟨w3.heap.size, 0, none⟩ = some (.bool y1.g) := cell_later hb (by simp [go_sem])
    have k4_1 : w4.cell? ⟨w3.heap.size, 1, none⟩ = some (.slice y1.a y1.n y1.c) := cell_later hb (by simp [go_sem])
    clear k1_0 k1_1 k3_0 k3_1
    replace G1 := hide ((unhide G1).later hbx)
    replace I1 := hide ((unhide I1).later hbx)
    have I3 := hide (i3)
    replace HB := hide (below_on (unhide HB) hbx)
    clear hbx hb
    clear i3 i4
    clear G1
    have hz : z1.g = false := by
      obtain ⟨us, h1, h2⟩ := (unhide I3).is
      have h3 := h1.sg
      rw [h3]
      refine decide_eq_false ?_
      have := lowD_pos (N := N) (unhide HD)
      rw [← (low_pos (unhide HD0)).2] at this
      show ¬ sU (decide (D < 0)) (lowD N D) < 0
      omega
    have LN := hide (low_pos (N := N) (unhide HD0))
    obtain ⟨zg, za, zn, zc⟩ := z1
    obtain rfl : zg = false := hz
    go_upto_region 6 with fail
    have hb : Below w4.heap.size w4 ((w4.alloc (.cells #[.bool false, .slice za zn zc] 27)).alloc (.cells #[.bool zr.g, .slice zr.a zr.n zr.c] 27)) := (((Below.refl _ _).alloc (by simp) _).alloc (by simp) _)
    replace k4_0 : ((w4.alloc (.cells #[.bool false, .slice za zn zc] 27)).alloc (.cells #[.bool zr.g, .slice zr.a zr.n zr.c] 27)).cell? ⟨w3.heap.size, 0, none⟩ = some (.bool y1.g) := (ca_other (ca_other k4_0))
    replace k4_1 : ((w4.alloc (.cells #[.bool false, .slice za zn zc] 27)).alloc (.cells #[.bool zr.g, .slice zr.a zr.n zr.c] 27)).cell? ⟨w3.heap.size, 1, none⟩ = some (.slice y1.a y1.n y1.c) := (ca_other (ca_other k4_1))
    have k6_0 : ((w4.alloc (.cells #[.bool false, .slice za zn zc] 27)).alloc (.cells #[.bool zr.g, .slice zr.a zr.n zr.c] 27)).cell? ⟨w4.heap.size, 0, none⟩ = some (.bool false) := by simp [go_sem]
    have k6_1 : ((w4.alloc (.cells #[.bool false, .slice za zn zc] 27)).alloc (.cells #[.bool zr.g, .slice zr.a zr.n zr.c] 27)).cell? ⟨w4.heap.size, 1, none⟩ = some (.slice za zn zc) := by simp [go_sem]
    replace k2_0 : ((w4.alloc (.cells #[.bool false, .slice za zn zc] 27)).alloc (.cells #[.bool zr.g, .slice zr.a zr.n zr.c] 27)).cell? ⟨w.heap.size + 1 + 1, 0, none⟩ = some (.bool false) := (ca_other (ca_other k2_0))
    replace k2_1 : ((w4.alloc (.cells #[.bool false, .slice za zn zc] 27)).alloc (.cells #[.bool zr.g, .slice zr.a zr.n zr.c] 27)).cell? ⟨w.heap.size + 1 + 1, 1, none⟩ = some (.slice none 0 0) := (ca_other (ca_other k2_1))
    replace k2_2 : ((w4.alloc (.cells #[.bool false, .slice za zn zc] 27)).alloc (.cells #[.bool zr.g, .slice zr.a zr.n zr.c] 27)).cell? ⟨w.heap.size + 1 + 1, 2, none⟩ = some (.bool false) := (ca_other (ca_other k2_2))
    replace k2_3 : ((w4.alloc (.cells #[.bool false, .slice za zn zc] 27)).alloc (.cells #[.bool zr.g, .slice zr.a zr.n zr.c] 27)).cell? ⟨w.heap.size + 1 + 1, 3, none⟩ = some (.slice none 0 0) := (ca_other (ca_other k2_3))
    replace z2 : ∀ o, ((w4.alloc (.cells #[.bool false, .slice za zn zc] 27)).alloc (.cells #[.bool zr.g, .slice zr.a zr.n zr.c] 27)).frozen? ⟨w.heap.size + 1 + 1, o, none⟩ = false := fun o => frozen_later hb (by omega) (z2 o)
    replace I1 := hide ((unhide I1).later hb)
    replace I3 := hide ((unhide I3).later hb)
    replace HB := hide (below_on (unhide HB) hb)
    have szw5 := hb.size
    clear hb
    generalize ((w4.alloc (.cells #[.bool false, .slice za zn zc] 27)).alloc (.cells #[.bool zr.g, .slice zr.a zr.n zr.c] 27)) = w5 at *
    have P3 : Hid (Ow (w.heap.size + 1 + 1 + 1) w5.heap.size w5 y1 (lowN N D) ∧ Ow (w.heap.size + 1 + 1 + 1) w5.heap.size w5 ⟨false, za, zn, zc⟩ (lowD N D)) := hide ⟨by rw [← (unhide LN).1]; exact (unhide I1).wide (by omega) (by omega), by rw [← (unhide LN).2]; exact (unhide I3).wide (by omega) (by omega)⟩
    go_wp2
    refine bodyPost_ret (v := .agg #[.bool y1.g, .slice y1.a y1.n y1.c, .bool false, .slice za zn zc]) (by simp [results, Tryz.results119, go_sem, k2_0, k2_1, k2_2, k2_3]) rfl ?_
    exact outQv_fin (q := ⟨y1, ⟨false, za, zn, zc⟩⟩) (R := w.heap.size + 1 + 1) (by omega) (unhide HB) (metQ_but (w5 := w5) (v := ⟨y1, ⟨false, za, zn, zc⟩⟩) (G := w.heap.size + 1 + 1)) (unhide P3).1 (unhide P3).2
end Go.Proofs.YthmpikagenodjaaGreat
