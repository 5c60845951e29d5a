/- withSign and l1Make by value, with the blocks in which the limbs lie. No condition beyond those typed. -/
import Derived.Test.YtdgonpbponnnaaaGreatDoorBI
import Derived.Test.YtdgonpbponnnaaaGreatDoorVarQ
namespace Go.Proofs.YtdgonpbponnnaaaGreatDoor
open Go.RowKit
set_option linter.unusedVariables false
set_option maxRecDepth 100000
set_option linter.unusedSimpArgs false

theorem Own2.take {lo hi : Nat} {w : World} {a : Option Addr} {zs : List Int} (h : Own2 lo hi w a zs) (k : Nat) : Own2 lo hi w a (zs.take k) := by
  rcases h with rfl | ⟨b, cur, rfl, h1, h2, hg, hc⟩
  · exact .inl (by simp)
  · refine .inr ⟨b, cur, rfl, h1, h2, hg, fun i hi => ?_⟩
    rw [List.length_take] at hi
    rw [hc i (by omega)]
    simp only [List.getD_eq_getElem?_getD, List.getElem?_take]
    rw [if_pos (by omega)]
theorem trim_any2 (a : Option Addr) (n c : Nat) (xs : List Int) (w : World) (hx : Arg w a n c xs) :
    Calls Tryz.prog 98 #[.slice a n c] w fun e w' => ∃ a' n' c', e = .returned (.slice a' n' c') ∧ w' = w ∧ (∀ wx, Arg wx a n c xs → Arg wx a' n' c' (trim xs)) ∧ (∀ lo hi wx, Own2 lo hi wx a xs → Own2 lo hi wx a' (trim xs)) := by
  obtain ⟨hs, hn, hnc, hcm, had⟩ := hx
  by_cases h0 : n = 0
  · subst h0
    obtain rfl : xs = [] := List.length_eq_zero_iff.1 hn
    refine (trim_nil_any a c w).mono ?_
    rintro e w' ⟨rfl, rfl⟩
    exact ⟨none, 0, 0, rfl, rfl, fun _ _ => Arg.none _, fun _ _ _ _ => .inl rfl⟩
  · rcases hs with rfl | ⟨b, off, rfl, hb, hc⟩
    · simp at hn; omega
    · refine (trim_cons b off n c xs w hn (by omega) (by omega) hnc hcm hb (by rw [← hn]; exact hc)).mono ?_
      rintro e w' ⟨⟨k, h1, h2, rfl⟩, rfl⟩
      have hl := trim_len xs
      by_cases hk : k = 0
      · have e : trim xs = [] := List.length_eq_zero_iff.1 (by omega)
        rw [if_pos hk, e]
        exact ⟨none, 0, 0, rfl, rfl, fun _ _ => Arg.none _, fun _ _ _ _ => .inl rfl⟩
      · rw [if_neg hk]
        refine ⟨_, _, _, rfl, rfl, fun wx hwx => ⟨?_, h2.symm, Nat.le_refl _, by omega, .inr ⟨_, _, rfl⟩⟩, fun lo hi wx ho => ?_⟩
        · rw [h1]; exact hwx.sl.take k
        · rw [h1]; exact ho.take k

set_option maxHeartbeats 1000000 in
theorem sign_any2 (g : Bool) (a : Option Addr) (n c : Nat) (xs : List Int) (w : World) (hx : Arg w a n c xs) :
    Calls Tryz.prog 83 #[.bool g, .slice a n c] w fun e w' => ∃ a' n' c', e = .returned (.agg #[.bool (sgn g (trim xs)), .slice a' n' c']) ∧ Below w.heap.size w w' ∧ Arg w' a' n' c' (trim xs) ∧ (∀ lo hi, Own2 lo hi w a xs → Own2 lo hi w' a' (trim xs)) := by
  have HX := hide hx
  clear hx
  go_enter Tryz.func83, Tryz.ntmps83
  go_wp2_with fail
  have HB := hide (show ∀ o, Below w.heap.size w (w.alloc o) from fun o => (Below.refl _ _).alloc (Nat.le_refl _) _)
  refine (trim_any2 a n c xs _ ((unhide HX).later (unhide HB _))).mono ?_
  rintro e w1 ⟨a', k, c', rfl, rfl, harg, hown⟩
  have hk := hide (harg _ ((unhide HX).later (unhide HB (.cells #[] 0)))).len
  have fin : Hid (∀ o, Below w.heap.size w (w.alloc o) ∧ Arg (w.alloc o) a' k c' (trim xs) ∧ ∀ lo hi, Own2 lo hi w a xs → Own2 lo hi (w.alloc o) a' (trim xs)) :=
    hide (fun o => ⟨unhide HB o, harg _ ((unhide HX).later (unhide HB o)), fun lo hi ho => hown lo hi _ (ho.later (unhide HB o))⟩)
  clear harg hown
  cases g
  · go_wp2
    refine bodyPost_ret (v := .agg #[.bool false, .slice a' k c']) (by simp [results, Tryz.results83, go_sem]) rfl ⟨a', k, c', rfl, ?_⟩
    exact unhide fin _
  · by_cases h0 : k = 0
    · subst h0
      go_wp2
      refine bodyPost_ret (v := .agg #[.bool false, .slice a' 0 c']) (by simp [results, Tryz.results83, go_sem]) rfl ⟨a', 0, c', ?_, ?_⟩
      · rw [List.length_eq_zero_iff.1 (unhide hk), sgn_nil]
      · exact unhide fin _
    · have hp : 0 < k := by omega
      go_wp2
      refine bodyPost_ret (v := .agg #[.bool true, .slice a' k c']) (by simp [results, Tryz.results83, go_sem, hp]) rfl ⟨a', k, c', ?_, ?_⟩
      · rw [sgn_cons (by rw [unhide hk]; exact hp)]
      · exact unhide fin _

/-- The number with a sign: g and U. -/
def sU (g : Bool) (U : Int) : Int := if g then -U else U
theorem sU_abs {g : Bool} {U : Int} (h : 0 ≤ U) : ((sU g U).natAbs : Int) = U := natAbs_sign h rfl
theorem signI_v (g : Bool) (a : Option Addr) (n c : Nat) (zs : List Int) (w : World) (lo hi : Nat) (U : Int) (ha : Arg w a n c zs) (ho : Own2 lo hi w a zs) (hk : Nm zs U) :
    Calls Tryz.prog 83 #[.bool g, .slice a n c] w fun e w' => ∃ b : BV, e = .returned (.agg #[.bool b.g, .slice b.a b.n b.c]) ∧ Below w.heap.size w w' ∧ AllOwn lo hi w' [(b, ⟨decide (sU g U < 0), zs⟩)] ∧ AllAr w' [(b, ⟨decide (sU g U < 0), zs⟩)] := by
  refine (sign_any2 g a n c zs w ha).mono ?_
  rintro e w' ⟨a2, n2, c2, rfl, hb2, ha2, ho2⟩
  have hg : sgn g (trim zs) = decide (sU g U < 0) := by rw [sgn_val (U := U) (by rw [hk.tr]; exact hk)]; rfl
  rw [hk.tr] at ha2
  have ho3 := ho2 lo hi ho
  rw [hk.tr] at ho3
  exact ⟨⟨sgn g (trim zs), a2, n2, c2⟩, rfl, hb2, AllOwn.one ⟨hg, ho3, ha2.len⟩, AllAr.cons ⟨hg, ha2⟩ (AllAr.nil _)⟩
theorem makeS_v (g : Bool) (a : Option Addr) (n c : Nat) (zs : List Int) (w : World) (U : Int) (ha : Arg w a n c zs) (hk : Nm zs U) (h1 : n ≤ 1048576) :
    Calls Tryz.prog 67 #[.bool g, .slice a n c] w fun e w' => ∃ b : BV, e = .returned (.agg #[.bool b.g, .slice b.a b.n b.c]) ∧ Below w.heap.size w w' ∧ AllOwn w.heap.size w'.heap.size w' [(b, ⟨decide (sU g U < 0), zs⟩)] ∧ AllAr w' [(b, ⟨decide (sU g U < 0), zs⟩)] := by
  refine (make_any g a n c zs w ha h1).mono ?_
  rintro e w' ⟨a2, n2, c2, rfl, hb2, ho2, ha2⟩
  have hg : sgn g (trim zs) = decide (sU g U < 0) := by rw [sgn_val (U := U) (by rw [hk.tr]; exact hk)]; rfl
  rw [hk.tr] at ha2 ho2
  exact ⟨⟨sgn g (trim zs), a2, n2, c2⟩, rfl, hb2, AllOwn.one ⟨hg, ho2.two, ha2.len⟩, AllAr.cons ⟨hg, ha2⟩ (AllAr.nil _)⟩

/-- Fractions by value. -/
def IsQ (w : World) (q : QV) (N D : Int) : Prop := IsB w q.num N ∧ IsB w q.den D
theorem IsQ.later {w w' : World} {q : QV} {N D : Int} (h : IsQ w q N D) (hb : Below w.heap.size w w') : IsQ w' q N D := ⟨h.1.later hb, h.2.later hb⟩
theorem IsQ.drew {w : World} {q : QV} {N D : Int} (h : IsQ w q N D) : IsQ w.drew q N D := h.later (Below.refl _ _).drew
def QD.of (N D : Int) (xs us : List Int) : QD := ⟨⟨decide (N < 0), xs⟩, ⟨decide (D < 0), us⟩⟩
/-- A call answers the fraction N / D in memory of its own. -/
def OutQ (w : World) (N D : Int) (e : Ending) (w' : World) : Prop :=
  ∃ (q : QV) (xs us : List Int), e = .returned (.agg #[.bool q.num.g, .slice q.num.a q.num.n q.num.c, .bool q.den.g, .slice q.den.a q.den.n q.den.c]) ∧ Below w.heap.size w w' ∧
    AllOwn w.heap.size w'.heap.size w' [(q.num, ⟨decide (N < 0), xs⟩), (q.den, ⟨decide (D < 0), us⟩)] ∧ AllAr w' [(q.num, ⟨decide (N < 0), xs⟩), (q.den, ⟨decide (D < 0), us⟩)] ∧ Nm xs N.natAbs ∧ Nm us D.natAbs
/-- b is the number V, its limbs at blocks from lo to below hi. -/
def Ow (lo hi : Nat) (w : World) (b : BV) (V : Int) : Prop := ∃ xs, AllOwn lo hi w [(b, ⟨decide (V < 0), xs⟩)] ∧ AllAr w [(b, ⟨decide (V < 0), xs⟩)] ∧ Nm xs V.natAbs
theorem Ow.later {lo hi : Nat} {w w' : World} {b : BV} {V : Int} (h : Ow lo hi w b V) (hb : Below w.heap.size w w') : Ow lo hi w' b V := by
  obtain ⟨xs, h1, h2, h3⟩ := h
  exact ⟨xs, h1.later hb, h2.later hb, h3⟩
theorem Ow.is {lo hi : Nat} {w : World} {b : BV} {V : Int} (h : Ow lo hi w b V) : IsB w b V := by
  obtain ⟨xs, h1, h2, h3⟩ := h
  exact ⟨xs, h2.head, h3⟩
theorem Ow.wide {lo hi lo' hi' : Nat} {w : World} {b : BV} {V : Int} (h : Ow lo hi w b V) (h1 : lo' ≤ lo) (h2 : hi ≤ hi') : Ow lo' hi' w b V := by
  obtain ⟨xs, k1, k2, k3⟩ := h
  exact ⟨xs, k1.wide h1 h2, k2, k3⟩
theorem Ow.but {lo hi lo' hi' : Nat} {w w' : World} {b : BV} {V : Int} (h : Ow lo hi w b V) (bt : But lo' hi' w w') (hd : hi ≤ lo' ∨ hi' ≤ lo) : Ow lo hi w' b V := by
  obtain ⟨xs, k1, k2, k3⟩ := h
  have o := k1.but bt hd
  exact ⟨xs, o, fun p hp => ⟨(k2 p hp).sg, ⟨(o.sl p hp).sl, (k2 p hp).ar.len, (k2 p hp).ar.cap, (k2 p hp).ar.top, (k2 p hp).ar.addr⟩⟩, k3⟩
theorem Ow.two {lo mid hi : Nat} {w : World} {b b' : BV} {V V' : Int} (h : Ow lo mid w b V) (k : Ow mid hi w b' V') (h1 : lo ≤ mid) (h2 : mid ≤ hi) :
    ∃ xs us, AllOwn lo hi w [(b, ⟨decide (V < 0), xs⟩), (b', ⟨decide (V' < 0), us⟩)] ∧ AllAr w [(b, ⟨decide (V < 0), xs⟩), (b', ⟨decide (V' < 0), us⟩)] ∧ Nm xs V.natAbs ∧ Nm us V'.natAbs := by
  obtain ⟨xs, k1, k2, k3⟩ := h
  obtain ⟨us, m1, m2, m3⟩ := k
  exact ⟨xs, us, k1.join m1 h1 h2, k2.append m2, k3, m3⟩
/-- A call answers what reads as the fraction N / D, in memory of its own (Num and Den may share it). -/
def OutQv (w : World) (N D : Int) (e : Ending) (w' : World) : Prop :=
  ∃ q : QV, e = .returned (.agg #[.bool q.num.g, .slice q.num.a q.num.n q.num.c, .bool q.den.g, .slice q.den.a q.den.n q.den.c]) ∧ Below w.heap.size w w' ∧ Ow w.heap.size w'.heap.size w' q.num N ∧ Ow w.heap.size w'.heap.size w' q.den D
theorem isQ_of {w : World} {q : QV} {N D : Int} {xs us : List Int} (h : AllAr w [(q.num, ⟨decide (N < 0), xs⟩), (q.den, ⟨decide (D < 0), us⟩)]) (h1 : Nm xs N.natAbs) (h2 : Nm us D.natAbs) : IsQ w q N D :=
  ⟨⟨xs, h.head, h1⟩, ⟨us, h.tail.head, h2⟩⟩
theorem OutQ.toV {w : World} {N D : Int} (e : Ending) (w' : World) (h : OutQ w N D e w') : OutQv w N D e w' := by
  obtain ⟨q, xs, us, rfl, hb, ho, ha, h1, h2⟩ := h
  exact ⟨q, rfl, hb, ⟨xs, ⟨fun p hp => ho.own p (by simp at hp ⊢; exact .inl hp), List.pairwise_singleton _ _⟩, fun p hp => ha p (by simp at hp ⊢; exact .inl hp), h1⟩, ⟨us, ⟨fun p hp => ho.own p (by simp at hp ⊢; exact .inr hp), List.pairwise_singleton _ _⟩, fun p hp => ha p (by simp at hp ⊢; exact .inr hp), h2⟩⟩
theorem outN_ow {w' : World} {b : BV} {V : Int} {xs : List Int} {lo hi : Nat} (ho : AllOwn lo hi w' [(b, ⟨decide (V < 0), xs⟩)]) (ha : AllAr w' [(b, ⟨decide (V < 0), xs⟩)]) (hn : Nm xs V.natAbs) : Ow lo hi w' b V := ⟨xs, ho, ha, hn⟩
/-- What a call's own box is written with at the end turns nothing else. -/
theorem own_fin {lo hi R : Nat} {wN W : World} {l : List (BV × BD)} (bt : But R (R + 1) wN W) (ho : AllOwn lo hi wN l) (hR : R + 1 ≤ lo) : AllOwn lo hi W l := ho.but bt (.inr hR)
theorem ar_fin {lo hi R : Nat} {wN W : World} {l : List (BV × BD)} (bt : But R (R + 1) wN W) (ho : AllOwn lo hi wN l) (ha : AllAr wN l) (hR : R + 1 ≤ lo) : AllAr W l := fun p hp =>
  ⟨(ha p hp).sg, ⟨((own_fin bt ho hR).sl p hp).sl, (ha p hp).ar.len, (ha p hp).ar.cap, (ha p hp).ar.top, (ha p hp).ar.addr⟩⟩
theorem outQ_fin {w wN W : World} {R : Nat} {q : QV} {xs us : List Int} {N D : Int} (hR : w.heap.size ≤ R) (hb : Below w.heap.size w wN) (bt : But R (R + 1) wN W)
    (ho : AllOwn (R + 1) wN.heap.size wN [(q.num, ⟨decide (N < 0), xs⟩), (q.den, ⟨decide (D < 0), us⟩)]) (ha : AllAr wN [(q.num, ⟨decide (N < 0), xs⟩), (q.den, ⟨decide (D < 0), us⟩)]) (h1 : Nm xs N.natAbs) (h2 : Nm us D.natAbs) :
    OutQ w N D (.returned (.agg #[.bool q.num.g, .slice q.num.a q.num.n q.num.c, .bool q.den.g, .slice q.den.a q.den.n q.den.c])) W :=
  ⟨q, xs, us, rfl, bt.below hb hR hb.size, (own_fin bt ho (Nat.le_refl _)).wide (by omega) bt.size, ar_fin bt ho ha (Nat.le_refl _), h1, h2⟩

/-- In lowest terms. -/
def lowU (N D : Int) : Int := (N.natAbs : Int) / (Nat.gcd N.natAbs D.natAbs : Int)
def lowN (N D : Int) : Int := sU (!(decide (N < 0) == decide (D < 0))) (lowU N D)
def lowD (N D : Int) : Int := (D.natAbs : Int) / (Nat.gcd N.natAbs D.natAbs : Int)
theorem lowU_nonneg (N D : Int) : 0 ≤ lowU N D := Int.ediv_nonneg (by omega) (by omega)
theorem lowD_nonneg (N D : Int) : 0 ≤ lowD N D := Int.ediv_nonneg (by omega) (by omega)
theorem lowN_abs (N D : Int) : ((lowN N D).natAbs : Int) = lowU N D := sU_abs (lowU_nonneg N D)
theorem lowD_abs (N D : Int) : ((lowD N D).natAbs : Int) = lowD N D := by have := lowD_nonneg N D; omega
theorem lowU_le (N D : Int) : lowU N D ≤ N.natAbs := Int.ediv_le_self _ (by omega)
theorem lowD_le (N D : Int) : lowD N D ≤ D.natAbs := Int.ediv_le_self _ (by omega)
theorem lowN_bd {N D : Int} {L : Nat} (h : Bd N L) : Bd (lowN N D) L := h.le (by have := lowN_abs N D; have := lowU_le N D; omega)
theorem lowD_bd {N D : Int} {L : Nat} (h : Bd D L) : Bd (lowD N D) L := h.le (by have := lowD_abs N D; have := lowD_le N D; omega)
theorem gcd_pos_right {N D : Int} (h : D ≠ 0) : 0 < Nat.gcd N.natAbs D.natAbs := Nat.gcd_pos_of_pos_right _ (by omega)
theorem lowD_pos {N D : Int} (h : D ≠ 0) : 0 < lowD N D := by
  have hg := gcd_pos_right (N := N) h
  have hd : Nat.gcd N.natAbs D.natAbs ≤ D.natAbs := Nat.le_of_dvd (by omega) (Nat.gcd_dvd_right _ _)
  have : 1 ≤ (D.natAbs : Int) / (Nat.gcd N.natAbs D.natAbs : Int) := Int.le_ediv_of_mul_le (by omega) (by omega)
  unfold lowD; omega
end Go.Proofs.YtdgonpbponnnaaaGreatDoor
