/- DrawSees and sameInts by value. No condition beyond those typed. Written by mkds11.py. -/
import Derived.Test.YtblhjeepelgdaaaPkZ12
import Derived.Test.YtblhjeepelgdaaaDr8
import Derived.Test.YtblhjeepelgdaaaPkE12
namespace Go.Proofs.Ytblhjeepelgdaaa
open Go.RowKit
set_option linter.unusedVariables false
set_option maxRecDepth 100000
set_option linter.unusedSimpArgs false

theorem gmul_bd {u v : Int} (h1 : -1000 ≤ u) (h2 : u ≤ 1000) (h3 : -1000 ≤ v) (h4 : v ≤ 1000) : -1000000 ≤ u * v ∧ u * v ≤ 1000000 := by
  have h := Nat.mul_le_mul (show u.natAbs ≤ 1000 by omega) (show v.natAbs ≤ 1000 by omega)
  rw [← Int.natAbs_mul] at h
  omega
theorem gcr_bd {p q : Int × Int} (hp : gPt p = true) (hq : gPt q = true) : -2000000 ≤ p.1 * q.2 - q.1 * p.2 ∧ p.1 * q.2 - q.1 * p.2 ≤ 2000000 := by
  simp [gPt, inR] at hp hq
  have m1 := @gmul_bd p.1 q.2 (by omega) (by omega) (by omega) (by omega)
  have m2 := @gmul_bd q.1 p.2 (by omega) (by omega) (by omega) (by omega)
  omega
theorem garS_bd {l : List (Int × Int)} (h : ∀ p ∈ l, gPt p = true) : ∀ k, k ≤ l.length → -((k : Int) * 2000000) ≤ arS l k ∧ arS l k ≤ (k : Int) * 2000000
  | 0, _ => by simp [arS]
  | k + 1, hk => by
    have ih := garS_bd h k (by omega)
    have b := gcr_bd (h (l.getD k (0, 0)) (by rw [getD_gt (by omega)]; exact List.getElem_mem _)) (h _ (nxt_mem (by omega) k))
    unfold arS
    omega
theorem way_good {l : List (Int × Int)} (h : wayB l = true) : ∀ p ∈ l, gPt p = true := by
  unfold wayB at h
  exact List.all_eq_true.1 ((Bool.and_eq_true _ _).mp h).2
/-- How many points of the grid lie within, as told. -/
noncomputable def ipV (l : List (Int × Int)) : Int := if ipB l then (((arS l l.length).natAbs : Int) - boS l l.length + 2).tdiv 2 else 0
noncomputable def isV (l : List (Int × Int)) : Bool := if wayB l then siI l else false
set_option maxHeartbeats 2000000 in
theorem IsSimpleS (a : Option Addr) (n c : Nat) (l : List (Int × Int)) (w : World) (h : ArP w a n c l) (h1 : n ≤ 1048576) :
    Calls Try.prog 106 #[.slice a n c] w fun e w' => e = .returned (.tuple #[.bool (isV l), .bool (wayB l)]) ∧ Below w.heap.size w w' := by
  have hn := h.len
  have C1 := hide (fun w (k : SlP w a l) => wayS a n c l w k hn (by unfold maxLen; omega))
  have HS := hide h.sl
  cases hg : wayB l
  · rw [hg] at C1
    have EV : isV l = false := by unfold isV; rw [hg]; rfl
    rw [EV]
    clear hg h hn EV
    go_enter Try.func106, Try.ntmps106
    go_wp2_with fail
    refine (unhide C1 _ (unhide HS)).mono ?_
    rintro e w1 ⟨rfl, hb⟩
    go_wp2_with fail
    go_ret2
    exact ⟨rfl, hb⟩
  · rw [hg] at C1
    have wp := way_parts hg
    have C2 := hide (fun w (k : SlP w a l) => simpleS a n c l w k hn (by have := wp.1; rw [hn] at this; omega) (by have := wp.1; rw [hn] at this; omega) wp.2)
    rw [si_eq wp.1.1] at C2
    have EV : isV l = siI l := by unfold isV; rw [hg]; rfl
    rw [EV]
    clear hg h hn wp EV
    generalize siI l = k at *
    go_enter Try.func106, Try.ntmps106
    go_wp2_with fail
    refine (unhide C1 _ (unhide HS)).mono ?_
    rintro e w1 ⟨rfl, hb⟩
    have HS1 := hide ((unhide HS).later hb)
    have HB := hide hb
    clear hb
    go_wp2_with fail
    refine (unhide C2 _ (unhide HS1)).mono ?_
    rintro e w2 ⟨rfl, hb⟩
    replace HB := hide (below_on (unhide HB) hb)
    clear hb
    go_wp2_with fail
    go_ret2
    exact ⟨rfl, unhide HB⟩
set_option maxHeartbeats 2000000 in
theorem InnerPointsS (a : Option Addr) (n c : Nat) (l : List (Int × Int)) (w : World) (h : ArP w a n c l) (h1 : n ≤ 1048576) :
    Calls Try.prog 43 #[.slice a n c] w fun e w' => e = .returned (.tuple #[.int .i64 (ipV l), .bool (ipB l)]) ∧ Below w.heap.size w w' := by
  have hn := h.len
  have C1 := hide (fun w (k : SlP w a l) => wayS a n c l w k hn (by unfold maxLen; omega))
  have HS := hide h.sl
  cases hg : wayB l
  · rw [hg] at C1
    have EB : ipB l = false := by unfold ipB; rw [hg]; rfl
    have EV : ipV l = 0 := by unfold ipV; rw [EB]; rfl
    rw [EV, EB]
    clear hg h hn EV EB
    go_enter Try.func43, Try.ntmps43
    go_wp2_with fail
    refine (unhide C1 _ (unhide HS)).mono ?_
    rintro e w1 ⟨rfl, hb⟩
    go_wp2_with fail
    go_ret2
    exact ⟨rfl, hb⟩
  · rw [hg] at C1
    have wp := way_parts hg
    have C2 := hide (fun w (k : SlP w a l) => simpleS a n c l w k hn (by have := wp.1; rw [hn] at this; omega) (by have := wp.1; rw [hn] at this; omega) wp.2)
    rw [si_eq wp.1.1] at C2
    cases hs : siI l
    · rw [hs] at C2
      have EB : ipB l = false := by unfold ipB; rw [hg, hs]; rfl
      have EV : ipV l = 0 := by unfold ipV; rw [EB]; rfl
      rw [EV, EB]
      clear hg h hn EV EB wp hs
      go_enter Try.func43, Try.ntmps43
      go_wp2_with fail
      refine (unhide C1 _ (unhide HS)).mono ?_
      rintro e w1 ⟨rfl, hb⟩
      have HS1 := hide ((unhide HS).later hb)
      have HB := hide hb
      clear hb
      go_wp2_with fail
      refine (unhide C2 _ (unhide HS1)).mono ?_
      rintro e w2 ⟨rfl, hb⟩
      replace HB := hide (below_on (unhide HB) hb)
      clear hb
      go_wp2_with fail
      go_ret2
      exact ⟨rfl, unhide HB⟩
    · rw [hs] at C2
      have EB : ipB l = true := by unfold ipB; rw [hg, hs]; rfl
      have EV : ipV l = (((arS l l.length).natAbs : Int) - boS l l.length + 2).tdiv 2 := by unfold ipV; rw [EB]; rfl
      have ba := garS_bd (way_good hg) l.length (Nat.le_refl _)
      have bb := boS_bd wp.2 l.length (Nat.le_refl _)
      have l12 := wp.1
      have CA := hide (fun w (k : SlP w a l) => areaS a n c l w k hn (by have := wp.1; rw [hn] at this; omega) wp.2)
      have CB := hide (fun w (k : SlP w a l) => borderS a n c l w k hn (by have := wp.1; rw [hn] at this; omega) wp.2)
      have CF := hide (fun w => absS8 (arS l l.length) w (by omega) (by omega))
      rw [EV, EB]
      clear hg h hn EV EB wp hs
      generalize arS l l.length = A at *
      generalize boS l l.length = Bo at *
      obtain ⟨N, hN⟩ : ∃ N : Nat, N = A.natAbs := ⟨_, rfl⟩
      rw [← hN] at CF ⊢
      have w1 : IntKind.i64.wrap ((N : Int) - Bo) = (N : Int) - Bo := by rw [IntKind.wrap_i64]; omega
      have w2 : IntKind.i64.wrap ((N : Int) - Bo + 2) = (N : Int) - Bo + 2 := by rw [IntKind.wrap_i64]; omega
      have tq : -100000000 ≤ ((N : Int) - Bo + 2).tdiv 2 ∧ ((N : Int) - Bo + 2).tdiv 2 ≤ 100000000 := by
        have h1 : -100000000 ≤ (N : Int) - Bo + 2 := by omega
        have h2 : (N : Int) - Bo + 2 ≤ 100000000 := by omega
        generalize (N : Int) - Bo + 2 = z at *
        rcases Int.le_total 0 z with hz | hz
        · rw [Int.tdiv_eq_ediv_of_nonneg hz]; omega
        · have : z.tdiv 2 = -((-z).tdiv 2) := by rw [Int.neg_tdiv, Int.neg_neg]
          rw [this, Int.tdiv_eq_ediv_of_nonneg (by omega)]; omega
      have w3 : IntKind.i64.wrap (((N : Int) - Bo + 2).tdiv 2) = ((N : Int) - Bo + 2).tdiv 2 := by rw [IntKind.wrap_i64]; omega
      clear ba bb hN l12 tq
      go_enter Try.func43, Try.ntmps43
      go_wp2_with fail
      refine (unhide C1 _ (unhide HS)).mono ?_
      rintro e w1' ⟨rfl, hb⟩
      have HS1 := hide ((unhide HS).later hb)
      have HB := hide hb
      clear hb
      go_wp2_with fail
      refine (unhide C2 _ (unhide HS1)).mono ?_
      rintro e w2' ⟨rfl, hb⟩
      replace HS1 := hide ((unhide HS1).later hb)
      replace HB := hide (below_on (unhide HB) hb)
      clear hb
      go_wp2_with fail
      refine (unhide CA _ (unhide HS1)).mono ?_
      rintro e w3' ⟨rfl, hb⟩
      replace HS1 := hide ((unhide HS1).later hb)
      replace HB := hide (below_on (unhide HB) hb)
      clear hb
      go_wp2_with fail
      refine (unhide CF _).mono ?_
      rintro e w4' ⟨rfl, rfl⟩
      go_wp2_with fail
      refine (unhide CB _ (unhide HS1)).mono ?_
      rintro e w5' ⟨rfl, hb⟩
      replace HB := hide (below_on (unhide HB) hb)
      clear hb
      go_wp2_with fail
      go_ret2
      exact ⟨rfl, unhide HB⟩
set_option maxHeartbeats 2000000 in
theorem InnerPointsI (a : Option Addr) (n c : Nat) (l : List (Int × Int)) (w : World) (h : ArP w a n c l) (h1 : n ≤ 1048576) :
    Calls Try.prog 44 #[.slice a n c] w fun e w' => e = .returned (.tuple #[.int .i64 (ipV l), .bool (ipB l)]) ∧ Below w.heap.size w w' := by
  have hn := h.len
  have C1 := hide (fun w (k : SlP w a l) => gswI a n c l w k hn (by omega))
  have HS := hide h.sl
  cases hp : ipB l
  · rw [hp] at C1
    have EB := hp
    have EV : ipV l = 0 := by unfold ipV; rw [EB]; rfl
    rw [EV]
    clear hp h hn EV EB
    go_enter Try.func44, Try.ntmps44
    go_wp2_with fail
    refine (unhide C1 _ (unhide HS)).mono ?_
    rintro e w1 ⟨rfl, hb⟩
    go_wp2_with fail
    go_ret2
    exact ⟨rfl, hb⟩
  · rw [hp] at C1
    have hg := (ip_parts hp).1
    have wp := way_parts hg
    · have EB := hp
      have EV : ipV l = (((arS l l.length).natAbs : Int) - boS l l.length + 2).tdiv 2 := by unfold ipV; rw [EB]; rfl
      have ba := garS_bd (way_good hg) l.length (Nat.le_refl _)
      have bb := boS_bd wp.2 l.length (Nat.le_refl _)
      have l12 := wp.1
      have CA := hide (fun w (k : SlP w a l) => areaI a n c l w k hn (by have := wp.1; rw [hn] at this; omega) (by have := wp.1; rw [hn] at this; omega) wp.2)
      have CB := hide (fun w (k : SlP w a l) => borderI a n c l w k hn (by have := wp.1; rw [hn] at this; omega) (by have := wp.1; rw [hn] at this; omega) wp.2)
      have CF := hide (fun w => farI (arS l l.length) w (by omega) (by omega))
      rw [EV]
      clear hg h hn EV EB wp hp
      generalize arS l l.length = A at *
      generalize boS l l.length = Bo at *
      obtain ⟨N, hN⟩ : ∃ N : Nat, N = A.natAbs := ⟨_, rfl⟩
      rw [← hN] at CF ⊢
      have w1 : IntKind.i64.wrap ((N : Int) - Bo) = (N : Int) - Bo := by rw [IntKind.wrap_i64]; omega
      have w2 : IntKind.i64.wrap ((N : Int) - Bo + 2) = (N : Int) - Bo + 2 := by rw [IntKind.wrap_i64]; omega
      have tq : -100000000 ≤ ((N : Int) - Bo + 2).tdiv 2 ∧ ((N : Int) - Bo + 2).tdiv 2 ≤ 100000000 := by
        have h1 : -100000000 ≤ (N : Int) - Bo + 2 := by omega
        have h2 : (N : Int) - Bo + 2 ≤ 100000000 := by omega
        generalize (N : Int) - Bo + 2 = z at *
        rcases Int.le_total 0 z with hz | hz
        · rw [Int.tdiv_eq_ediv_of_nonneg hz]; omega
        · have : z.tdiv 2 = -((-z).tdiv 2) := by rw [Int.neg_tdiv, Int.neg_neg]
          rw [this, Int.tdiv_eq_ediv_of_nonneg (by omega)]; omega
      have w3 : IntKind.i64.wrap (((N : Int) - Bo + 2).tdiv 2) = ((N : Int) - Bo + 2).tdiv 2 := by rw [IntKind.wrap_i64]; omega
      clear ba bb hN l12 tq
      go_enter Try.func44, Try.ntmps44
      go_wp2_with fail
      refine (unhide C1 _ (unhide HS)).mono ?_
      rintro e w1' ⟨rfl, hb⟩
      have HS1 := hide ((unhide HS).later hb)
      have HB := hide hb
      clear hb
      go_wp2_with fail
      refine (unhide CA _ (unhide HS1)).mono ?_
      rintro e w3' ⟨rfl, hb⟩
      replace HS1 := hide ((unhide HS1).later hb)
      replace HB := hide (below_on (unhide HB) hb)
      clear hb
      go_wp2_with fail
      refine (unhide CF _).mono ?_
      rintro e w4' ⟨rfl, rfl⟩
      go_wp2_with fail
      refine (unhide CB _ (unhide HS1)).mono ?_
      rintro e w5' ⟨rfl, hb⟩
      replace HB := hide (below_on (unhide HB) hb)
      clear hb
      go_wp2_with fail
      go_ret2
      exact ⟨rfl, unhide HB⟩
end Go.Proofs.Ytblhjeepelgdaaa
namespace Go.Proofs.Ytblhjeepelgdaaa
open Go.RowKit
set_option linter.unusedVariables false
set_option maxRecDepth 100000
set_option linter.unusedSimpArgs false

def OutSM (w : World) (e : Ending) (w' : World) : Prop := ∃ p q r s : Int × Int, e = .returned (.tuple #[.agg #[.int .i64 p.1, .int .i64 p.2], .agg #[.int .i64 q.1, .int .i64 q.2], .agg #[.int .i64 r.1, .int .i64 r.2], .agg #[.int .i64 s.1, .int .i64 s.2]]) ∧ (Near p ∧ Near q ∧ Near r ∧ Near s) ∧ Below w.heap.size w w'
def OutGI (w : World) (e : Ending) (w' : World) : Prop := ∃ x y : Int, e = .returned (.tuple #[.int .i64 x, .int .i64 y]) ∧ (-100000 ≤ x ∧ x ≤ 100000 ∧ -100000 ≤ y ∧ y ≤ 100000) ∧ Below w.heap.size w w'
theorem ints_at (w : World) (zs : List Int) : ∀ i, i < zs.length → (w.alloc (.cells (zs.map (Value.int .i64)).toArray 3)).cell? ⟨w.heap.size, 0 + i, none⟩ = some (.int .i64 (zs.getD i 0)) := by
  intro i hi
  rw [Nat.zero_add, List.getD_eq_getElem?_getD, List.getElem?_eq_getElem hi]
  simp [go_sem, hi]
def OutWP (w : World) (e : Ending) (w' : World) : Prop := ∃ (a : Option Addr) (n c : Nat) (l : List (Int × Int)) (q : Int × Int), e = .returned (.tuple #[.slice a n c, .agg #[.int .i64 q.1, .int .i64 q.2]]) ∧ ArP w' a n c l ∧ (∀ p ∈ l, Near p) ∧ n ≤ 20 ∧ Near q ∧ Below w.heap.size w w'
def OutWy (w : World) (e : Ending) (w' : World) : Prop := ∃ (a : Option Addr) (n c : Nat) (l : List (Int × Int)), e = .returned (.slice a n c) ∧ ArP w' a n c l ∧ (∀ p ∈ l, Near p) ∧ n ≤ 20 ∧ Below w.heap.size w w'
theorem ar_but8 {w w' : World} {C n c : Nat} {a : Option Addr} {l : List (Int × Int)} (h : ArP w a n c l) (hb : But C (C + 1) w w') (hG : ∃ G, a = some ⟨G, 0, none⟩ ∧ C < G) : ArP w' a n c l := by
  refine ⟨?_, h.len, h.cap, h.top⟩
  obtain ⟨G, rfl, hC⟩ := hG
  rcases h.sl with h | ⟨b, off, e, h1, h2⟩
  · exact .inl h
  · simp only [Option.some.injEq, Addr.mk.injEq, and_true] at e
    obtain ⟨rfl, rfl⟩ := e
    exact .inr ⟨G, 0, rfl, Nat.lt_of_lt_of_le h1 hb.size, fun i hi => ⟨hb.cell (h2 i hi).1 (.inr (by omega)), hb.cell (h2 i hi).2 (.inr (by omega))⟩⟩
end Go.Proofs.Ytblhjeepelgdaaa
namespace Go.Proofs.Ytblhjeepelgdaaa
open Go.RowKit
set_option linter.unusedVariables false
set_option maxRecDepth 100000
set_option linter.unusedSimpArgs false

def SmD (C : Nat) (w : World) (e : Ending) (w' : World) : Prop := ∃ (a : Option Addr) (n c : Nat) (l : List (Int × Int)), e = .returned (.slice a n c) ∧ ArP w' a n c l ∧ n ≤ 1000 ∧ But C (C + 1) w w'
def OutS11 (w : World) (e : Ending) (w' : World) : Prop := ∃ (a : Option Addr) (n c : Nat) (l : List (Int × Int)), e = .returned (.slice a n c) ∧ ArP w' a n c l ∧ n ≤ 1000 ∧ Below w.heap.size w w'
theorem isV_way {l : List (Int × Int)} (h : isV l = true) : wayB l = true := by
  unfold isV at h
  split at h
  · assumption
  · cases h
theorem tv_some {l : List (Int × Int)} (h : wayB l = true) : (tvV l).length = l.length ∧ 0 < l.length := by
  have := (way_parts h).1.1
  unfold tvV
  rw [h]
  simp only [if_true]
  rw [tvN_len]
  omega
set_option maxHeartbeats 8000000 in
theorem simple_v (C T : Nat) (w : World) (h : Cur C T w) (hT : T ≤ 100000) :
    Calls Try.prog 86 #[.pointer (some ⟨C, 0, none⟩)] w (SmD C w) := by
  have ltC := h.lt
  have CU : Hid (Cur C (T + 300 * 0) w) := hide h
  have BT : Hid (But C (C + 1) w w) := hide (But.refl _ _ _)
  clear h
  go_enter Try.func86, Try.ntmps86
  go_wp2_with fail
  go_loopw [3] (fun tv wr => ∃ k : Nat, k ≤ 3 ∧ tv = .int .i64 k ∧ Hid (Cur C (T + 300 * k) wr) ∧ Hid (But C (C + 1) w wr)) (fun tv _ => 3 - (intOf tv).toNat)
  case atStart => exact ⟨0, by omega, rfl, CU, BT⟩
  case round =>
    clear CU BT
    obtain ⟨k, hk, rfl, CU, BT⟩ := hrel
    have ltr := (unhide CU).lt
    by_cases hlt : k < 3
    · have hlt' : (k : Int) < 3 := by omega
      go_wp2_with fail
      refine (way_v C (T + 300 * k) _ (unhide CU) (by omega)).mono ?_
      rintro e w1 ⟨a1, m1, c1', l, rfl, ar, nr, hm, at_, c1, bt⟩
      replace CU := hide c1
      replace BT := hide ((unhide BT).trans bt)
      have AR := hide ar
      have AT : Hid (∃ G, a1 = some ⟨G, 0, none⟩ ∧ C < G) := hide (by obtain ⟨G, e, h⟩ := at_; exact ⟨G, e, by omega⟩)
      have CW := hide (isV_way (l := l))
      have TS := hide (tv_some (l := l))
      have LN := hide ar.len
      have CT := hide (fun w (k : ArP w a1 m1 c1' l) => TurnAllS a1 m1 c1' l w k (by omega))
      have CS := hide (fun w (k : ArP w a1 m1 c1' l) => IsSimpleS a1 m1 c1' l w k (by omega))
      clear ar nr at_ c1 bt
      go_wp2_with fail
      refine (unhide CS _ (unhide AR)).mono ?_
      rintro e w2 ⟨rfl, hb⟩
      replace CU := hide ((unhide CU).later hb)
      replace BT := hide ((unhide BT).trans (But.of_below hb))
      replace AR := hide ((unhide AR).later hb)
      clear hb CS
      cases hi : isV l
      · go_wp2_with fail
        go_roundw
        case rel => exact ⟨k + 1, by omega, by go_num, hide ((unhide CU).mono (by omega)), BT⟩
        case measure => simp [intOf]; omega
      · have hw := unhide CW hi
        rw [hw] at CT ⊢
        have TS1 := unhide TS hw
        clear CW TS hw hi
        go_wp2_with fail
        refine (one_v C (T + 300 * k + 200) 3 _ (unhide CU) (by omega) (by omega)).mono ?_
        rintro e w3 ⟨b, rfl, c3, bt⟩
        replace BT := hide ((unhide BT).trans bt)
        have AR3 := hide (ar_but8 (unhide AR) bt (unhide AT))
        clear AR bt c3 CU
        cases b
        · go_wp2_with fail
          go_ret
          exact ⟨a1, m1, c1', l, rfl, unhide AR3, by omega, unhide BT⟩
        · go_wp2_with fail
          refine (unhide CT _ (unhide AR3)).mono ?_
          rintro e w4 ⟨a2, n2, c2, rfl, hb, rt, h2⟩
          have RL := hide rt.len
          replace BT := hide ((unhide BT).trans (But.of_below hb))
          have AR4 := hide (rt_ar rt (by rw [← rt.len]; omega))
          clear rt hb CT
          go_wp2_with fail
          go_ret
          exact ⟨a2, n2, c2, tvV l, rfl, unhide AR4, by have := unhide RL; have := unhide LN; omega, unhide BT⟩
    · obtain rfl : k = 3 := by omega
      go_wp2_with fail
      refine (way_v C (T + 300 * 3) _ (unhide CU) (by omega)).mono ?_
      rintro e w1 ⟨a1, m1, c1', l, rfl, ar, nr, hm, at_, c1, bt⟩
      replace BT := hide ((unhide BT).trans bt)
      have AR := hide ar
      clear ar nr at_ c1 bt CU
      go_wp2_with fail
      go_ret
      exact ⟨a1, m1, c1', l, rfl, unhide AR, by omega, unhide BT⟩
set_option maxHeartbeats 4000000 in
theorem drawEO (a : Option Addr) (n c : Nat) (w : World) (h : ArY w a n) :
    Calls Try.prog 45 #[.slice a n c] w (OutS11 w) := by
  have e0 : w.heap.size = w.heap.size := by simp
  have CU : Hid (Cur (w.heap.size) 0 (w.alloc (.cells #[.slice a n c, .int .i64 0, .int .u64 0] 74))) := hide (e0 ▸ Cur.new (w := w) (h.later (Below.refl _ _)))
  have BW : Hid (Below w.heap.size w (w.alloc (.cells #[.slice a n c, .int .i64 0, .int .u64 0] 74))) := hide ((Below.refl _ _).alloc (Nat.le_refl _) _)
  have s0 : w.heap.size + 1 ≤ (w.alloc (.cells #[.slice a n c, .int .i64 0, .int .u64 0] 74)).heap.size := by simp
  clear h e0
  go_enter Try.func45, Try.ntmps45
  go_wp2_with fail
  refine (simple_v (w.heap.size) 0 _ (unhide CU) (by omega)).mono ?_
  rintro e w1 ⟨a1, m1, c1', l, rfl, ar, hm, bt⟩
  have BW2 := hide (bt.below (unhide BW) (by omega) (by omega))
  have AR := hide ar
  clear ar CU BW bt s0
  go_wp2_with fail
  go_ret
  exact ⟨a1, m1, c1', l, rfl, unhide AR, hm, unhide BW2⟩
theorem drawCo (a : Option Addr) (n c : Nat) (w : World) (h : ArY w a n) :
    Calls Try.prog 12 #[.slice a n c] w (OutS11 w) := by
  have H := hide h
  clear h
  go_enter Try.func12, Try.ntmps12
  go_wp2_with fail
  refine (drawEO a n c _ (unhide H)).mono ?_
  rintro e w1 ⟨a1, m1, c1, l, rfl, ar, hm, hb⟩
  have AR := hide ar
  clear ar
  go_wp2_with fail
  go_ret
  exact ⟨a1, m1, c1, l, rfl, unhide AR, hm, hb⟩
end Go.Proofs.Ytblhjeepelgdaaa
namespace Go.Proofs.Ytblhjeepelgdaaa
open Go.RowKit
set_option linter.unusedVariables false
set_option maxRecDepth 100000
set_option linter.unusedSimpArgs false

theorem Ct3.but {w w' : World} {M lo hi : Nat} {T : TypeId} {a b c : Int} (h : Ct3 w M T a b c) (hb : But lo hi w w') (hM : M < lo ∨ hi ≤ M) : Ct3 w' M T a b c := ⟨by rw [hb.block M (Array.getElem?_eq_some_iff.1 h.blk).1 hM]; exact h.blk⟩
theorem Ct3.later {w w' : World} {M : Nat} {T : TypeId} {a b c : Int} (h : Ct3 w M T a b c) (hb : Below w.heap.size w w') : Ct3 w' M T a b c := h.but (But.of_below (lo := 0) (hi := 0) hb) (.inr (Nat.zero_le _))
theorem but_three {w : World} {G : Nat} {x y z : Value} : But G (G + 1) w (((w.setCell ⟨G, 0, none⟩ x).setCell ⟨G, 1, none⟩ y).setCell ⟨G, 2, none⟩ z) := (((But.refl _ _ _).set (p := ⟨G, 0, none⟩) (Nat.le_refl G) (Nat.lt_succ_self G) x).set (p := ⟨G, 1, none⟩) (Nat.le_refl G) (Nat.lt_succ_self G) y).set (p := ⟨G, 2, none⟩) (Nat.le_refl G) (Nat.lt_succ_self G) z
def OutSe (w : World) (e : Ending) (w' : World) : Prop := ∃ (a : Option Addr) (n c : Nat) (l : List (Int × Int)) (g : Int) (t : Int × Int × Int), e = .returned (.tuple #[.slice a n c, .int .i64 g, .agg #[.int .i64 t.1, .int .i64 t.2.1, .int .i64 t.2.2]]) ∧ ArP w' a n c l ∧ n ≤ 20 ∧ Below w.heap.size w w'
set_option maxHeartbeats 4000000 in
theorem drawSe (a : Option Addr) (n c : Nat) (w : World) (h : ArY w a n) :
    Calls Try.prog 20 #[.slice a n c] w (OutSe w) := by
  have e0 : (w.alloc (.cells #[.int .i64 0, .int .i64 0, .int .i64 0] 33)).heap.size = w.heap.size + 1 := by simp
  have CU : Hid (Cur (w.heap.size + 1) 0 ((w.alloc (.cells #[.int .i64 0, .int .i64 0, .int .i64 0] 33)).alloc (.cells #[.slice a n c, .int .i64 0, .int .u64 0] 74))) := hide (e0 ▸ Cur.new (w := (w.alloc (.cells #[.int .i64 0, .int .i64 0, .int .i64 0] 33))) (h.later ((Below.refl _ _).alloc (Nat.le_refl _) _)))
  have BW : Hid (Below w.heap.size w ((w.alloc (.cells #[.int .i64 0, .int .i64 0, .int .i64 0] 33)).alloc (.cells #[.slice a n c, .int .i64 0, .int .u64 0] 74))) := hide (((Below.refl _ _).alloc (Nat.le_refl _) _).alloc (by simp) _)
  have R0 : Hid (Ct3 ((w.alloc (.cells #[.int .i64 0, .int .i64 0, .int .i64 0] 33)).alloc (.cells #[.slice a n c, .int .i64 0, .int .u64 0] 74)) w.heap.size 33 0 0 0) := hide ((Ct3.new w _ 0 0 0).later ((Below.refl _ _).alloc (Nat.le_refl _) _))
  have s0 : w.heap.size + 1 + 1 ≤ ((w.alloc (.cells #[.int .i64 0, .int .i64 0, .int .i64 0] 33)).alloc (.cells #[.slice a n c, .int .i64 0, .int .u64 0] 74)).heap.size := by simp
  clear h e0
  go_enter Try.func20, Try.ntmps20
  go_wp2_with fail
  refine (way_v (w.heap.size + 1) 0 _ (unhide CU) (by omega)).mono ?_
  rintro e w1 ⟨a1, m1, c1', l, rfl, ar, nr, hm, at_, c1, bt⟩
  have AR := hide ar
  have AT : Hid (∃ G, a1 = some ⟨G, 0, none⟩ ∧ w.heap.size + 1 < G) := hide (by obtain ⟨G, e, h⟩ := at_; exact ⟨G, e, by omega⟩)
  clear ar nr at_
  have CU2 := hide c1
  have BW2 := hide (bt.below (unhide BW) (by omega) (by omega))
  have RR0 := hide ((unhide R0).but bt (.inl (by omega)))
  have ss := bt.size
  clear CU BW R0 bt c1
  have CU := CU2
  have BW := BW2
  have R0 := RR0
  clear CU2 BW2 RR0
  have s1 := Nat.le_trans s0 ss
  clear ss
  go_wp2_with fail
  refine (pick_v (w.heap.size + 1) 200 8 _ (unhide CU) (by omega) (by omega)).mono ?_
  rintro e w2 ⟨x, rfl, h0, h1, h2, c1, bt⟩
  have iwx : IntKind.i64.wrap (x - 1) = x - 1 := by rw [IntKind.wrap_i64]; omega
  clear h0 h1 h2
  have CU2 := hide c1
  have BW2 := hide (bt.below (unhide BW) (by omega) (by omega))
  have RR0 := hide ((unhide R0).but bt (.inl (by omega)))
  have ss := bt.size
  have AR2 := hide (ar_but8 (unhide AR) bt (unhide AT))
  clear AR
  have AR := AR2
  clear AR2
  clear CU BW R0 bt c1
  have CU := CU2
  have BW := BW2
  have R0 := RR0
  clear CU2 BW2 RR0
  have s2 := Nat.le_trans s1 ss
  clear ss
  go_wp2_with fail
  refine (pick_v (w.heap.size + 1) 202 4 _ (unhide CU) (by omega) (by omega)).mono ?_
  rintro e w3 ⟨y, rfl, h0, h1, h2, c1, bt⟩
  clear h0 h1 h2
  have CU2 := hide c1
  have BW2 := hide (bt.below (unhide BW) (by omega) (by omega))
  have RR0 := hide ((unhide R0).but bt (.inl (by omega)))
  have ss := bt.size
  have AR2 := hide (ar_but8 (unhide AR) bt (unhide AT))
  clear AR
  have AR := AR2
  clear AR2
  clear CU BW R0 bt c1
  have CU := CU2
  have BW := BW2
  have R0 := RR0
  clear CU2 BW2 RR0
  have s3 := Nat.le_trans s2 ss
  clear ss
  go_wp2_with fail
  refine (pick_v (w.heap.size + 1) 204 4 _ (unhide CU) (by omega) (by omega)).mono ?_
  rintro e w4 ⟨z, rfl, h0, h1, h2, c1, bt⟩
  clear h0 h1 h2
  have CU2 := hide c1
  have BW2 := hide (bt.below (unhide BW) (by omega) (by omega))
  have RR0 := hide ((unhide R0).but bt (.inl (by omega)))
  have ss := bt.size
  have AR2 := hide (ar_but8 (unhide AR) bt (unhide AT))
  clear AR
  have AR := AR2
  clear AR2
  clear CU BW R0 bt c1
  have CU := CU2
  have BW := BW2
  have R0 := RR0
  clear CU2 BW2 RR0
  have s4 := Nat.le_trans s3 ss
  clear ss
  go_wp2_with fail
  refine (pick_v (w.heap.size + 1) 206 9 _ (unhide CU) (by omega) (by omega)).mono ?_
  rintro e w5 ⟨u, rfl, h0, h1, h2, c1, bt⟩
  have iwu : IntKind.i64.wrap (u - 1) = u - 1 := by rw [IntKind.wrap_i64]; omega
  clear h0 h1 h2
  have BW2 := hide (bt.below (unhide BW) (by omega) (by omega))
  have RR0 := hide ((unhide R0).but bt (.inl (by omega)))
  have ss := bt.size
  have AR2 := hide (ar_but8 (unhide AR) bt (unhide AT))
  clear CU BW R0 bt c1 AR
  have s5 := Nat.le_trans s4 ss
  have r0 := (unhide RR0).cell
  have r00 := r0.1
  have r01 := r0.2.1
  have r02 := r0.2.2
  have rf := (unhide RR0).fz
  have F0 := hide (but_three (w := w5) (G := w.heap.size) (x := .int .i64 y) (y := .int .i64 z) (z := .int .i64 (u - 1)))
  have F1 := hide ((unhide F0).below (unhide BW2) (Nat.le_refl _) (by omega))
  have AR3 := hide (ar_but8 (C := w.heap.size) (unhide AR2) (unhide F0) (by obtain ⟨G, e, h⟩ := unhide AT; exact ⟨G, e, by omega⟩))
  clear r0 RR0 AR2 ss
  go_wp2_with fail
  refine bodyPost_ret (v := .tuple #[.slice a1 m1 c1', .int .i64 (x - 1), .agg #[.int .i64 y, .int .i64 z, .int .i64 (u - 1)]]) (by simp [results, Try.results20, go_sem, r00, r01, r02]) rfl ?_
  exact ⟨a1, m1, c1', l, x - 1, (y, z, u - 1), rfl, unhide AR3, hm, unhide F1⟩
set_option maxHeartbeats 2000000 in
theorem sameI11 (a a' : Option Addr) (n c c' : Nat) (L : List Int) (w : World) (h : Sl w a L) (h' : Sl w a' L) (hn : L.length = n) (hm : n ≤ 1048576) :
    Calls Try.prog 17 #[.slice a n c, .slice a' n c'] w fun e w' => e = .returned (.bool true) ∧ Below w.heap.size w w' := by
  have HS := hide h
  have HS' := hide h'
  have HN := hide hn
  clear h h' hn
  go_enter Try.func17, Try.ntmps17
  go_wp2_with fail
  go_loopw [13] (fun iv wr => ∃ i : Nat, i ≤ n ∧ iv = .int .i64 i ∧ Hid (Below w.heap.size w wr)) (fun iv _ => n - (intOf iv).toNat)
  case atStart => exact ⟨0, Nat.zero_le _, rfl, hide (Below.refl _ _)⟩
  case round =>
    obtain ⟨i, hi, rfl, HB⟩ := hrel
    by_cases hlt : i < n
    · have hlt' : (i : Int) < (n : Int) := by omega
      have k : ∃ b off, a = some ⟨b, off, none⟩ ∧ wr.cell? ⟨b, off + i, none⟩ = some (.int .i64 (L.getD i 0)) := by
        rcases unhide HS with e | ⟨b, off, e, hb, hc⟩
        · have := unhide HN; rw [e] at this; simp at this; omega
        · exact ⟨b, off, e, ((unhide HB).cell (p := ⟨b, off + i, none⟩) hb).trans (hc i (by rw [unhide HN]; exact hlt))⟩
      have k' : ∃ b off, a' = some ⟨b, off, none⟩ ∧ wr.cell? ⟨b, off + i, none⟩ = some (.int .i64 (L.getD i 0)) := by
        rcases unhide HS' with e | ⟨b, off, e, hb, hc⟩
        · have := unhide HN; rw [e] at this; simp at this; omega
        · exact ⟨b, off, e, ((unhide HB).cell (p := ⟨b, off + i, none⟩) hb).trans (hc i (by rw [unhide HN]; exact hlt))⟩
      obtain ⟨b1, o1, rfl, E1⟩ := k
      obtain ⟨b2, o2, rfl, E2⟩ := k'
      generalize L.getD i 0 = v at *
      have ev : (v != v) = false := by simp
      clear HS HS'
      go_upto_region 6 with fail
      go_quiet (fail)
      go_wp2_with fail
      go_roundw
      case rel => exact ⟨i + 1, by omega, by go_num, hide (below_drewN (unhide HB) _)⟩
      case measure => simp [intOf]; omega
    · obtain rfl : i = n := by omega
      go_wp2_with fail
      go_ret
      exact ⟨rfl, unhide HB⟩
end Go.Proofs.Ytblhjeepelgdaaa
