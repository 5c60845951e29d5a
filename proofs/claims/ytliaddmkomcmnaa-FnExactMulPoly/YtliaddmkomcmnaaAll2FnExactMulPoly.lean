/- The law FnExactMulPoly returns true for every argument and leaves it as it was: the given statement FnExactMulPolySaid. No condition. -/
import Derived.Test.YtliaddmkomcmnaaPackM
import Derived.Test.YtliaddmkomcmnaaOpenQ
import Derived.Test.YtliaddmkomcmnaaPackSW
import Derived.Deep.Slices
import Derived.Test.YtliaddmkomcmnaaIo
namespace Go.Proofs.Ytliaddmkomcmnaa
open Go.RowKit
set_option linter.unusedVariables false
set_option maxRecDepth 100000
set_option linter.unusedSimpArgs false

theorem mall_zero (ps qs : List (Int × Int)) {n m : Nat} (h : n = 0 ∨ m = 0) (cs : List (Int × Int)) : mall ps qs m n cs = cs := by
  rcases h with h | h
  · subst h; rfl
  · subst h
    have : ∀ i, mall ps qs 0 i cs = cs := by
      intro i
      induction i with
      | zero => rfl
      | succ i ih => show mrow (cf ps i) qs i 0 (mall ps qs 0 i cs) = cs; rw [ih]; rfl
    exact this n
/-- 0, as it is read. -/
def nqd : QD := ⟨⟨false, []⟩, ⟨false, [1]⟩⟩
theorem nqd_is : IsD (0, 1) nqd := ⟨rfl, Nm.zero, rfl, nm_one⟩
def nzs (k : Nat) : List QD := List.replicate k nqd
theorem nzs_is : ∀ k, IsL (noughts k) (nzs k)
  | 0 => trivial
  | k + 1 => ⟨nqd_is, nzs_is k⟩
theorem nzs_cut (k : Nat) : CutAt (nzs k) 0 := ⟨Nat.zero_le _, fun j h _ => by have e : (nzs k)[j] = nqd := List.eq_of_mem_replicate (List.getElem_mem h); rw [e]; rfl, fun h => absurd h (by omega)⟩
theorem cf_last {w : World} {a : Option Addr} {n c : Nat} {l : List (QV × QD)} (h : PArQ w a n c l) (hg : gP (l.map Prod.snd) = true) (h0 : 0 < n) : (cf (goods (l.map Prod.snd)) (n - 1)).1 ≠ 0 := by
  have hl := h.len
  rw [cf_in (by omega) rfl]
  have my : l[n - 1]'(by omega) ∈ l := List.getElem_mem _
  have g := good_of_mem h hg my
  have h3 := hg
  unfold gP at h3
  simp only [Bool.and_eq_true] at h3
  have h4 := h3.2
  rw [lastOk_of hl h0] at h4
  obtain ⟨xs, a1, n1⟩ := g.is.1
  have e1 := a1.ar.len
  have e3 := (h.rd _ my).head.ar.len
  simp only at e1 e3
  unfold nz at h4
  simp only [Bool.not_eq_true', decide_eq_false_iff_not] at h4
  intro e
  have := n1.nil_iff.2 (by simp only at e; omega)
  rw [this] at e1
  simp at e1
  omega
theorem prod_top {w : World} {a : Option Addr} {n c : Nat} {l : List (QV × QD)} {a' : Option Addr} {n' c' : Nat} {l' : List (QV × QD)} {N : Nat} (h : PArQ w a n c l) (h' : PArQ w a' n' c' l') (hg : gP (l.map Prod.snd) = true) (hg' : gP (l'.map Prod.snd) = true) (h0 : 0 < n) (h0' : 0 < n') (hN : N + 1 = n + n') :
    ∃ t : Int × Int, (mall (goods (l.map Prod.snd)) (goods (l'.map Prod.snd)) n' n (noughts N))[N - 1]? = some t ∧ t.1 ≠ 0 :=
  ⟨_, mall_top h0 h0' hN, mulAt_ne (cf_last h hg h0) (cf_last h' hg' h0') (cf_good h hg _).1 (cf_good h' hg' _).1⟩
theorem prod_cut {cs : List (Int × Int)} {ds : List QD} {N : Nat} (hl : ds.length = N) (h0 : 0 < N) (hi : IsL cs ds) (ht : ∃ t : Int × Int, cs[N - 1]? = some t ∧ t.1 ≠ 0) : CutAt (ds ++ [nqd]) N := by
  obtain ⟨t, e, hne⟩ := ht
  refine ⟨by rw [List.length_append]; simp; omega, fun j h1 h2 => ?_, fun h => ?_⟩
  · rw [List.length_append] at h1
    simp at h1
    have : j = ds.length := by omega
    subst this
    rw [List.getElem_append_right (Nat.le_refl _)]
    simp
    rfl
  · rw [List.getElem_append_left (by omega)]
    have hd := hi.get (N - 1) e (List.getElem?_eq_getElem (by omega))
    unfold nz
    apply decide_eq_false
    intro e0
    have := hd.n1.nil_iff.1 (List.length_eq_zero_iff.1 e0)
    omega
set_option maxHeartbeats 4000000 in
theorem ofMul5 (a : Option Addr) (n c : Nat) (l : List (QV × QD)) (a' : Option Addr) (n' c' : Nat) (l' : List (QV × QD)) (w : World) (h : PArQ w a n c l) (h' : PArQ w a' n' c' l') :
    Calls Try.prog 88 #[.slice a n c, .slice a' n' c', .func (Fn.func 89) #[] #[]] w (RetPo w (AnsS4 (gP (l.map Prod.snd) && gP (l'.map Prod.snd)) (mall (goods (l.map Prod.snd)) (goods (l'.map Prod.snd)) n' n (noughts (n + n'))))) := by
  have G1 := hide (fun w1 (k : PArQ w1 a n c l) => GoodPI a n c l w1 k)
  have G2 := hide (fun w1 (k : PArQ w1 a' n' c' l') => GoodPI a' n' c' l' w1 k)
  have HS := hide h
  have HS' := hide h'
  clear h h'
  cases hg : gP (l.map Prod.snd)
  · rw [hg] at G1
    rw [Bool.false_and]
    clear hg
    go_enter Try.func88, Try.ntmps88
    go_wp2_with fail
    refine (unhide G1 _ (unhide HS)).mono ?_
    rintro e w1 ⟨rfl, hb⟩
    have HB := hide hb
    clear hb G1
    go_wp2
    go_ret2
    exact ⟨none, 0, 0, [], false, rfl, unhide HB, PRo.none _ _ _, .inr ⟨rfl, rfl, rfl⟩⟩
  · rw [hg] at G1
    rw [Bool.true_and]
    have HG := hide hg
    clear hg
    cases hg' : gP (l'.map Prod.snd)
    · rw [hg'] at G2
      clear hg'
      go_enter Try.func88, Try.ntmps88
      go_wp2_with fail
      refine (unhide G1 _ (unhide HS)).mono ?_
      rintro e w1 ⟨rfl, hb⟩
      have HB := hide hb
      clear hb G1
      go_wp2_with fail
      refine (unhide G2 _ ((unhide HS').later (unhide HB))).mono ?_
      rintro e w2 ⟨rfl, hb⟩
      replace HB := hide (below_on (unhide HB) hb)
      clear hb G2
      go_wp2
      go_ret2
      exact ⟨none, 0, 0, [], false, rfl, unhide HB, PRo.none _ _ _, .inr ⟨rfl, rfl, rfl⟩⟩
    · rw [hg'] at G2
      have HG' := hide hg'
      clear hg'
      have GP : Gd (goods (l.map Prod.snd)) := fun k => cf_good (unhide HS) (unhide HG) k
      have GQ : Gd (goods (l'.map Prod.snd)) := fun k => cf_good (unhide HS') (unhide HG') k
      have LW := hide (fun N j => mall_low n' N n j GP GQ)
      by_cases h0 : n = 0 ∨ n' = 0
      · have ZZ : Hid (mall (goods (l.map Prod.snd)) (goods (l'.map Prod.snd)) n' n (noughts (n + n')) = noughts (n + n')) := hide (mall_zero _ _ h0 _)
        clear GP GQ
        go_enter Try.func88, Try.ntmps88
        go_wp2_with fail
        refine (unhide G1 _ (unhide HS)).mono ?_
        rintro e w1 ⟨rfl, hb⟩
        have HB := hide hb
        clear hb G1
        go_wp2_with fail
        refine (unhide G2 _ ((unhide HS').later (unhide HB))).mono ?_
        rintro e w2 ⟨rfl, hb⟩
        replace HB := hide (below_on (unhide HB) hb)
        clear hb G2
        have s2 := (unhide HB).size
        go_wp2_with fail
        refine (mulI0 a n c a' n' c' _ h0).mono ?_
        rintro e w3 ⟨rfl, rfl⟩
        go_wp2_with fail
        refine (whereP none 0 0 [] [] w.heap.size _ ⟨.inl rfl, fun p hp => (by cases hp), rfl, Nat.le_refl _, Nat.zero_le _⟩ (PRo.none _ _ _) trivial (fun c hc => by cases hc)).mono ?_
        rintro e w4 ⟨a4, n4, c4, l4, ok, rfl, hb, o4, u4⟩
        replace HB := hide (below_on (unhide HB) hb)
        have O4 := hide (o4.wide (Nat.le_refl _) (Nat.le_refl _))
        have U4 := hide u4
        clear hb o4 u4
        go_wp2
        go_ret2
        refine ⟨_, _, _, l4, ok, rfl, unhide HB, unhide O4, .inl ⟨rfl, nzs (n + n'), 0, ?_, nzs_cut _, ?_⟩⟩
        · rw [unhide ZZ]; exact nzs_is _
        · rw [List.take_zero]; exact unhide U4
      · obtain ⟨N, hN⟩ : ∃ N, N + 1 = n + n' := ⟨n + n' - 1, by omega⟩
        have TOP := hide (prod_top (unhide HS) (unhide HS') (unhide HG) (unhide HG') (by omega) (by omega) hN)
        have APP : Hid (mall (goods (l.map Prod.snd)) (goods (l'.map Prod.snd)) n' n (noughts (n + n')) = mall (goods (l.map Prod.snd)) (goods (l'.map Prod.snd)) n' n (noughts N) ++ [(0, 1)]) := hide (by
          rw [← hN, noughts_snoc]
          exact mall_app _ _ _ _ _ _ (fun k hk => by unfold noughts; rw [List.length_replicate]; omega))
        have MI := hide (fun w1 (k : PArQ w1 a n c l) (k' : PArQ w1 a' n' c' l') => mulI1 a n c l a' n' c' l' N w1 k k' (unhide HG) (unhide HG') (by omega) (by omega) hN)
        have ML : Hid ((mall (goods (l.map Prod.snd)) (goods (l'.map Prod.snd)) n' n (noughts N)).length = N ∧ 0 < N) := hide ⟨by rw [mall_len]; unfold noughts; exact List.length_replicate, by omega⟩
        clear GP GQ hN h0
        go_enter Try.func88, Try.ntmps88
        go_wp2_with fail
        refine (unhide G1 _ (unhide HS)).mono ?_
        rintro e w1 ⟨rfl, hb⟩
        have HB := hide hb
        clear hb G1
        go_wp2_with fail
        refine (unhide G2 _ ((unhide HS').later (unhide HB))).mono ?_
        rintro e w2 ⟨rfl, hb⟩
        replace HB := hide (below_on (unhide HB) hb)
        clear hb G2
        have s2 := (unhide HB).size
        go_wp2_with fail
        refine (unhide MI _ ((unhide HS).later (unhide HB)) ((unhide HS').later (unhide HB))).mono ?_
        rintro e w3 ⟨a3, n3, c3, us, rfl, hb, o3, r3, i3⟩
        replace HB := hide (below_on (unhide HB) hb)
        have O3 := hide o3
        have R3 := hide r3
        have I3 := hide i3
        clear hb o3 r3 i3 MI
        go_wp2_with fail
        refine (whereP a3 n3 c3 us _ w2.heap.size _ (unhide R3) (unhide O3) (unhide I3) (by have := unhide LW N N; rw [List.take_of_length_le (by rw [(unhide ML).1]; exact Nat.le_refl _)] at this; exact this)).mono ?_
        rintro e w4 ⟨a4, n4, c4, l4, ok, rfl, hb, o4, u4⟩
        replace HB := hide (below_on (unhide HB) hb)
        have O4 := hide (o4.wide s2 (Nat.le_refl _))
        have U4 := hide u4
        clear hb o4 u4
        go_wp2
        go_ret2
        have le := (unhide I3).len
        refine ⟨_, _, _, l4, ok, rfl, unhide HB, unhide O4, .inl ⟨rfl, us.map Prod.snd ++ [nqd], N, ?_, ?_, ?_⟩⟩
        · rw [unhide APP]
          exact (unhide I3).append ⟨nqd_is, trivial⟩
        · exact prod_cut (by rw [← le, (unhide ML).1]) (unhide ML).2 (unhide I3) (unhide TOP)
        · rw [unhide APP, List.take_append_of_le_length (by rw [(unhide ML).1]; exact Nat.le_refl _), List.take_of_length_le (by rw [(unhide ML).1]; exact Nat.le_refl _)]
          exact unhide U4
theorem MulPI5 (a : Option Addr) (n c : Nat) (l : List (QV × QD)) (a' : Option Addr) (n' c' : Nat) (l' : List (QV × QD)) (w : World) (h : PArQ w a n c l) (h' : PArQ w a' n' c' l') :
    Calls Try.prog 39 #[.slice a n c, .slice a' n' c'] w (RetPo w (AnsS4 (gP (l.map Prod.snd) && gP (l'.map Prod.snd)) (mall (goods (l.map Prod.snd)) (goods (l'.map Prod.snd)) n' n (noughts (n + n'))))) := by
  have HS := hide h
  have HS' := hide h'
  clear h h'
  go_enter Try.func39, Try.ntmps39
  go_wp2_with fail
  refine (ofMul5 a n c l a' n' c' l' _ (unhide HS) (unhide HS')).mono ?_
  rintro e w1 ⟨a3, n3, c3, l3, ok, rfl, hb, o3, u3⟩
  have HB := hide hb
  have O3 := hide o3
  have U3 := hide u3
  clear hb o3 u3
  go_wp2
  go_ret2
  exact ⟨_, _, _, l3, ok, rfl, unhide HB, unhide O3, unhide U3⟩
set_option maxHeartbeats 2000000 in
theorem MulPS5 (a : Option Addr) (n c : Nat) (l : List (QV × QD)) (a' : Option Addr) (n' c' : Nat) (l' : List (QV × QD)) (w : World) (h : PArQ w a n c l) (h' : PArQ w a' n' c' l') :
    Calls Try.prog 38 #[.slice a n c, .slice a' n' c'] w (RetPr w (AnsS4 (gP (l.map Prod.snd) && gP (l'.map Prod.snd)) (mall (goods (l.map Prod.snd)) (goods (l'.map Prod.snd)) n' n (noughts (n + n'))))) := by
  have GS := hide (fun w1 (k : PArQ w1 a n c l) (k' : PArQ w1 a' n' c' l') => bothS a n c l a' n' c' l' w1 k k')
  have HS := hide h
  have HS' := hide h'
  clear h h'
  cases hg : (gP (l.map Prod.snd) && gP (l'.map Prod.snd))
  · rw [hg] at GS
    clear hg
    go_enter Try.func38, Try.ntmps38
    go_wp2_with fail
    refine (unhide GS _ (unhide HS) (unhide HS')).mono ?_
    rintro e w1 ⟨rfl, hb⟩
    have HB := hide hb
    clear hb GS
    go_wp2
    go_ret2
    exact ⟨none, 0, 0, [], false, rfl, unhide HB, ⟨.inl rfl, fun p hp => (by cases hp)⟩, rfl, .inr ⟨rfl, rfl, rfl⟩⟩
  · rw [hg] at GS
    have HG := hide (Bool.and_eq_true_iff.1 hg)
    clear hg
    go_enter Try.func38, Try.ntmps38
    go_wp2_with fail
    refine (unhide GS _ (unhide HS) (unhide HS')).mono ?_
    rintro e w1 ⟨rfl, hb⟩
    have HB := hide hb
    clear hb GS
    go_wp2_with fail
    refine (mulS5 a n c l a' n' c' l' _ ((unhide HS).later (unhide HB)) ((unhide HS').later (unhide HB)) (unhide HG).1 (unhide HG).2).mono ?_
    rintro e w2 ⟨a2, m2, c2, us, rfl, hb, i2, k2, p2⟩
    replace HB := hide (below_on (unhide HB) hb)
    have P2 := hide p2
    have I2 := hide (And.intro i2 k2)
    clear hb p2 i2 k2
    go_wp2_with fail
    refine (fitsPS a2 m2 c2 (us.take m2) _ _ (unhide P2) (by rw [List.map_take]; exact (unhide I2).1.take m2)).mono ?_
    rintro e w3 ⟨a3, n3, c3, l3, ok, rfl, hb, p3, h3, u3⟩
    replace HB := hide (below_on (unhide HB) hb)
    have P3 := hide p3
    have H3 := hide h3
    have U3 := hide u3
    clear hb p3 h3 u3
    go_wp2
    go_ret2
    exact ⟨_, _, _, l3, ok, rfl, unhide HB, unhide P3, unhide H3, .inl ⟨rfl, us.map Prod.snd, m2, (unhide I2).1, (unhide I2).2, unhide U3⟩⟩
end Go.Proofs.Ytliaddmkomcmnaa
namespace Go.Proofs.Ytliaddmkomcmnaa
open Go.RowKit
set_option linter.unusedVariables false
set_option maxRecDepth 100000
set_option linter.unusedSimpArgs false

theorem markRk (k : Int) (B E : Nat) (a : Option Addr) (n c : Nat) (l : List (QV × QD)) (w : World) (h : PRo B E w a n c l) (hE : E ≤ w.heap.size) (k0 : 0 ≤ k) (k1 : k + 2 * (n : Int) + (lenPQ l : Int) ≤ 3900000) :
    Calls Try.prog 37 #[.slice a n c, .int .i64 k] w fun e w' => e = .returned (.int .i64 (enK k l)) ∧ But B E w w' ∧ PRo B E w' a n c (mkP k l) := by
  have hs := h.sz
  rcases h.row with e | ⟨G, lo, hi, e, h1, h2, h3, h4, h5, h6⟩
  · have hl : l = [] := List.length_eq_zero_iff.1 (by rw [h.len]; exact e)
    subst hl e
    refine (markP0 a c k w).mono ?_
    rintro e w' ⟨rfl, rfl⟩
    exact ⟨rfl, But.refl _ _ _, ⟨rfl, by simp [mkP, lenPQ], fun p hp => (by cases hp), .inl rfl⟩⟩
  · subst e
    refine (markP G n c l k lo hi w h5 h6 h.len h.ml h2 h3 k0 k1).mono ?_
    rintro e w' ⟨rfl, hb, hr, ho⟩
    exact ⟨rfl, hb.wide h1 h4, ⟨by rw [mkP_len]; exact h.len, by rw [mkP_lenP]; exact h.sz, mkP_ml k h.ml, .inr ⟨G, lo, hi, rfl, h1, h2, h3, h4, hr, ho⟩⟩⟩
end Go.Proofs.Ytliaddmkomcmnaa
namespace Go.Proofs.Ytliaddmkomcmnaa
open Go.RowKit
set_option linter.unusedVariables false
set_option maxRecDepth 100000
set_option linter.unusedSimpArgs false

set_option maxRecDepth 100000 in
set_option maxHeartbeats 16000000 in
theorem lawMulP_walk (a0 : Option Addr) (n0 c0 : Nat) (l0 : List (QV × QD)) (a1 : Option Addr) (n1 c1 : Nat) (l1 : List (QV × QD)) (w : World) (h0 : PSlQ w a0 l0) (hn0 : l0.length = n0) (h1 : PSlQ w a1 l1) (hn1 : l1.length = n1) (hm0 : n0 ≤ maxLen) (ml0 : ∀ p ∈ l0, p.1.num.n ≤ maxLen ∧ p.1.den.n ≤ maxLen) (hm1 : n1 ≤ maxLen) (ml1 : ∀ p ∈ l1, p.1.num.n ≤ maxLen ∧ p.1.den.n ≤ maxLen) :
    Calls Try.prog 7 #[.slice a0 n0 c0, .slice a1 n1 c1] w fun e w' => e = .returned (.bool true) ∧ Below w.heap.size w w' := by
  obtain ⟨U, HU⟩ : ∃ U : List QD → Bool → Prop, Hid (U = AnsS4 (gP (l0.map Prod.snd) && gP (l1.map Prod.snd)) (mall (goods (l0.map Prod.snd)) (goods (l1.map Prod.snd)) l1.length l0.length (noughts (l0.length + l1.length)))) := ⟨_, hide rfl⟩
  have US : Hid (∀ d ok d' ok', U d ok → U d' ok' → d = d' ∧ ok = ok') := hide (by rw [unhide HU]; exact fun d ok d' ok' h k => h.same k)
  have CS : Hid (∀ (a0 : Option Addr) (n0 c0 : Nat) (k0 : List (QV × QD)) (a1 : Option Addr) (n1 c1 : Nat) (k1 : List (QV × QD)) (w : World), PArQ w a0 n0 c0 k0 → k0.map Prod.snd = l0.map Prod.snd → PArQ w a1 n1 c1 k1 → k1.map Prod.snd = l1.map Prod.snd → Calls Try.prog 38 #[.slice a0 n0 c0, .slice a1 n1 c1] w (RetPr w U)) := hide (by rw [unhide HU]; exact fun a0 n0 c0 k0 a1 n1 c1 k1 w h0 e0 h1 e1 => by have t := MulPS5 a0 n0 c0 k0 a1 n1 c1 k1 w h0 h1; have q0 := congrArg List.length e0; have q1 := congrArg List.length e1; simp only [List.length_map] at q0 q1; rw [← h0.len, ← h1.len, q0, q1, e0, e1] at t; rw [← h0.len, ← h1.len, q0, q1]; exact t)
  have CI : Hid (∀ (a0 : Option Addr) (n0 c0 : Nat) (k0 : List (QV × QD)) (a1 : Option Addr) (n1 c1 : Nat) (k1 : List (QV × QD)) (w : World), PArQ w a0 n0 c0 k0 → k0.map Prod.snd = l0.map Prod.snd → PArQ w a1 n1 c1 k1 → k1.map Prod.snd = l1.map Prod.snd → Calls Try.prog 39 #[.slice a0 n0 c0, .slice a1 n1 c1] w (RetPo w U)) := hide (by rw [unhide HU]; exact fun a0 n0 c0 k0 a1 n1 c1 k1 w h0 e0 h1 e1 => by have t := MulPI5 a0 n0 c0 k0 a1 n1 c1 k1 w h0 h1; have q0 := congrArg List.length e0; have q1 := congrArg List.length e1; simp only [List.length_map] at q0 q1; rw [← h0.len, ← h1.len, q0, q1, e0, e1] at t; rw [← h0.len, ← h1.len, q0, q1]; exact t)
  clear HU
  have SZ0 := hide (fun w1 (left : Int) (b0 : 0 ≤ left) (b1 : left ≤ 1048576) (k : PSlQ w1 a0 l0) => szPQ a0 n0 c0 l0 left w1 k hn0 hm0 ml0 b0 b1)
  have HS0 := hide h0
  have HN0 := hide hn0
  have SZ1 := hide (fun w1 (left : Int) (b0 : 0 ≤ left) (b1 : left ≤ 1048576) (k : PSlQ w1 a1 l1) => szPQ a1 n1 c1 l1 left w1 k hn1 hm1 ml1 b0 b1)
  have HS1 := hide h1
  have HN1 := hide hn1
  clear h0 hn0 hm0 ml0 h1 hn1 hm1 ml1
  go_enter Try.func7, Try.ntmps7
  have HB := hide (Below.refl w.heap.size w)
  go_wp2_with fail
  refine (unhide SZ0 _ 1048576 (by omega) (by omega) ((unhide HS0).later (unhide HB))).mono ?_
  rintro e ws0 ⟨r0, rfl, hb, hr⟩
  replace HB := hide (below_on (unhide HB) hb)
  clear hb SZ0
  by_cases hneg : r0 < 0
  · clear hr
    go_wp2
    go_ret
    exact ⟨rfl, unhide HB⟩
  have e0 : Hid (r0 = 1048576 - (n0 : Int) - (lenPQ l0 : Int)) := hide (by
    rcases hr with e | e
    · exact absurd (show r0 < 0 by omega) hneg
    · exact e.2)
  clear hr
  have b0 : r0 ≤ 1048576 := by have := unhide e0; omega
  have p0 : 0 ≤ r0 := by omega
  clear hneg
  have q0 : ¬ (r0 < 0) := by omega
  go_wp2_with fail
  refine (unhide SZ1 _ r0 (by omega) (by omega) ((unhide HS1).later (unhide HB))).mono ?_
  rintro e ws1 ⟨r1, rfl, hb, hr⟩
  replace HB := hide (below_on (unhide HB) hb)
  clear hb SZ1
  by_cases hneg : r1 < 0
  · clear hr
    go_wp2
    go_ret
    exact ⟨rfl, unhide HB⟩
  have e1 : Hid (r1 = r0 - (n1 : Int) - (lenPQ l1 : Int)) := hide (by
    rcases hr with e | e
    · exact absurd (show r1 < 0 by omega) hneg
    · exact e.2)
  clear hr
  have b1 : r1 ≤ 1048576 := by have := unhide e1; omega
  have p1 : 0 ≤ r1 := by omega
  have M0 : Hid (∀ p ∈ l0, p.1.num.n ≤ 1048576 ∧ p.1.den.n ≤ 1048576) := hide (fun p hp => by have h1 := lenPQ_mem hp; have h2 : lenQ p = p.1.num.n + p.1.den.n := rfl; have := unhide e0; have := unhide e1; omega)
  have Z0 : Hid (2 * n0 + lenPQ l0 ≤ 3200000) := hide (by have := unhide e0; have := unhide e1; omega)
  have TT0 := hide (fun w1 (k : PSlQ w1 a0 l0) => toPQ a0 n0 c0 l0 w1 k (unhide HN0) (by have := unhide e0; have := unhide e1; omega) (unhide M0))
  have M1 : Hid (∀ p ∈ l1, p.1.num.n ≤ 1048576 ∧ p.1.den.n ≤ 1048576) := hide (fun p hp => by have h1 := lenPQ_mem hp; have h2 : lenQ p = p.1.num.n + p.1.den.n := rfl; have := unhide e0; have := unhide e1; omega)
  have Z1 : Hid (2 * n1 + lenPQ l1 ≤ 3200000) := hide (by have := unhide e0; have := unhide e1; omega)
  have TT1 := hide (fun w1 (k : PSlQ w1 a1 l1) => toPQ a1 n1 c1 l1 w1 k (unhide HN1) (by have := unhide e0; have := unhide e1; omega) (unhide M1))
  go_wp2_with fail
  refine (unhide TT0 _ ((unhide HS0).later (unhide HB))).mono ?_
  rintro e ws0 ⟨ls0, rfl, hb, zs0, ds0, os0⟩
  have szs0 := hb.size
  replace HB := hide (below_on (unhide HB) hb)
  have Ds0 := hide ds0
  have Os0 := hide os0
  clear hb ds0 os0
  go_wp2_with fail
  refine (unhide TT1 _ ((unhide HS1).later (unhide HB))).mono ?_
  rintro e ws1 ⟨ls1, rfl, hb, zs1, ds1, os1⟩
  have szs1 := hb.size
  replace Os0 := hide ((unhide Os0).later hb)
  replace HB := hide (below_on (unhide HB) hb)
  have Ds1 := hide ds1
  have Os1 := hide os1
  clear hb ds1 os1
  go_wp2_with fail
  refine (unhide CS _ _ _ _ _ _ _ _ _ (unhide Os0).arg (unhide Ds0) (unhide Os1).arg (unhide Ds1)).mono ?_
  rintro e wv ⟨av, nv, cv, lv, okv, rfl, hb, sv', lnv, uv⟩
  replace HB := hide (below_on (unhide HB) hb)
  have SV := hide sv'
  have LV := hide lnv
  have UV := hide uv
  have yv := hb.size
  have yw := (unhide HB).size
  clear hb sv' lnv uv Os0 Ds0 Os1 Ds1
  have HV := hide (Below.refl wv.heap.size wv)
  go_wp2_with fail
  refine (unhide TT0 _ ((unhide HS0).later (unhide HB))).mono ?_
  rintro e wx0 ⟨lx0, rfl, hb, zx0, dx0, ox0⟩
  have szx0 := hb.size
  replace HB := hide (below_on (unhide HB) hb)
  replace HV := hide (below_on (unhide HV) hb)
  have Dx0 := hide dx0
  have Ox0 := hide ox0
  clear hb dx0 ox0
  go_wp2_with fail
  refine (unhide TT1 _ ((unhide HS1).later (unhide HB))).mono ?_
  rintro e wx1 ⟨lx1, rfl, hb, zx1, dx1, ox1⟩
  have szx1 := hb.size
  replace Ox0 := hide ((unhide Ox0).later hb)
  replace HB := hide (below_on (unhide HB) hb)
  replace HV := hide (below_on (unhide HV) hb)
  have Dx1 := hide dx1
  have Ox1 := hide ox1
  clear hb dx1 ox1
  go_wp2_with fail
  refine (unhide CI _ _ _ _ _ _ _ _ _ (unhide Ox0).arg (unhide Dx0) (unhide Ox1).arg (unhide Dx1)).mono ?_
  rintro e wg ⟨ag, ng, cg, lg, okg, rfl, hb, og, ug⟩
  obtain ⟨e1, e2⟩ := unhide US _ _ _ _ (unhide UV) ug
  subst e2
  replace Ox0 := hide ((unhide Ox0).later hb)
  replace Ox1 := hide ((unhide Ox1).later hb)
  replace HB := hide (below_on (unhide HB) hb)
  replace HV := hide (below_on (unhide HV) hb)
  have DG := hide e1
  have OG := hide og
  have yg := hb.size
  clear hb og ug e1
  have hng : Hid (ng = nv) := hide (by rw [← (unhide OG).len, ← unhide LV]; have h := congrArg List.length (unhide DG); simpa using h.symm)
  obtain rfl := unhide hng
  clear hng
  have PX0 : Hid (PRo wv.heap.size wx0.heap.size wg (some ⟨wv.heap.size, 0, none⟩) n0 n0 lx0) := hide ((unhide Ox0).ro (Nat.lt_succ_self _) (by omega) (by rw [lenPQ_snd (unhide Ox0).arg.sl (unhide HS0) (unhide Dx0)]; exact unhide Z0) (ml_snd (unhide Ox0).arg.sl (unhide HS0) (unhide Dx0) (unhide M0)))
  have ZL0 := hide (lenPQ_snd (unhide Ox0).arg.sl (unhide HS0) (unhide Dx0))
  have PX1 : Hid (PRo wx0.heap.size wx1.heap.size wg (some ⟨wx0.heap.size, 0, none⟩) n1 n1 lx1) := hide ((unhide Ox1).ro (Nat.lt_succ_self _) (by omega) (by rw [lenPQ_snd (unhide Ox1).arg.sl (unhide HS1) (unhide Dx1)]; exact unhide Z1) (ml_snd (unhide Ox1).arg.sl (unhide HS1) (unhide Dx1) (unhide M1)))
  have ZL1 := hide (lenPQ_snd (unhide Ox1).arg.sl (unhide HS1) (unhide Dx1))
  clear Ox0 Ox1
  have HG : (okv == okv) = true := by simp
  go_wp2_with fail
  refine (eqPQ _ _ _ _ _ lg lv _ (unhide OG).sl ((unhide SV).later (unhide HV)) (unhide OG).len ((unhide DG).symm) (unhide OG).max (unhide OG).lens).mono ?_
  rintro e w31 ⟨rfl, hb⟩
  have sz31 := hb.size
  replace OG := hide ((unhide OG).later hb)
  replace PX0 := hide ((unhide PX0).later hb)
  replace PX1 := hide ((unhide PX1).later hb)
  replace HB := hide (below_on (unhide HB) hb)
  replace HV := hide (below_on (unhide HV) hb)
  clear hb
  go_wp2_with fail
  refine (unhide TT0 _ ((unhide HS0).later (unhide HB))).mono ?_
  rintro e wy0 ⟨ly0, rfl, hb, zy0, dy0, oy0⟩
  have szy0 := hb.size
  replace OG := hide ((unhide OG).later hb)
  replace PX0 := hide ((unhide PX0).later hb)
  replace PX1 := hide ((unhide PX1).later hb)
  replace HB := hide (below_on (unhide HB) hb)
  replace HV := hide (below_on (unhide HV) hb)
  have Dy0 := hide dy0
  have Oy0 := hide oy0
  clear hb dy0 oy0
  go_wp2_with fail
  refine (eqPQ _ _ n0 _ _ lx0 ly0 _ (unhide PX0).sl (unhide Oy0).arg.sl (unhide PX0).len ((unhide Dx0).trans (unhide Dy0).symm) (unhide PX0).max (unhide PX0).lens).mono ?_
  rintro e w32_0 ⟨rfl, hb⟩
  have sz32_0 := hb.size
  replace OG := hide ((unhide OG).later hb)
  replace PX0 := hide ((unhide PX0).later hb)
  replace PX1 := hide ((unhide PX1).later hb)
  replace HB := hide (below_on (unhide HB) hb)
  replace HV := hide (below_on (unhide HV) hb)
  clear hb Oy0 Dy0 zy0
  go_wp2_with fail
  refine (unhide TT1 _ ((unhide HS1).later (unhide HB))).mono ?_
  rintro e wy1 ⟨ly1, rfl, hb, zy1, dy1, oy1⟩
  have szy1 := hb.size
  replace OG := hide ((unhide OG).later hb)
  replace PX0 := hide ((unhide PX0).later hb)
  replace PX1 := hide ((unhide PX1).later hb)
  replace HB := hide (below_on (unhide HB) hb)
  replace HV := hide (below_on (unhide HV) hb)
  have Dy1 := hide dy1
  have Oy1 := hide oy1
  clear hb dy1 oy1
  go_wp2_with fail
  refine (eqPQ _ _ n1 _ _ lx1 ly1 _ (unhide PX1).sl (unhide Oy1).arg.sl (unhide PX1).len ((unhide Dx1).trans (unhide Dy1).symm) (unhide PX1).max (unhide PX1).lens).mono ?_
  rintro e w32_1 ⟨rfl, hb⟩
  have sz32_1 := hb.size
  replace OG := hide ((unhide OG).later hb)
  replace PX0 := hide ((unhide PX0).later hb)
  replace PX1 := hide ((unhide PX1).later hb)
  replace HB := hide (below_on (unhide HB) hb)
  replace HV := hide (below_on (unhide HV) hb)
  clear hb Oy1 Dy1 zy1
  have gz := (unhide HB).size
  have gv := (unhide HV).size
  have LX : Hid ((1 : Int) + 2 * (n0 : Int) + (lenPQ lx0 : Int) + 2 * (n1 : Int) + (lenPQ lx1 : Int) ≤ 3900000) := hide (by have q0 := unhide ZL0; have q1 := unhide ZL1; have := unhide e0; have := unhide e1; omega)
  have NX : Hid (lx0.length = n0 ∧ lx1.length = n1) := hide ⟨(unhide PX0).len, (unhide PX1).len⟩
  go_wp2_with fail
  refine (markRk (1) _ _ _ n0 n0 lx0 _ (unhide PX0) (by omega) (by omega) (by have := unhide LX; have := unhide NX; omega)).mono ?_
  rintro e wm0 ⟨rfl, hbt, _⟩
  have szm0 := hbt.size
  replace OG := hide ((unhide OG).but hbt (.inr (by omega)))
  replace HB := hide (hbt.below (unhide HB) (by omega) (unhide HB).size)
  replace HV := hide (hbt.below (unhide HV) (by omega) (unhide HV).size)
  replace PX1 := hide ((unhide PX1).but hbt (.inr (by omega)))
  clear hbt PX0
  go_wp2_with fail
  refine (markRk (enK 1 lx0) _ _ _ n1 n1 lx1 _ (unhide PX1) (by omega) (by rw [enK_eq]; omega) (by have := unhide LX; have := unhide NX; rw [enK_eq]; omega)).mono ?_
  rintro e wm1 ⟨rfl, hbt, _⟩
  have szm1 := hbt.size
  replace OG := hide ((unhide OG).but hbt (.inr (by omega)))
  replace HB := hide (hbt.below (unhide HB) (by omega) (unhide HB).size)
  replace HV := hide (hbt.below (unhide HV) (by omega) (unhide HV).size)
  clear hbt PX1
  have hk0 : decide (enK (enK 1 lx0) lx1 < 0) = false := decide_eq_false (by rw [enK_eq, enK_eq]; omega)
  go_wp2_with fail
  refine (eqPQ _ _ _ _ _ lg lv _ (unhide OG).sl ((unhide SV).later (unhide HV)) (unhide OG).len ((unhide DG).symm) (unhide OG).max (unhide OG).lens).mono ?_
  rintro e w41 ⟨rfl, hb⟩
  have sz41 := hb.size
  replace OG := hide ((unhide OG).later hb)
  replace HB := hide (below_on (unhide HB) hb)
  replace HV := hide (below_on (unhide HV) hb)
  clear hb
  clear hk0
  have G41 : Hid (wg.heap.size ≤ w41.heap.size) := hide (by omega)
  go_wp2_with fail
  refine (markR _ _ _ _ _ lg _ (unhide OG) (unhide G41)).mono ?_
  rintro e wm1 ⟨rfl, hbt, om⟩
  have LG := hide (And.intro (unhide OG).sz (unhide OG).ml)
  have nk : ¬ (enK 1 lg < 0) := by rw [enK_eq]; omega
  replace HB := hide (hbt.below (unhide HB) (by omega) (unhide HB).size)
  replace HV := hide (hbt.below (unhide HV) (by omega) (unhide HV).size)
  replace OG := hide om
  clear hbt om
  go_wp2_with fail
  refine (heldR _ _ _ _ _ lg _ (unhide OG) (unhide LG).1 (unhide LG).2).mono ?_
  rintro e wh1 ⟨rfl, rfl⟩
  go_wp2_with fail
  refine (unhide TT0 _ ((unhide HS0).later (unhide HB))).mono ?_
  rintro e wh0 ⟨lh0, rfl, hb, zh0, dh0, oh0⟩
  have szh0 := hb.size
  replace OG := hide ((unhide OG).later hb)
  replace HB := hide (below_on (unhide HB) hb)
  replace HV := hide (below_on (unhide HV) hb)
  have Dh0 := hide dh0
  have Oh0 := hide oh0
  clear hb dh0 oh0
  go_wp2_with fail
  refine (unhide TT1 _ ((unhide HS1).later (unhide HB))).mono ?_
  rintro e wh1 ⟨lh1, rfl, hb, zh1, dh1, oh1⟩
  have szh1 := hb.size
  replace OG := hide ((unhide OG).later hb)
  replace Oh0 := hide ((unhide Oh0).later hb)
  replace HB := hide (below_on (unhide HB) hb)
  replace HV := hide (below_on (unhide HV) hb)
  have Dh1 := hide dh1
  have Oh1 := hide oh1
  clear hb dh1 oh1
  go_wp2_with fail
  refine (unhide CI _ _ _ _ _ _ _ _ _ (unhide Oh0).arg (unhide Dh0) (unhide Oh1).arg (unhide Dh1)).mono ?_
  rintro e wh ⟨ah, nh, ch, lh, okh, rfl, hb, oh, uh⟩
  obtain ⟨e1, e2⟩ := unhide US _ _ _ _ (unhide UV) uh
  subst e2
  replace OG := hide ((unhide OG).later hb)
  replace HB := hide (below_on (unhide HB) hb)
  replace HV := hide (below_on (unhide HV) hb)
  have DH := hide e1
  have OH := hide oh
  clear hb oh uh e1 Oh0 Dh0 Oh1 Dh1
  have hnh : Hid (nh = ng) := hide (by rw [← (unhide OH).len, ← unhide LV]; have h := congrArg List.length (unhide DH); simpa using h.symm)
  obtain rfl := unhide hnh
  clear hnh
  go_wp2_with fail
  refine (eqPQ _ _ _ _ _ lh lv _ (unhide OH).sl ((unhide SV).later (unhide HV)) (unhide OH).len ((unhide DH).symm) (unhide OH).max (unhide OH).lens).mono ?_
  rintro e w51 ⟨rfl, hb⟩
  replace OG := hide ((unhide OG).later hb)
  replace OH := hide ((unhide OH).later hb)
  replace HB := hide (below_on (unhide HB) hb)
  replace HV := hide (below_on (unhide HV) hb)
  clear hb
  go_wp2_with fail
  refine (heldR _ _ _ _ _ lg _ (unhide OG) (unhide LG).1 (unhide LG).2).mono ?_
  rintro e wh2 ⟨rfl, rfl⟩
  go_wp2
  go_ret
  exact ⟨rfl, unhide HB⟩
end Go.Proofs.Ytliaddmkomcmnaa
namespace Go.Proofs.Ytliaddmkomcmnaa
open Go.ChangeShapes Go.WideShapes Go.ChangeAt Go.RowKit Go.Joins
set_option linter.unusedVariables false
set_option maxRecDepth 100000
set_option linter.unusedSimpArgs false

theorem open_ratc {H : Type} {enc : TypeId × Value → H} {W : World} {m : Nat} {c0 c1 c2 c3 : Value} {x : DataW H × List MemPlace}
    (hf : DataW.trod enc Try.prog W 0 (fun _ => true) true m 26 [c0, c1, c2, c3] = some x) :
    ∃ p : QV × QD, (c0 = .bool p.1.num.g ∧ c1 = .slice p.1.num.a p.1.num.n p.1.num.c ∧ c2 = .bool p.1.den.g ∧ c3 = .slice p.1.den.a p.1.den.n p.1.den.c) ∧ AllSl W [(p.1.num, p.2.num), (p.1.den, p.2.den)] ∧ p.1.num.n ≤ maxLen ∧ p.1.den.n ≤ maxLen := by
  obtain ⟨y0, y1, n, hx, _, h0, h1⟩ := trod_struct2 Try.underlying26 hf
  have k0 : DataW.trod enc Try.prog W 0 (fun _ => true) true n 24 [c0, c1] = some y0 := by simpa [Value.cells, Try.cells24] using h0
  have k1 : DataW.trod enc Try.prog W 0 (fun _ => true) true n 24 [c2, c3] = some y1 := by simpa [Value.cells, Try.cells24] using h1
  obtain ⟨z0, z1, n1, _, _, p0, p1⟩ := trod_struct2 Try.underlying24 k0
  obtain ⟨z2, z3, n2, _, _, p2, p3⟩ := trod_struct2 Try.underlying24 k1
  have c_b : Try.prog.cellsOf 4 = 1 := by kernel_rfl
  have c_s : Try.prog.cellsOf 22 = 1 := by kernel_rfl
  obtain ⟨g, a, n', c, xs, rfl, rfl, s1, s2, s3, _⟩ := open_two (c0 := c0) (c1 := c1) (by simpa [c_b] using p0) (by simpa [c_s] using p1)
  obtain ⟨h, b, q, e, us, rfl, rfl, t1, t2, t3, _⟩ := open_two (c0 := c2) (c1 := c3) (by simpa [c_b] using p2) (by simpa [c_s] using p3)
  exact ⟨(⟨⟨g, a, n', c⟩, ⟨h, b, q, e⟩⟩, ⟨⟨g, xs⟩, ⟨h, us⟩⟩), ⟨rfl, rfl, rfl, rfl⟩, AllSl.cons ⟨rfl, s1, s2⟩ (AllSl.cons ⟨rfl, t1, t2⟩ (AllSl.nil _)), s3, t3⟩
theorem addr_add (b off k : Nat) : (⟨b, off, none⟩ : Addr).add k = ⟨b, off + k, none⟩ := by
  unfold Addr.add
  split
  · rename_i h; subst h; rfl
  · rfl
theorem addr_add_block (a : Addr) (k : Nat) : (a.add k).block = a.block := by unfold Addr.add; split <;> rfl
theorem open_PQ {H : Type} {enc : TypeId × Value → H} {W : World} {r : Reach} {b0 : Nat} {v : Value} {d : DataW H} {p : List MemPlace}
    (hv : Value.okWide Try.prog W r b0 57 v) (h : DataW.Trod enc Try.prog W 0 (fun _ => true) true 57 v d p) :
    ∃ (a : Option Addr) (n c : Nat) (l : List (QV × QD)), v = .slice a n c ∧ PSlQ W a l ∧ l.length = n ∧ n ≤ maxLen ∧ ∀ p ∈ l, p.1.num.n ≤ maxLen ∧ p.1.den.n ≤ maxLen := by
  obtain ⟨a, n, c, rfl⟩ := okWide_slice Try.underlying57 hv
  obtain ⟨fuel, hf⟩ := h
  rcases Go.Deep.open_slice Try.underlying57 hf with ⟨hcs, _⟩ | ⟨a', len, cap, m, n', D, Pl, hcs, _, hl, hm, hmm, _, hx⟩
  · simp only [Value.cells, List.cons.injEq, Value.slice.injEq, and_true] at hcs
    obtain ⟨rfl, rfl, rfl⟩ := hcs
    exact ⟨none, 0, 0, [], rfl, ⟨.inl rfl, fun p hp => by cases hp⟩, rfl, Nat.zero_le _, fun p hp => by cases hp⟩
  · simp only [Value.cells, List.cons.injEq, Value.slice.injEq, and_true] at hcs
    obtain ⟨rfl, rfl, rfl⟩ := hcs
    simp only [if_true] at hmm
    subst hmm
    have each : ∀ i, i < n → ∃ p : QV × QD, (W.cell? ((a'.add (i * 4)).add 0) = some (.bool p.1.num.g) ∧ W.cell? ((a'.add (i * 4)).add 1) = some (.slice p.1.num.a p.1.num.n p.1.num.c) ∧ W.cell? ((a'.add (i * 4)).add 2) = some (.bool p.1.den.g) ∧ W.cell? ((a'.add (i * 4)).add 3) = some (.slice p.1.den.a p.1.den.n p.1.den.c)) ∧ AllSl W [(p.1.num, p.2.num), (p.1.den, p.2.den)] ∧ p.1.num.n ≤ maxLen ∧ p.1.den.n ≤ maxLen := by
      intro i hi
      obtain ⟨cs, h1, h2⟩ := hx i (by omega)
      rw [Try.cells26] at h1
      obtain ⟨_, h3, h4⟩ := World.cells?_some h1
      match cs, h3 with
      | [c0, c1, c2, c3], _ =>
        obtain ⟨p, ⟨rfl, rfl, rfl, rfl⟩, hp⟩ := open_ratc h2
        exact ⟨p, ⟨h4 0 (by omega), h4 1 (by omega), h4 2 (by omega), h4 3 (by omega)⟩, hp⟩
    have inh : Inhabited (QV × QD) := ⟨(⟨⟨false, none, 0, 0⟩, ⟨false, none, 0, 0⟩⟩, ⟨⟨false, []⟩, ⟨false, []⟩⟩)⟩
    obtain ⟨f, hf⟩ := Go.Deep.choose_lt each
    refine ⟨some a', n, m, (List.range n).map f, rfl, ⟨?_, ?_⟩, by simp, Nat.le_trans hl hm, ?_⟩
    · by_cases h0 : n = 0
      · subst h0; exact .inl rfl
      · obtain ⟨b, off, spot⟩ := a'
        have hc := (hf 0 (by omega)).1.1
        have hspot : spot = none := by simpa [Addr.add] using World.cell?_spot hc
        subst hspot
        refine .inr ⟨b, off, rfl, ?_, fun i hi => ?_⟩
        · have := World.block_lt_of_cell? _ _ hc
          rw [addr_add, addr_add] at this
          exact this
        · have hi' : i < n := by simpa using hi
          have h1 := (hf i hi').1
          rw [addr_add, addr_add, addr_add, addr_add, addr_add] at h1
          simpa using h1
    · intro p hp
      obtain ⟨i, hi, rfl⟩ := List.mem_map.1 hp
      exact (hf i (List.mem_range.1 hi)).2.1
    · intro p hp
      obtain ⟨i, hi, rfl⟩ := List.mem_map.1 hp
      exact (hf i (List.mem_range.1 hi)).2.2
end Go.Proofs.Ytliaddmkomcmnaa
namespace Go.Proofs.Ytliaddmkomcmnaa
open Go.ChangeShapes Go.WideShapes Go.ChangeAt Go.RowKit Go.Joins
set_option linter.unusedVariables false
set_option maxRecDepth 100000
set_option linter.unusedSimpArgs false

set_option maxRecDepth 100000 in
theorem mulP_holds_lifted (os : Os) (started : os.Started) (H : Type) (enc : TypeId × Value → H) :
    ReturnsInHanded {} Try.checked os 7 .any (Rows.fnExactMulPolySpec.pre6 enc Try.prog Try.f7 Rows.fnExactMulPolyRow.domain false) (Rows.fnExactMulPolySpec.post enc Try.prog Try.f7 false true false false) := by
  refine returnsInHanded_of_change (C := Try.checked) own started (by kernel_rfl) Try.func7
    (ChangeSpec.witness6 (enc := enc) (C := Try.checked) false ⟨#[], #[.slice none 0 0, .slice none 0 0], []⟩ 8 (by kernel_rfl) (by kernel_rfl) (by kernel_rfl) (by kernel_rfl)) ?_
  intro W base args ds gs before hval0 hW hcnd _
  have hval : ∀ (j : Nat) t v, Try.f7.params[j]? = some t → args[j]? = some v → Value.okWide Try.prog W .any base t v := hval0
  have hW' := hW
  obtain ⟨p, q, hA0, hV, rfl, hfz, hnd⟩ := hW
  have hA : DataW.TrodAll enc Try.prog W 0 (fun _ => true) true Try.f7.params.toList args.toList ds p := hA0
  rw [Try.params7] at hA hval
  obtain ⟨v0, vs0, d0, ds0, p0, q0, hargs, rfl, rfl, h0, r0⟩ := trodAll_cons hA
  obtain ⟨v1, vs1, d1, ds1, p1, q1, rfl, rfl, rfl, h1, r1⟩ := trodAll_cons r0
  obtain ⟨rfl, rfl, rfl⟩ := trodAll_nil r1
  obtain rfl : args = #[v0, v1] := by cases args; simp_all
  obtain ⟨rfl, rfl⟩ := trodVars_none hV
  have lt0 : ∀ x ∈ p0, x.block < W.heap.size := by obtain ⟨m, hm⟩ := h0; exact DataW.trod_lt m _ _ _ hm
  obtain ⟨a0, n0, c0, l0, rfl, sl0, hn0, hm0, ml0⟩ := open_PQ (hval 0 57 v0 rfl rfl) h0
  have lt1 : ∀ x ∈ p1, x.block < W.heap.size := by obtain ⟨m, hm⟩ := h1; exact DataW.trod_lt m _ _ _ hm
  obtain ⟨a1, n1, c1, l1, rfl, sl1, hn1, hm1, ml1⟩ := open_PQ (hval 1 57 v1 rfl rfl) h1
  clear hA0 hval0
  refine (lawMulP_walk a0 n0 c0 l0 a1 n1 c1 l1 W sl0 hn0 sl1 hn1 hm0 ml0 hm1 ml1).mono fun e W' ⟨he, bel⟩ => ?_
  subst he
  exact ⟨_, rfl, _, _, _, [], _, [], hW', trodAll_mk1 (shut_bool Try.underlying4 _), (trodAll_cons_mk (Below.trod laidOut (by kernel_rfl) (of_decide_eq_true (by kernel_rfl)) h0 bel lt0) (trodAll_cons_mk (Below.trod laidOut (by kernel_rfl) (of_decide_eq_true (by kernel_rfl)) h1 bel lt1) trodAll_mk0)), rfl, bel.frame _, fun h => by cases h⟩

theorem mulP_holds_c0 : (Rows.fnExactMulPolyRow.wf (OpenSpec.ofChange Rows.fnExactMulPolySpec)) = true := by kernel_rfl
theorem mulP_holds_c1 : (laidOutB Try.pinned.checked.prog) = true := by kernel_rfl
theorem mulP_holds_c2 : (mapsRowed Try.pinned.checked.prog) = true := by kernel_rfl
theorem mulP_holds_c3 : (Try.f7.params.all (Try.pinned.checked.prog.readableRec ·)) = true := by kernel_rfl
theorem mulP_holds_c4 : (namedTie Try.pinned.checked.prog Rows.fnExactMulPolyRow.named Rows.fnExactMulPolySpec.vars) = true := by kernel_rfl
theorem mulP_holds_c5 : (Rows.fnExactMulPolyRow.stops == []) = true := by kernel_rfl
theorem mulP_holds_c6 : (Try.pinned.checked.prog.stops == []) = true := by kernel_rfl
theorem mulP_holds_c7 : (Rows.fnExactMulPolyRow.knobs == []) = true := by kernel_rfl
theorem mulP_holds_c8 : (Try.pinned.checked.prog.stopKnobs == []) = true := by kernel_rfl
theorem mulP_holds_c9 : (Rows.fnExactMulPolyRow.inPlace == Try.pinned.checked.prog.inPlace 7) = true := by kernel_rfl
theorem mulP_holds_c10 : (Rows.fnExactMulPolyRow.unfollowed == Try.pinned.checked.prog.unfollowed 7) = true := by kernel_rfl
theorem mulP_holds_c11 : (Rows.fnExactMulPolyRow.recurses == Try.pinned.checked.prog.recurses 7) = true := by kernel_rfl
theorem mulP_holds_c12 : (Rows.fnExactMulPolyRow.named == Try.pinned.checked.prog.varsNamed 7) = true := by kernel_rfl
theorem mulP_holds_c13 : (Rows.fnExactMulPolyRow.maps == (Try.f7.params.toList ++ Rows.fnExactMulPolySpec.plain.varTypes Try.pinned.checked.prog).any (Try.pinned.checked.prog.mapsRec ·)) = true := by kernel_rfl
theorem mulP_holds_c14 : (Rows.fnExactMulPolyRow.ifaces == (Try.f7.params.toList ++ Rows.fnExactMulPolySpec.plain.varTypes Try.pinned.checked.prog).any (Try.pinned.checked.prog.ifacesRec ·)) = true := by kernel_rfl
theorem mulP_holds_c15 : (Rows.fnExactMulPolyRow.mapsOut == Try.pinned.checked.prog.mapsAmong Try.f7.resultTypes.toList) = true := by kernel_rfl
theorem mulP_holds_c16 : (Rows.fnExactMulPolyRow.loops == (Try.f7.params.toList ++ Rows.fnExactMulPolySpec.plain.varTypes Try.pinned.checked.prog).any (Try.pinned.checked.prog.loopsFrom ·)) = true := by kernel_rfl
theorem mulP_holds_c17 : (Rows.fnExactMulPolyRow.wideKeys == (Try.f7.params.toList ++ Rows.fnExactMulPolySpec.plain.varTypes Try.pinned.checked.prog ++ Try.f7.resultTypes.toList).any (Try.pinned.checked.prog.wideKeysFrom ·)) = true := by kernel_rfl
theorem mulP_holds_c18 : (Rows.fnExactMulPolySpec.vars.all (Try.pinned.checked.prog.varReadable ·)) = true := by kernel_rfl
theorem mulP_holds_c19 : (Try.f7.resultTypes.all (fun t => Try.pinned.checked.prog.readableRec t && decide (t < Try.pinned.checked.prog.types.size))) = true := by kernel_rfl
theorem mulP_holds_c20 : (Rows.fnExactMulPolyRow.ifacesOut == Try.f7.resultTypes.toList.any (Try.pinned.checked.prog.ifacesRec ·)) = true := by kernel_rfl
theorem mulP_holds_c21 : (Rows.fnExactMulPolyRow.loopsOut == Try.f7.resultTypes.toList.any (Try.pinned.checked.prog.loopsFrom ·)) = true := by kernel_rfl
theorem mulP_holds_c22 : (Rows.fnExactMulPolyRow.plainKeys == Try.pinned.checked.prog.plainKeys) = true := by kernel_rfl
theorem mulP_holds_c23 : (Rows.fnExactMulPolyRow.shortTexts.isNone) = true := by kernel_rfl
theorem mulP_holds_c24 : (Try.pinned.checked.prog.stopsHeard) = true := by kernel_rfl
theorem mulP_holds_c25 : (Try.pinned.checked.prog.mayEnter) = true := io_enter
theorem mulP_holds_c26 : (Rows.fnExactMulPolyRow.lifted == Try.pinned.checked.prog.liftsFinal) = true := by rw [io_lifts]; kernel_rfl
theorem mulP_holds_c27 : (Try.pinned.checked.prog.make == some Rows.fnExactMulPolyRow.make) = true := by rw [io_make]; kernel_rfl
theorem mulP_holds_c28 : (Rows.fnExactMulPolyRow.kinds == (if Rows.fnExactMulPolyRow.domain.isEmpty then [] else Try.f7.params.toList.map fun t => match Try.pinned.checked.prog.underlying t with | some (.int k) => some k | _ => none)) = true := by kernel_rfl
theorem mulP_holds_c29 : (Rows.fnExactMulPolyRow.pinned == Rows.fnExactMulPolyRow.pinnedBy) = true := by kernel_rfl
theorem mulP_holds_c30 : (Rows.fnExactMulPolyRow.veiled == (Try.f7.params.toList ++ Rows.fnExactMulPolySpec.plain.varTypes Try.pinned.checked.prog ++ Try.f7.resultTypes.toList).any (Try.pinned.checked.prog.veiledRec ·)) = true := by kernel_rfl
theorem mulP_holds_c31 : (Rows.fnExactMulPolyRow.veiledFits Try.pinned.checked.prog Try.f7.params.toList (Try.f7.params.toList ++ Rows.fnExactMulPolySpec.plain.varTypes Try.pinned.checked.prog ++ Try.f7.resultTypes.toList)) = true := by kernel_rfl
theorem mulP_holds_and {a b : Bool} (h : a = true) (k : b = true) : (a && b) = true := by rw [h, k]; rfl
theorem mulP_holds_closed : joinedFacts Try.pinned.checked.prog 7 Try.f7 Rows.fnExactMulPolySpec Rows.fnExactMulPolyRow = true := (mulP_holds_and (mulP_holds_and (mulP_holds_and (mulP_holds_and (mulP_holds_and (mulP_holds_and (mulP_holds_and (mulP_holds_and (mulP_holds_and (mulP_holds_and (mulP_holds_and (mulP_holds_and (mulP_holds_and (mulP_holds_and (mulP_holds_and (mulP_holds_and (mulP_holds_and (mulP_holds_and (mulP_holds_and (mulP_holds_and (mulP_holds_and (mulP_holds_and (mulP_holds_and (mulP_holds_and (mulP_holds_and (mulP_holds_and (mulP_holds_and (mulP_holds_and (mulP_holds_and (mulP_holds_and (mulP_holds_and mulP_holds_c0 mulP_holds_c1) mulP_holds_c2) mulP_holds_c3) mulP_holds_c4) mulP_holds_c5) mulP_holds_c6) mulP_holds_c7) mulP_holds_c8) mulP_holds_c9) mulP_holds_c10) mulP_holds_c11) mulP_holds_c12) mulP_holds_c13) mulP_holds_c14) mulP_holds_c15) mulP_holds_c16) mulP_holds_c17) mulP_holds_c18) mulP_holds_c19) mulP_holds_c20) mulP_holds_c21) mulP_holds_c22) mulP_holds_c23) mulP_holds_c24) mulP_holds_c25) mulP_holds_c26) mulP_holds_c27) mulP_holds_c28) mulP_holds_c29) mulP_holds_c30) mulP_holds_c31)
theorem mulP_holds_named : Try.pinned.checked.prog.funcNamed Rows.fnExactMulPolyRow.func = some 7 := by kernel_rfl
theorem mulP_holds_inst : Try.f7.isInstance Try.pinned.checked.prog Rows.fnExactMulPolyRow.origin Rows.fnExactMulPolyRow.targs := of_decide_eq_true (by kernel_rfl)
theorem mulP_holds_wrap : Try.f7.isWrapper Try.pinned.checked.prog Rows.fnExactMulPolyRow.wrapper Rows.fnExactMulPolyRow.mainSum := by unfold Func.isWrapper; first | (rw [if_pos (by decide +kernel)]; kernel_rfl) | (rw [if_neg (by decide +kernel)]; exact ⟨rfl, rfl⟩)
theorem mulP_holds : Rows.FnExactMulPolySaid :=
  OpenClaim.holds_of_wide 7 Try.f7 rfl rfl rfl rfl rfl rfl rfl ⟨rfl, rfl, rfl, rfl, rfl⟩ rfl rfl rfl rfl rfl mulP_holds_named Try.func7 mulP_holds_closed mulP_holds_inst mulP_holds_wrap
    (fun os started H enc _ => mulP_holds_lifted os started H enc)
#print axioms mulP_holds
end Go.Proofs.Ytliaddmkomcmnaa
