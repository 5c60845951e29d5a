/- Numbers read with their sign: both sides' ReadNumber. No condition beyond those typed. Written by mknt16.py. -/
import Derived.Test.YtoffondgdnmhkaaLi15
import Derived.Test.YtoffondgdnmhkaaShelf
namespace Go.Proofs.Ytoffondgdnmhkaa
open Go.RowKit
set_option linter.unusedVariables false
set_option maxRecDepth 100000
set_option linter.unusedSimpArgs false

theorem li_some {l : List UInt8} {v : Nat} (h : numV 9999 l = some v) : liV l = (v : Int) ∧ liK l = l.length := by
  have h2 := num_dd h
  have e : dgs l = l := by
    have k := dd_len 3 v (by omega)
    have := dgs_of (l := l) (d := l) (r := []) (by simp) (by rw [h2.1]; exact dd_digits v) (by rw [h2.1]; omega) (fun c t k => by cases k)
    exact this
  unfold liV liK
  rw [e, h]
  exact ⟨rfl, rfl⟩
theorem li_none {l : List UInt8} (h : numV 9999 l = none) : liV l < 0 ∨ liK l < l.length := by
  unfold liV liK
  cases e : numV 9999 (dgs l) with
  | none => left; show (-1 : Int) < 0; omega
  | some v =>
    right
    show (dgs l).length < l.length
    have p := dgs_pre l
    have q := congrArg List.length p
    rw [List.length_append] at q
    by_cases c : (l.drop (dgs l).length).length = 0
    · rw [List.length_eq_zero_iff.1 c, List.append_nil] at p
      rw [← p, h] at e
      cases e
    · omega
/-- The sign, the digits, the number. -/
def rdN (l : List UInt8) : Bool := Lib.hasPrefix l [45]
def rdD (l : List UInt8) : List UInt8 := Lib.trimPrefix l [45]
def rdM (l : List UInt8) : Nat := (numV 9999 (rdD l)).getD 0
def rdB (l : List UInt8) : Bool := (numV 9999 (rdD l)).isSome && !(rdN l && decide (rdM l = 0))
def rdV (l : List UInt8) : Int := if rdN l = true then -(rdM l : Int) else (rdM l : Int)
theorem rdM_le (l : List UInt8) : rdM l ≤ 9999 := by
  unfold rdM
  cases e : numV 9999 (rdD l) with
  | none => simp
  | some v => exact (num_dd e).2
theorem rdD_len (l : List UInt8) : (rdD l).length ≤ l.length := by unfold rdD Lib.trimPrefix; split <;> simp
set_option maxHeartbeats 4000000 in
theorem ReadNumberI (s : ByteArray) (w : World) (hs : s.size ≤ 1048576) :
    Calls Try.prog 11 #[.string s] w fun e w' => e = .returned (.tuple #[.int .i64 (rdV s.data.toList), .bool (rdB s.data.toList)]) ∧ Below w.heap.size w w' := by
  obtain ⟨bs, hbs⟩ : ∃ bs, bs = s.data.toList := ⟨_, rfl⟩
  have hl : bs.length = s.size := by rw [hbs, size_list]
  have dl := rdD_len bs
  have C1 : Hid (∀ w, Calls Try.prog 19 #[.string s, .string { data := #[45] }] w fun e w' => e = .returned (.tuple #[.string (st (rdD bs)), .bool (rdN bs)]) ∧ w' = w) := hide (fun w => by
    have h := Try.strings_CutPrefix s { data := #[45] } w
    rw [← hbs] at h
    exact h)
  have C2 : Hid (∀ w, Calls Try.prog 20 #[.string (st (rdD bs)), .int .i64 9999] w fun e w' => e = .returned (.tuple #[.int .i64 ((rdM bs : Nat) : Int), .bool (numV 9999 (rdD bs)).isSome]) ∧ Below w.heap.size w w') := hide (fun w => by
    have h := numI (st (rdD bs)) 9999 w (by omega) (by rw [st_size]; omega)
    rw [st_data] at h
    exact h)
  have ml := rdM_le bs
  rw [← hbs]
  unfold rdV rdB
  generalize rdD bs = D at *
  generalize rdM bs = m at *
  generalize rdN bs = g at *
  generalize (numV 9999 D).isSome = t at *
  have wm : IntKind.i64.wrap (-(m : Int)) = -(m : Int) := by rw [IntKind.wrap_i64]; omega
  clear hbs hl dl hs ml
  cases g
  · simp only [Bool.false_and, Bool.not_false, Bool.and_true, Bool.false_eq_true, if_false]
    go_enter Try.func11, Try.ntmps11
    go_wp2_with fail
    refine (unhide C1 _).mono ?_
    rintro e w1 ⟨rfl, rfl⟩
    go_wp2_with fail
    refine (unhide C2 _).mono ?_
    rintro e w2 ⟨rfl, hb⟩
    go_wp2_with fail
    go_ret2
    exact ⟨rfl, hb⟩
  · simp only [Bool.true_and, if_true]
    cases t
    · simp only [Bool.false_and]
      go_enter Try.func11, Try.ntmps11
      go_wp2_with fail
      refine (unhide C1 _).mono ?_
      rintro e w1 ⟨rfl, rfl⟩
      go_wp2_with fail
      refine (unhide C2 _).mono ?_
      rintro e w2 ⟨rfl, hb⟩
      go_wp2_with fail
      go_ret2
      exact ⟨rfl, hb⟩
    · by_cases z : m = 0
      · subst z
        go_enter Try.func11, Try.ntmps11
        go_wp2_with fail
        refine (unhide C1 _).mono ?_
        rintro e w1 ⟨rfl, rfl⟩
        go_wp2_with fail
        refine (unhide C2 _).mono ?_
        rintro e w2 ⟨rfl, hb⟩
        go_wp2_with fail
        go_ret2
        exact ⟨rfl, hb⟩
      · have z' : decide (m = 0) = false := decide_eq_false z
        have z2 : ((m : Int) != 0) = true := by simpa using z
        rw [z']
        go_enter Try.func11, Try.ntmps11
        go_wp2_with fail
        refine (unhide C1 _).mono ?_
        rintro e w1 ⟨rfl, rfl⟩
        go_wp2_with fail
        refine (unhide C2 _).mono ?_
        rintro e w2 ⟨rfl, hb⟩
        go_wp2_with fail
        go_ret2
        exact ⟨rfl, hb⟩
set_option maxHeartbeats 4000000 in
theorem ReadNumberS (s : ByteArray) (w : World) (hs : s.size ≤ 1048576) :
    Calls Try.prog 10 #[.string s] w fun e w' => e = .returned (.tuple #[.int .i64 (rdV s.data.toList), .bool (rdB s.data.toList)]) ∧ Below w.heap.size w w' := by
  obtain ⟨bs, hbs⟩ : ∃ bs, bs = s.data.toList := ⟨_, rfl⟩
  have hl : bs.length = s.size := by rw [hbs, size_list]
  rw [← hbs]
  by_cases g : rdN bs = true
  · have NG : rdN bs = true := g
    obtain ⟨tl, htl⟩ : ∃ tl, bs = 45 :: tl := by
      unfold rdN Lib.hasPrefix at g
      match bs, g with
      | c :: tl, g =>
        have : c = 45 := by
          have k := g
          simp at k
          exact k.symm
        exact ⟨tl, by rw [this]⟩
    have hp0 : 0 < s.size := by rw [← hl, htl]; simp
    have hp0' : (0 : Int) < (s.size : Int) := by omega
    have hp1 : 1 ≤ s.size := by omega
    have dp : decide ((0 : Int) < (s.size : Int)) = true := decide_eq_true hp0'
    have i0 : s[0]'hp0 = 45 := by
      have e : s[0]'hp0 = s.data.toList[0]'(by simpa using hp0) := rfl
      rw [e]
      have : s.data.toList[0]? = some 45 := by rw [← hbs, htl]; rfl
      exact (List.getElem?_eq_some_iff.1 this).2
    have TD : (s.extract 1 s.size).data.toList = rdD bs := by
      rw [Lib.extract_data, ← hbs, htl]
      have : rdD (45 :: tl) = tl := by unfold rdD Lib.trimPrefix Lib.hasPrefix; simp
      rw [this, List.drop_succ_cons, List.drop_zero, List.take_of_length_le (by rw [← hl, htl]; simp)]
    have EZ : (s.extract 1 s.size).size = s.size - 1 := by simp
    have DL : (rdD bs).length = s.size - 1 := by rw [← TD, size_list, EZ]
    have TS : (s.extract 1 s.size).size ≤ 1048576 := by rw [EZ]; omega
    have CL := hide (fun w => liS (s.extract 1 s.size) 0 w (Nat.zero_le _) TS)
    rw [List.drop_zero, TD, Nat.zero_add] at CL
    clear htl TD hbs hl g TS EZ
    cases EN : numV 9999 (rdD bs) with
    | none =>
      have F := li_none EN
      have RV : rdV bs = 0 := by unfold rdV rdM; rw [EN]; cases rdN bs <;> rfl
      have RB : rdB bs = false := by unfold rdB; rw [EN]; rfl
      rw [RV, RB]
      generalize liV (rdD bs) = N at *
      generalize liK (rdD bs) = K at *
      rw [DL] at F
      clear EN RV RB DL
      by_cases n0 : N < 0
      · have d0 : decide (N < 0) = true := decide_eq_true n0
        clear F
        go_enter Try.func10, Try.ntmps10
        go_wp2_with fail
        refine (unhide CL _).mono ?_
        rintro e w1 ⟨rfl, hb⟩
        go_wp2_with fail
        go_ret2
        exact ⟨rfl, hb⟩
      · have k0 : K < (s.size - 1) := by omega
        have d0 : decide (N < 0) = false := decide_eq_false n0
        have k1 : (K : Int) < (((s.size - 1) : Nat) : Int) := by omega
        have d1 : decide ((K : Int) < (((s.size - 1) : Nat) : Int)) = true := decide_eq_true k1
        clear F
        go_enter Try.func10, Try.ntmps10
        go_wp2_with fail
        refine (unhide CL _).mono ?_
        rintro e w1 ⟨rfl, hb⟩
        go_wp2_with fail
        go_ret2
        exact ⟨rfl, hb⟩
    | some v =>
      have F := li_some EN
      have M : rdM bs = v := by unfold rdM; rw [EN]; rfl
      have v9 := (num_dd EN).2
      unfold rdV rdB
      rw [M, EN]
      rw [F.1, F.2, DL] at CL
      have k1 : ¬ ((((s.size - 1) : Nat) : Int) < (((s.size - 1) : Nat) : Int)) := by omega
      have d1 : decide ((((s.size - 1) : Nat) : Int) < (((s.size - 1) : Nat) : Int)) = false := decide_eq_false k1
      have n0 : ¬ ((v : Int) < 0) := by omega
      have d0 : decide ((v : Int) < 0) = false := decide_eq_false n0
      rw [NG]
      clear F M DL EN
      by_cases z : v = 0
      · subst z
        go_enter Try.func10, Try.ntmps10
        go_wp2_with fail
        refine (unhide CL _).mono ?_
        rintro e w1 ⟨rfl, hb⟩
        go_wp2_with fail
        go_ret2
        exact ⟨rfl, hb⟩
      · have z1 : ((v : Int) == 0) = false := by simpa using z
        have z2 : ¬ ((v : Int) = 0) := by omega
        have z3 : decide (v = 0) = false := decide_eq_false z
        have wn : IntKind.i64.wrap (-(v : Int)) = -(v : Int) := by rw [IntKind.wrap_i64]; omega
        rw [z3]
        go_enter Try.func10, Try.ntmps10
        go_wp2_with fail
        refine (unhide CL _).mono ?_
        rintro e w1 ⟨rfl, hb⟩
        go_wp2_with fail
        go_ret2
        exact ⟨rfl, hb⟩
  · have NG : rdN bs = false := by simpa using g
    have TD : rdD bs = bs := by unfold rdD Lib.trimPrefix; rw [if_neg (by rw [show Lib.hasPrefix bs [45] = false from NG]; simp)]
    have DL : (rdD bs).length = s.size := by rw [TD, hl]
    have CL := hide (fun w => liS s 0 w (Nat.zero_le _) hs)
    rw [List.drop_zero, ← hbs, Nat.zero_add, ← TD] at CL
    by_cases z : s.size = 0
    · have hp0' : ¬ (0 : Int) < (s.size : Int) := by omega
      have dp : decide ((0 : Int) < (s.size : Int)) = false := decide_eq_false hp0'
      clear TD hbs hl g hs z
      cases EN : numV 9999 (rdD bs) with
      | none =>
        have F := li_none EN
        have RV : rdV bs = 0 := by unfold rdV rdM; rw [EN]; cases rdN bs <;> rfl
        have RB : rdB bs = false := by unfold rdB; rw [EN]; rfl
        rw [RV, RB]
        generalize liV (rdD bs) = N at *
        generalize liK (rdD bs) = K at *
        rw [DL] at F
        clear EN RV RB DL
        by_cases n0 : N < 0
        · have d0 : decide (N < 0) = true := decide_eq_true n0
          clear F
          go_enter Try.func10, Try.ntmps10
          go_wp2_with fail
          refine (unhide CL _).mono ?_
          rintro e w1 ⟨rfl, hb⟩
          go_wp2_with fail
          go_ret2
          exact ⟨rfl, hb⟩
        · have k0 : K < s.size := by omega
          have d0 : decide (N < 0) = false := decide_eq_false n0
          have k1 : (K : Int) < ((s.size : Nat) : Int) := by omega
          have d1 : decide ((K : Int) < ((s.size : Nat) : Int)) = true := decide_eq_true k1
          exfalso
          omega
      | some v =>
        have F := li_some EN
        have M : rdM bs = v := by unfold rdM; rw [EN]; rfl
        have v9 := (num_dd EN).2
        unfold rdV rdB
        rw [M, EN]
        rw [F.1, F.2, DL] at CL
        have k1 : ¬ (((s.size : Nat) : Int) < ((s.size : Nat) : Int)) := by omega
        have d1 : decide (((s.size : Nat) : Int) < ((s.size : Nat) : Int)) = false := decide_eq_false k1
        have n0 : ¬ ((v : Int) < 0) := by omega
        have d0 : decide ((v : Int) < 0) = false := decide_eq_false n0
        rw [NG]
        clear F M DL EN
        go_enter Try.func10, Try.ntmps10
        go_wp2_with fail
        refine (unhide CL _).mono ?_
        rintro e w1 ⟨rfl, hb⟩
        go_wp2_with fail
        go_ret2
        exact ⟨rfl, hb⟩
    · have hp0 : 0 < s.size := by omega
      have hp0' : (0 : Int) < (s.size : Int) := by omega
      have dp : decide ((0 : Int) < (s.size : Int)) = true := decide_eq_true hp0'
      obtain ⟨c0, hc0⟩ : ∃ c, c = bs[0]'(by omega) := ⟨_, rfl⟩
      have i0 : s[0]'hp0 = c0 := by rw [hc0]; subst hbs; rfl
      have c1 : c0 ≠ 45 := by
        intro e
        apply g
        obtain ⟨d, tl, hd⟩ := List.exists_cons_of_ne_nil (show bs ≠ [] by intro k; rw [k] at hl; simp at hl; omega)
        subst hd
        have : d = 45 := by rw [← e, hc0]; rfl
        unfold rdN Lib.hasPrefix
        simp [this]
      have c2 : ((c0.toNat : Int) == 45) = false := by
        rw [beq_eq_false_iff_ne]
        intro k
        exact c1 (by have := u8_of (c := c0) (k := 45) (by omega) (by omega); rw [this]; rfl)
      have c3 : ¬ ((c0.toNat : Int) = 45) := by simpa using c2
      clear TD hbs hl g hs z hc0 c1
      cases EN : numV 9999 (rdD bs) with
      | none =>
        have F := li_none EN
        have RV : rdV bs = 0 := by unfold rdV rdM; rw [EN]; cases rdN bs <;> rfl
        have RB : rdB bs = false := by unfold rdB; rw [EN]; rfl
        rw [RV, RB]
        generalize liV (rdD bs) = N at *
        generalize liK (rdD bs) = K at *
        rw [DL] at F
        clear EN RV RB DL
        by_cases n0 : N < 0
        · have d0 : decide (N < 0) = true := decide_eq_true n0
          clear F
          go_enter Try.func10, Try.ntmps10
          go_wp2_with fail
          refine (unhide CL _).mono ?_
          rintro e w1 ⟨rfl, hb⟩
          go_wp2_with fail
          go_ret2
          exact ⟨rfl, hb⟩
        · have k0 : K < s.size := by omega
          have d0 : decide (N < 0) = false := decide_eq_false n0
          have k1 : (K : Int) < ((s.size : Nat) : Int) := by omega
          have d1 : decide ((K : Int) < ((s.size : Nat) : Int)) = true := decide_eq_true k1
          clear F
          go_enter Try.func10, Try.ntmps10
          go_wp2_with fail
          refine (unhide CL _).mono ?_
          rintro e w1 ⟨rfl, hb⟩
          go_wp2_with fail
          go_ret2
          exact ⟨rfl, hb⟩
      | some v =>
        have F := li_some EN
        have M : rdM bs = v := by unfold rdM; rw [EN]; rfl
        have v9 := (num_dd EN).2
        unfold rdV rdB
        rw [M, EN]
        rw [F.1, F.2, DL] at CL
        have k1 : ¬ (((s.size : Nat) : Int) < ((s.size : Nat) : Int)) := by omega
        have d1 : decide (((s.size : Nat) : Int) < ((s.size : Nat) : Int)) = false := decide_eq_false k1
        have n0 : ¬ ((v : Int) < 0) := by omega
        have d0 : decide ((v : Int) < 0) = false := decide_eq_false n0
        rw [NG]
        clear F M DL EN
        go_enter Try.func10, Try.ntmps10
        go_wp2_with fail
        refine (unhide CL _).mono ?_
        rintro e w1 ⟨rfl, hb⟩
        go_wp2_with fail
        go_ret2
        exact ⟨rfl, hb⟩
end Go.Proofs.Ytoffondgdnmhkaa
