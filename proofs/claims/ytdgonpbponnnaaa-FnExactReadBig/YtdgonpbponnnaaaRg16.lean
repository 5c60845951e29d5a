/- ReadBig of the program: a loop by goto, by value. No condition beyond those typed. Written by mkrb16.py. -/
import Derived.Test.YtdgonpbponnnaaaRb16
import Derived.Test.YtdgonpbponnnaaaPd16
import Derived.Test.YtdgonpbponnnaaaSgn
import Derived.Test.YtdgonpbponnnaaaAddT
import Derived.Test.YtdgonpbponnnaaaShelf
import Derived.ScopeJumps
import Derived.WalkMore
namespace Go.Proofs.Ytdgonpbponnnaaa
open Go.RowKit
set_option linter.unusedVariables false
set_option maxRecDepth 100000
set_option linter.unusedSimpArgs false

/-- By a goto to one of two labels: what holds there; else as Q. -/
def two16 (l0 l1 : Nat) (J0 J1 : Act → World → Prop) (Q : Exit → Act → World → Prop) : Exit → Act → World → Prop
  | .goto l, a, w => (l = l0 ∧ J0 a w) ∨ (l = l1 ∧ J1 a w)
  | e, a, w => Q e a w
/-- A scope with two labels: behind the first one there is no jump, behind the second one a measure falls. -/
theorem wp_scope_two16 {P : Program} {a : Act} {w : World} {Q : Exit → Act → World → Prop} {c r0 r1 : Code} (l0 l1 : Nat) (J0 J1 : Act → World → Prop) (μ : Act → World → Nat) (h0 : findLabel c l0 = some r0) (h1 : findLabel c l1 = some (Code.skip.seq r1))
    (first : (∀ a w, J1 a w → r1.wp P (two16 l0 l1 J0 J1 Q) a w) → c.wp P (two16 l0 l1 J0 J1 Q) a w)
    (pass0 : ∀ a w, J0 a w → r0.wp P (Exit.noGoto Q) a w)
    (pass1 : ∀ a w, J1 a w → r1.wp P (two16 l0 l1 J0 (fun a' w' => J1 a' w' ∧ μ a' w' < μ a w) Q) a w) : (Code.scope c).wp P Q a w := by
  have pass1s : ∀ a w, J1 a w → (Code.skip.seq r1).wp P (two16 l0 l1 J0 (fun a' w' => J1 a' w' ∧ μ a' w' < μ a w) Q) a w := fun a w h => wp_seq (wp_skip (pass1 a w h))
  intro b k cs
  have g0 : gotoIn l0 (.inScope c :: k) = some (.code r0 :: .inScope c :: k) := by simp [gotoIn, h0]
  have g1 : gotoIn l1 (.inScope c :: k) = some (.code (Code.skip.seq r1) :: .inScope c :: k) := by simp [gotoIn, h1]
  have key0 : ∀ a w, J0 a w → ∃ e a' w', Q e a' w' ∧ Arrives P (lone (b.at a (.code r0 :: .inScope c :: k)) cs w) b k cs e a' w' := by
    intro a w hJ
    obtain ⟨e, a₁, w₁, hq, harr⟩ := pass0 a w hJ b (.inScope c :: k) cs
    cases e with
    | normal => exact ⟨.normal, a₁, w₁, hq, Steps.trans harr (.one step_inScope)⟩
    | exit id => exact ⟨.exit id, a₁, w₁, hq, fun k' hk => harr k' (by simp [exitTo, hk])⟩
    | goto l' => exact hq.elim
    | ret => exact ⟨_, a₁, w₁, hq, harr⟩
    | panic ch => exact ⟨_, a₁, w₁, hq, harr⟩
    | outgrown => exact ⟨_, a₁, w₁, hq, harr⟩
  have key1 : ∀ n a w, μ a w = n → J1 a w → ∃ e a' w', Q e a' w' ∧ Arrives P (lone (b.at a (.code (Code.skip.seq r1) :: .inScope c :: k)) cs w) b k cs e a' w' := by
    intro n
    induction n using Nat.strongRecOn with
    | _ n ih =>
      intro a w hn hJ
      obtain ⟨e, a₁, w₁, hq, harr⟩ := pass1s a w hJ b (.inScope c :: k) cs
      cases e with
      | normal => exact ⟨.normal, a₁, w₁, hq, Steps.trans harr (.one step_inScope)⟩
      | exit id => exact ⟨.exit id, a₁, w₁, hq, fun k' hk => harr k' (by simp [exitTo, hk])⟩
      | goto l' =>
        rcases hq with ⟨rfl, hJ'⟩ | ⟨rfl, hJ', hlt⟩
        · obtain ⟨e₂, a₂, w₂, hq₂, harr₂⟩ := key0 a₁ w₁ hJ'
          exact ⟨e₂, a₂, w₂, hq₂, .of_steps (harr _ g0) harr₂⟩
        · obtain ⟨e₂, a₂, w₂, hq₂, harr₂⟩ := ih _ (by omega) a₁ w₁ rfl hJ'
          exact ⟨e₂, a₂, w₂, hq₂, .of_steps (harr _ g1) harr₂⟩
      | ret => exact ⟨_, a₁, w₁, hq, harr⟩
      | panic ch => exact ⟨_, a₁, w₁, hq, harr⟩
      | outgrown => exact ⟨_, a₁, w₁, hq, harr⟩
  obtain ⟨e, a₁, w₁, hq, harr⟩ := first (fun a w h => wp_mono (pass1 a w h) (fun e a' w' q => by
    cases e with
    | goto l' =>
      rcases q with q | ⟨q1, q2, _⟩
      · exact .inl q
      · exact .inr ⟨q1, q2⟩
    | _ => exact q)) b (.inScope c :: k) cs
  cases e with
  | normal => exact ⟨.normal, a₁, w₁, hq, .head step_scope (Steps.trans harr (.one step_inScope))⟩
  | exit id => exact ⟨.exit id, a₁, w₁, hq, fun k' hk => .head step_scope (harr k' (by simp [exitTo, hk]))⟩
  | goto l' =>
    rcases hq with ⟨rfl, hJ'⟩ | ⟨rfl, hJ'⟩
    · obtain ⟨e₂, a₂, w₂, hq₂, harr₂⟩ := key0 a₁ w₁ hJ'
      exact ⟨e₂, a₂, w₂, hq₂, .of_steps (.head step_scope (harr _ g0)) harr₂⟩
    · obtain ⟨e₂, a₂, w₂, hq₂, harr₂⟩ := key1 _ a₁ w₁ rfl hJ'
      exact ⟨e₂, a₂, w₂, hq₂, .of_steps (.head step_scope (harr _ g1)) harr₂⟩
  | ret => exact ⟨_, a₁, w₁, hq, .of_steps (.one step_scope) harr⟩
  | panic ch => exact ⟨_, a₁, w₁, hq, .of_steps (.one step_scope) harr⟩
  | outgrown => exact ⟨_, a₁, w₁, hq, .of_steps (.one step_scope) harr⟩
theorem nm_put16 {L L' : List Int} {n d : Nat} (h : Nm L (n : Int)) (ok : okL L') (hv : val L' = 10 * val L + (d : Int)) (hl : L'.length = L.length ∨ ∃ zs cy, L' = zs ++ [cy] ∧ cy ≠ 0) : Nm L' ((10 * n + d : Nat) : Int) := by
  refine ⟨ok, ?_, by rw [hv, h.v]; omega⟩
  rcases hl with e | ⟨zs, cy, rfl, hc⟩
  · by_cases z : L.length = 0
    · have : L' = [] := List.length_eq_zero_iff.1 (by omega)
      rw [this]; rfl
    · have t := top_le h.ok h.tr (by omega)
      have v := h.v
      exact trim_of_top ok (by omega) (by rw [e]; omega)
  · exact trim_snoc_ne zs hc
/-- The answer: a number of forty limbs at most, and whether it is told. -/
def OutRB (w : World) (V : Int) (b : Bool) (e : Ending) (w' : World) : Prop :=
  ∃ a n c zs, e = .returned (.tuple #[.agg #[.bool (decide (V < 0)), .slice a n c], .bool b]) ∧ Below w.heap.size w w' ∧ Own w.heap.size w' a zs ∧ Arg w' a n c zs ∧ Nm zs V.natAbs ∧ n ≤ 40
theorem outRB_of {w w2 : World} {a : Option Addr} {n c : Nat} {ts : List Int} {s : Nat} {U V : Int} {g : Bool} (hs : w.heap.size ≤ s) (hb : Below w.heap.size w w2) (ho : Own (s + 1) w2 a ts) (ha : Arg w2 a n c ts) (hn : Nm ts U) (hV : V = if g then -U else U) (hl : n ≤ 40) (v v' : Value) :
    OutRB w V true (.returned (.tuple #[.agg #[.bool (sd g U), .slice a n c], .bool true])) ((w2.setCell ⟨s, 0, none⟩ v).setCell ⟨s, 1, none⟩ v') := by
  obtain ⟨f1, f2, f3⟩ := fin_set hs hb ho ha v v'
  refine ⟨a, n, c, ts, by rw [hV]; rfl, f1, f2, f3, ?_, hl⟩
  rw [natAbs_sign hn.nonneg hV]
  exact hn
theorem outRB_no {w w2 : World} {s : Nat} (hs : w.heap.size ≤ s) (hb : Below w.heap.size w w2) (v v' : Value) :
    OutRB w 0 false (.returned (.tuple #[.agg #[.bool false, .slice none 0 0], .bool false])) ((w2.setCell ⟨s, 0, none⟩ v).setCell ⟨s, 1, none⟩ v') :=
  ⟨none, 0, 0, [], rfl, (hb.setCell hs _).setCell hs _, .inl rfl, Arg.none _, Nm.zero, by omega⟩
theorem rb_end {l : List UInt8} {n : Nat} (h : numV M40 (rbD l) = some n) (hc : rbN l = true → n ≠ 0) : rbB l = true ∧ rbV l = if rbN l then -(n : Int) else (n : Int) := by
  have M : rbM l = n := by unfold rbM; rw [h]; rfl
  have B : rbB l = true := by
    unfold rbB
    rw [h, M]
    cases s : rbN l
    · rfl
    · simp [hc s]
  refine ⟨B, ?_⟩
  unfold rbV
  rw [if_pos B, M]
theorem rb_no {l : List UInt8} (h : rbB l = false) : rbV l = 0 := by unfold rbV; rw [h]; rfl
theorem rbD_trim (l : List UInt8) : Lib.trimPrefix l [45] = rbD l := by
  match l with
  | [] => rfl
  | c :: t =>
    show (if Lib.hasPrefix (c :: t) [45] = true then _ else _) = if c = 45 then t else c :: t
    by_cases h : c = 45
    · subst h
      rw [if_pos rfl]
      simp [Lib.hasPrefix]
    · rw [if_neg h]
      have : Lib.hasPrefix (c :: t) [45] = false := by
        rw [Bool.eq_false_iff]
        intro k
        unfold Lib.hasPrefix at k
        simp at k
        exact h k.symm
      rw [this]
      simp
/-- An empty row that was just laid. -/
theorem emptyR16 (w : World) : RwI w.heap.size (w.alloc (.cells #[] 3)) (.slice (some ⟨w.heap.size, 0, none⟩) 0 0) [] := by
  refine ⟨⟨rfl, .inr ⟨w.heap.size, 0, #[], rfl, Nat.le_refl _, ?_, by simp, by simp, by simp, rfl⟩⟩⟩
  show (w.heap.push _)[w.heap.size]? = _
  simp
theorem RwI.arg16 {B : Nat} {w : World} {v : Value} {L : List Int} (h : RwI B w v L) : ∃ a c, v = .slice a L.length c ∧ Arg w a L.length c L ∧ Own B w a L := by
  rcases h.row.2 with h' | ⟨g, c, cur, hv, h1, hg, h2, h3, h4, h5⟩
  · obtain rfl : L = [] := List.length_eq_zero_iff.1 h'.2
    exact ⟨none, 0, h'.1, Arg.none _, .inl rfl⟩
  · have ho := h.row
    obtain ⟨a, c', e, hs⟩ := h.sl
    rw [hv] at e ho
    cases e
    exact ⟨_, c, hv, ⟨hs, rfl, h2, h3, .inr ⟨g, 0, rfl⟩⟩, Own.of_owns ho rfl⟩
def jt0 (s : ByteArray) (bs : List UInt8) (w : World) : Act → World → Prop := fun a' w' => ∃ (u0 u1 u3 u4 u5 u6 u7 u8 u9 u10 u11 u12 u13 u14 u15 u16 u17 u18 u19 u20 u21 u22 u23 u24 u25 u26 u27 u28 u29 u30 u31 u32 u33 u34 u35 u36 u37 u38 u39 u40 u41 u42 u43 u44 u45 u46 u47 u48 u49 u50 u51 u52 u53 : Value), a' = { tmps := #[u0, u1, .pointer (some ⟨w.heap.size, 0, none⟩), u3, u4, u5, u6, u7, u8, u9, u10, u11, u12, u13, u14, u15, u16, u17, u18, u19, u20, u21, u22, u23, u24, u25, u26, u27, u28, u29, u30, u31, u32, u33, u34, u35, u36, u37, u38, u39, u40, u41, u42, u43, u44, u45, u46, u47, u48, u49, u50, u51, u52, u53], defers := [] } ∧ Hid (w'.cell? ⟨w.heap.size, 0, none⟩ = some (.bool false) ∧ w'.cell? ⟨w.heap.size, 1, none⟩ = some (.slice none 0 0) ∧ ∀ o, w'.frozen? ⟨w.heap.size, o, none⟩ = false) ∧ Hid (Below w.heap.size w w') ∧ Hid (rbB bs = false)
def jt1 (s ds : ByteArray) (bs D : List UInt8) (w : World) : Act → World → Prop := fun a' w' => ∃ (at_ n : Nat) (L : List Int) (v u1 u7 u8 u9 u10 u11 u12 u13 u14 u15 u16 u17 u18 u19 u20 u21 u22 u23 u24 u25 u26 u27 u28 u29 u30 u31 u32 u33 u34 u35 u36 u37 u38 u39 u40 u41 u42 u43 u44 u45 u46 u47 u48 u49 u50 u51 u52 u53 : Value), a' = { tmps := #[.string s, u1, .pointer (some ⟨w.heap.size, 0, none⟩), .bool false, .string ds, v, .int .i64 (at_ : Int), u7, u8, u9, u10, u11, u12, u13, u14, u15, u16, u17, u18, u19, u20, u21, u22, u23, u24, u25, u26, u27, u28, u29, u30, u31, u32, u33, u34, u35, u36, u37, u38, u39, u40, u41, u42, u43, u44, u45, u46, u47, u48, u49, u50, u51, u52, u53], defers := [] } ∧ at_ ≤ ds.size ∧ Hid (numV M40 D = nv M40 n (D.drop at_)) ∧ Hid (RwI (w.heap.size + 1) w' v L) ∧ Hid (Nm L (n : Int)) ∧ L.length ≤ 40 ∧ Hid (w'.cell? ⟨w.heap.size, 0, none⟩ = some (.bool false) ∧ w'.cell? ⟨w.heap.size, 1, none⟩ = some (.slice none 0 0) ∧ ∀ o, w'.frozen? ⟨w.heap.size, o, none⟩ = false) ∧ Hid (Below w.heap.size w w') ∧ Hid (rbN bs = true → D ≠ [48])
set_option maxHeartbeats 16000000 in
theorem ReadBigI (s : ByteArray) (w : World) (hs : s.size ≤ 1048576) :
    Calls Try.prog 5 #[.string s] w (OutRB w (rbV s.data.toList) (rbB s.data.toList)) := by
  obtain ⟨bs, hbs⟩ : ∃ bs, bs = s.data.toList := ⟨_, rfl⟩
  have hl : bs.length = s.size := by rw [hbs]; exact size_list s
  rw [← hbs]
  obtain ⟨D, hD⟩ : ∃ D, D = rbD bs := ⟨_, rfl⟩
  obtain ⟨ds, hds⟩ : ∃ ds, ds = st D := ⟨_, rfl⟩
  have C1 : Hid (∀ w, Calls Try.prog 15 #[.string s, .string { data := #[45] }] w fun e w' => e = .returned (.string ds) ∧ w' = w) := hide (fun w => by
    have h := Try.strings_TrimPrefix s { data := #[45] } w
    rw [← hbs, show ({ data := #[45] } : ByteArray).data.toList = [45] from rfl, rbD_trim, ← hD] at h
    rw [hds]
    exact h)
  have dl : ds.size = D.length := by rw [hds, st_size]
  have DLE : D.length ≤ bs.length := by rw [hD]; exact rbD_len bs
  have IX : Hid (∀ i (h : i < ds.size), ∃ h2 : i < D.length, ds[i]'h = D[i]) := hide (fun i h => ⟨by omega, by subst hds; simp [st]; rfl⟩)
  have SG : Hid (decide ((ds.size : Int) < (s.size : Int)) = rbN bs) := hide (by
    cases g : rbN bs
    · have := rb_pos g
      rw [this] at hD
      exact decide_eq_false (by rw [dl, hD, ← hl]; omega)
    · have := congrArg List.length (rb_neg g)
      rw [← hD, List.length_cons] at this
      exact decide_eq_true (by rw [dl, ← hl]; omega))
  have HDL := hide dl
  have HLE : Hid (ds.size ≤ 1048576) := hide (by omega)
  have BX : Hid (Below w.heap.size w (w.alloc (.cells #[.bool false, .slice none 0 0] 24))) := hide ((Below.refl _ _).alloc (Nat.le_refl _) _)
  have BY : Hid (Below w.heap.size w ((w.alloc (.cells #[.bool false, .slice none 0 0] 24)).alloc (.cells #[] 3))) := hide ((unhide BX).alloc (by simp) _)
  have CX : Hid (((w.alloc (.cells #[.bool false, .slice none 0 0] 24)).alloc (.cells #[] 3)).cell? ⟨w.heap.size, 0, none⟩ = some (.bool false) ∧ ((w.alloc (.cells #[.bool false, .slice none 0 0] 24)).alloc (.cells #[] 3)).cell? ⟨w.heap.size, 1, none⟩ = some (.slice none 0 0) ∧ ∀ o, ((w.alloc (.cells #[.bool false, .slice none 0 0] 24)).alloc (.cells #[] 3)).frozen? ⟨w.heap.size, o, none⟩ = false) := hide ⟨by simp [go_sem], by simp [go_sem], fun o => by simp [go_sem]⟩
  have RX : Hid (RwI (w.heap.size + 1) ((w.alloc (.cells #[.bool false, .slice none 0 0] 24)).alloc (.cells #[] 3)) (.slice (some ⟨w.heap.size + 1, 0, none⟩) 0 0) []) := hide (by
    have h := emptyR16 (w.alloc (.cells #[.bool false, .slice none 0 0] 24))
    simpa using h)
  have ZH : Hid (D = [] → rbB bs = false) := hide (fun k => by unfold rbB; rw [← hD, k]; rfl)
  have ZK : Hid (∀ t, D = 48 :: t → 1 < s.size → rbB bs = false) := hide (fun t k k2 => by
    unfold rbB
    rw [← hD, k]
    by_cases z : t = []
    · have M : numV M40 ([48] : List UInt8) = some 0 := by simp [numV, nv]
      cases g : rbN bs
      · exfalso
        have := rb_pos g
        rw [this] at hD
        have e1 : D.length = 1 := by rw [k, z]; rfl
        have e2 : D.length = bs.length := by rw [hD]
        omega
      · have RM : rbM bs = 0 := by unfold rbM; rw [← hD, k, z, M]; rfl
        rw [RM]; simp
    · have M : numV M40 (48 :: t) = none := by simp [numV, z]
      rw [M]; rfl)
  have HD := hide hD
  go_enter Try.func5, Try.ntmps5
  go_wp2
  refine wp_scope_two16 0 1 (jt0 s bs w) (jt1 s ds bs D w) (fun a' _ => ds.size - (intOf (a'.tmps.getD 6 undef)).toNat) (by rfl) (by rfl) ?_ ?_ ?_
  · intro PASS
    replace PASS := hide PASS
    by_cases z : D = []
    · have RB := unhide ZH z
      have es : ds = { data := #[] } := by rw [hds, z]; rfl
      clear hds hD hbs dl
      subst es
      go_wp2_with fail
      refine (unhide C1 _).mono ?_
      rintro e w1 ⟨rfl, rfl⟩
      go_wp2
      go_step3
      exact Or.inl ⟨rfl, _, _, _, _, _, _, _, _, _, _, _, _, _, _, _, _, _, _, _, _, _, _, _, _, _, _, _, _, _, _, _, _, _, _, _, _, _, _, _, _, _, _, _, _, _, _, _, _, _, _, _, _, _, rfl, CX, BY, hide RB⟩
    · obtain ⟨c0, t, hc⟩ := List.exists_cons_of_ne_nil z
      have hp0 : 0 < ds.size := by rw [dl, hc]; simp
      have i0 : ds[0]'hp0 = c0 := by
        obtain ⟨h2, e⟩ := unhide IX 0 hp0
        rw [e]
        simp [hc]
      have d1 : ds.toList.isEmpty = false := by rw [ByteArray.toList_eq, List.isEmpty_eq_false_iff]; intro k; have := congrArg List.length k; rw [size_list] at this; rw [List.length_nil] at this; omega
      by_cases k1 : 1 < s.size
      · have k1i : (1 : Int) < (s.size : Int) := by omega
        have k1d : decide ((1 : Int) < (s.size : Int)) = true := decide_eq_true k1i
        by_cases k2 : c0 = 48
        · have RB := unhide ZK t (by rw [hc, k2]) k1
          rw [k2] at i0
          clear hds hD hbs dl z hc k2
          go_wp2_with fail
          refine (unhide C1 _).mono ?_
          rintro e w1 ⟨rfl, rfl⟩
          go_wp2
          go_step3
          exact Or.inl ⟨rfl, _, _, _, _, _, _, _, _, _, _, _, _, _, _, _, _, _, _, _, _, _, _, _, _, _, _, _, _, _, _, _, _, _, _, _, _, _, _, _, _, _, _, _, _, _, _, _, _, _, _, _, _, _, rfl, CX, BY, hide RB⟩
        · have g1 : ((c0.toNat : Int) == 48) = false := by
            rw [beq_eq_false_iff_ne]
            intro k
            exact k2 (by have := u8_of (c := c0) (k := 48) (by omega) (by omega); rw [this]; rfl)
          have g2 : ¬ ((c0.toNat : Int) = 48) := by simpa using g1
          have NE : Hid (rbN bs = true → D ≠ [48]) := hide (fun _ k => k2 (by rw [hc] at k; exact (List.cons.inj k).1))
          have NV : Hid (numV M40 D = nv M40 0 (D.drop 0)) := hide (by rw [hc]; simp only [numV, List.drop_zero]; rw [if_neg (fun k => k2 k.1)])
          clear hds hD hbs dl z hc k2
          go_wp2_with fail
          refine (unhide C1 _).mono ?_
          rintro e w1 ⟨rfl, rfl⟩
          go_wp2
          go_step3
          refine ‹∀ (a : Act) (w : World), Code.wp Try.prog _ _ a w → _› _ _ (unhide PASS _ _ ?_)
          exact ⟨0, 0, [], _, _, _, _, _, _, _, _, _, _, _, _, _, _, _, _, _, _, _, _, _, _, _, _, _, _, _, _, _, _, _, _, _, _, _, _, _, _, _, _, _, _, _, _, _, _, _, _, _, rfl, Nat.zero_le _, NV, RX, hide Nm.zero, by simp, CX, BY, NE⟩
      · have k1i : ¬ (1 : Int) < (s.size : Int) := by omega
        have k1d : decide ((1 : Int) < (s.size : Int)) = false := decide_eq_false k1i
        by_cases k2 : c0 = 48
        · have NE : Hid (rbN bs = true → D ≠ [48]) := hide (fun k _ => by
            have e1 := congrArg List.length (rb_neg k)
            rw [← hD, List.length_cons, hl, hc, List.length_cons] at e1
            omega)
          have NV : Hid (numV M40 D = nv M40 0 (D.drop 0)) := hide (by
            have t0 : t = [] := by
              have e1 : D.length = t.length + 1 := by rw [hc]; rfl
              exact List.length_eq_zero_iff.1 (by omega)
            rw [hc, t0]; simp [numV])
          rw [k2] at i0
          clear hds hD hbs dl z hc k2
          go_wp2_with fail
          refine (unhide C1 _).mono ?_
          rintro e w1 ⟨rfl, rfl⟩
          go_wp2
          go_step3
          refine ‹∀ (a : Act) (w : World), Code.wp Try.prog _ _ a w → _› _ _ (unhide PASS _ _ ?_)
          exact ⟨0, 0, [], _, _, _, _, _, _, _, _, _, _, _, _, _, _, _, _, _, _, _, _, _, _, _, _, _, _, _, _, _, _, _, _, _, _, _, _, _, _, _, _, _, _, _, _, _, _, _, _, _, rfl, Nat.zero_le _, NV, RX, hide Nm.zero, by simp, CX, BY, NE⟩
        · have g1 : ((c0.toNat : Int) == 48) = false := by
            rw [beq_eq_false_iff_ne]
            intro k
            exact k2 (by have := u8_of (c := c0) (k := 48) (by omega) (by omega); rw [this]; rfl)
          have g2 : ¬ ((c0.toNat : Int) = 48) := by simpa using g1
          have NE : Hid (rbN bs = true → D ≠ [48]) := hide (fun _ k => k2 (by rw [hc] at k; exact (List.cons.inj k).1))
          have NV : Hid (numV M40 D = nv M40 0 (D.drop 0)) := hide (by rw [hc]; simp only [numV, List.drop_zero]; rw [if_neg (fun k => k2 k.1)])
          clear hds hD hbs dl z hc k2
          go_wp2_with fail
          refine (unhide C1 _).mono ?_
          rintro e w1 ⟨rfl, rfl⟩
          go_wp2
          go_step3
          refine ‹∀ (a : Act) (w : World), Code.wp Try.prog _ _ a w → _› _ _ (unhide PASS _ _ ?_)
          exact ⟨0, 0, [], _, _, _, _, _, _, _, _, _, _, _, _, _, _, _, _, _, _, _, _, _, _, _, _, _, _, _, _, _, _, _, _, _, _, _, _, _, _, _, _, _, _, _, _, _, _, _, _, _, rfl, Nat.zero_le _, NV, RX, hide Nm.zero, by simp, CX, BY, NE⟩
  · rintro a' w' ⟨u0, u1, u3, u4, u5, u6, u7, u8, u9, u10, u11, u12, u13, u14, u15, u16, u17, u18, u19, u20, u21, u22, u23, u24, u25, u26, u27, u28, u29, u30, u31, u32, u33, u34, u35, u36, u37, u38, u39, u40, u41, u42, u43, u44, u45, u46, u47, u48, u49, u50, u51, u52, u53, rfl, C, HB, RB⟩
    rw [unhide RB, rb_no (unhide RB)]
    obtain ⟨r0, r1, f0⟩ := unhide C
    clear C C1 IX hds hD hbs dl RX CX BX BY ZH ZK
    go_wp2
    exact bodyPost_ret (v := .tuple #[.agg #[.bool false, .slice none 0 0], .bool false]) (by simp [results, Try.results5, go_sem, r0, r1]) rfl (outRB_no (s := w.heap.size) (Nat.le_refl _) (unhide HB) _ _)
  · rintro a' w' ⟨at_, n, L, v, u1, u7, u8, u9, u10, u11, u12, u13, u14, u15, u16, u17, u18, u19, u20, u21, u22, u23, u24, u25, u26, u27, u28, u29, u30, u31, u32, u33, u34, u35, u36, u37, u38, u39, u40, u41, u42, u43, u44, u45, u46, u47, u48, u49, u50, u51, u52, u53, rfl, hat, NV, R, NL, LL, C, HB, NE⟩
    obtain ⟨a, c, ev, AR, OW⟩ := (unhide R).arg16
    obtain ⟨r0, r1, f0⟩ := unhide C
    have lt0 : w.heap.size < w'.heap.size := World.block_lt_of_cell? _ _ r0
    clear C RX CX BX BY ZH ZK hds
    have HDD := unhide HDL
    by_cases hend : at_ = ds.size
    · subst hend
      have ED : numV M40 D = some n := by rw [unhide NV, List.drop_of_length_le (by omega)]; rfl
      have E := rb_end (l := bs) (n := n) (by rw [← hD]; exact ED) (fun k z => by
        have h := (num_dd ED).1
        rw [z, dd_zero16] at h
        exact unhide NE k h)
      obtain ⟨V, hV⟩ : ∃ V, V = rbV bs := ⟨_, rfl⟩
      have EV : Hid (V = if rbN bs = true then -(n : Int) else (n : Int)) := hide (by rw [hV]; exact E.2)
      rw [E.1, ← hV]
      clear hV
      have nM := (nm_40 (unhide NL)).1 LL
      have CS := hide (signI_out (rbN bs) a L.length c L w' (w.heap.size + 1) (n : Int) AR OW (unhide NL).ok (unhide NL).v lt0 (by omega))
      have SGi := unhide SG
      have SGn : decide (ds.size < s.size) = rbN bs := by rw [← SGi]; simp
      generalize rbN bs = g at *
      have de : ((ds.size : Int) == (ds.size : Int)) = true := by simp
      rw [ev]
      clear E ED NE NV NL R AR OW IX C1 hD hbs dl SG ev HDD
      go_wp2_with fail
      refine (unhide CS).mono ?_
      rintro e w2 ⟨a2, n2, c2, ts, rfl, hb2, ho2, ha2, hn2⟩
      have l2 : n2 ≤ 40 := by rw [← ha2.len]; exact (nm_40 hn2).2 nM
      replace r0 := cell_later hb2 r0
      replace r1 := cell_later hb2 r1
      have f2 : ∀ o, w2.frozen? ⟨w.heap.size, o, none⟩ = false := fun o => frozen_later hb2 lt0 (f0 o)
      replace HB := hide (below_on (unhide HB) hb2)
      have HO := hide ho2
      have HA := hide ha2
      have HN2 := hide hn2
      clear f0 hb2 ho2 ha2 hn2 CS
      go_wp2
      exact bodyPost_ret (v := .tuple #[.agg #[.bool (sd g (n : Int)), .slice a2 n2 c2], .bool true]) (by simp [results, Try.results5, go_sem, r0, r1]) rfl (outRB_of (s := w.heap.size) (Nat.le_refl _) (unhide HB) (unhide HO) (unhide HA) (unhide HN2) (unhide EV) l2 _ _)
    · have hlt : at_ < ds.size := by omega
      have hltD : at_ < D.length := by omega
      have de : ((at_ : Int) == (ds.size : Int)) = false := by simpa using (show ¬ (at_ : Int) = (ds.size : Int) by omega)
      have de2 : ¬ (at_ : Int) = (ds.size : Int) := by omega
      obtain ⟨_, e0⟩ := unhide IX at_ hlt
      obtain ⟨cc, hcc⟩ : ∃ z, z = D[at_] := ⟨_, rfl⟩
      rw [← hcc] at e0
      have DR : D.drop at_ = cc :: D.drop (at_ + 1) := by rw [hcc]; exact List.drop_eq_getElem_cons hltD
      rw [DR] at NV
      by_cases dg : 48 ≤ cc.toNat ∧ cc.toNat ≤ 57
      · obtain ⟨d, hd⟩ : ∃ d : Nat, cc.toNat = 48 + d := ⟨cc.toNat - 48, by omega⟩
        have d9 : d ≤ 9 := by omega
        have NV2 : Hid (numV M40 D = if M40 < 10 * n + d then none else nv M40 (10 * n + d) (D.drop (at_ + 1))) := hide (by
          rw [unhide NV]
          simp only [nv]
          rw [if_neg (by omega), show cc.toNat - 48 = d by omega])
        have CP := hide (putI16 (w.heap.size + 1) v L (d : Int) w' (unhide R) (unhide NL).ok (by omega) (by omega) lt0)
        have b1 : ¬ ((cc.toNat : Int) < 48) := by omega
        have b2 : ¬ ((57 : Int) < (cc.toNat : Int)) := by omega
        have b1d : decide ((cc.toNat : Int) < 48) = false := decide_eq_false b1
        have b2d : decide ((57 : Int) < (cc.toNat : Int)) = false := decide_eq_false b2
        have w1 : IntKind.u8.wrap ((cc.toNat : Int) - 48) = (d : Int) := by rw [IntKind.wrap_u8]; omega
        have w2 : IntKind.i64.wrap (d : Int) = (d : Int) := by rw [IntKind.wrap_i64]; omega
        have w3 : IntKind.i64.wrap ((at_ : Int) + 1) = (at_ : Int) + 1 := by rw [IntKind.wrap_i64]; have := unhide HLE; omega
        rw [ev] at CP ⊢
        clear NV DR hcc hD hbs dl C1 IX AR OW R dg hd ev HDD hltD
        go_wp2_with fail
        refine (unhide CP).mono ?_
        rintro e w2x ⟨v', L', rfl, R2, ok2, v2, ch, ll2, hb2⟩
        have N2 : Hid (Nm L' ((10 * n + d : Nat) : Int)) := hide (nm_put16 (unhide NL) ok2 v2 ch)
        have hb2' : Below w'.heap.size w' w2x ∨ True := .inr trivial
        have R2H := hide R2
        obtain ⟨a2, c2, ev2, _, _⟩ := R2.arg16
        have bx : ∀ o, w2x.cell? ⟨w.heap.size, o, none⟩ = w'.cell? ⟨w.heap.size, o, none⟩ := fun o => hb2.cell (p := ⟨w.heap.size, o, none⟩) (Nat.lt_succ_self _)
        replace r0 := (bx 0).trans r0
        replace r1 := (bx 1).trans r1
        have f2 : ∀ o, w2x.frozen? ⟨w.heap.size, o, none⟩ = false := fun o => by rw [hb2.frozen (p := ⟨w.heap.size, o, none⟩) (Nat.lt_succ_self _)]; exact f0 o
        replace HB := hide ((unhide HB).trans (hb2.mono (Nat.le_succ _)))
        have CX := hide (And.intro r0 (And.intro r1 f2))
        rw [ev2] at R2H ⊢
        clear CP ok2 v2 ch hb2 bx f0 R2 hb2' ev2
        by_cases l40 : L'.length ≤ 40
        · have l40i : (L'.length : Int) ≤ 40 := by omega
          have l40d : decide ((L'.length : Int) ≤ 40) = true := decide_eq_true l40i
          have NV3 : Hid (numV M40 D = nv M40 (10 * n + d) (D.drop (at_ + 1))) := hide (by
            rw [unhide NV2, if_neg (Nat.not_lt.2 ((nm_40 (unhide N2)).1 l40))])
          go_wp2
          go_step3
          have e1 : (at_ : Int) + 1 = ((at_ + 1 : Nat) : Int) := by omega
          (try rw [e1])
          refine Or.inr ⟨rfl, ⟨at_ + 1, 10 * n + d, L', _, _, _, _, _, _, _, _, _, _, _, _, _, _, _, _, _, _, _, _, _, _, _, _, _, _, _, _, _, _, _, _, _, _, _, _, _, _, _, _, _, _, _, _, _, _, _, _, _, rfl, by omega, NV3, R2H, N2, l40, CX, HB, NE⟩, ?_⟩
          simp [intOf]
          omega
        · have l40i : ¬ (L'.length : Int) ≤ 40 := by omega
          have l40d : decide ((L'.length : Int) ≤ 40) = false := decide_eq_false l40i
          have RB : rbB bs = false := by
            unfold rbB
            rw [← unhide HD, unhide NV2, if_pos (Nat.lt_of_not_le (fun k => l40 ((nm_40 (unhide N2)).2 k)))]
            rfl
          clear NV2 N2 R2H NL CX
          go_wp2
          go_step3
          go_wp2
          exact bodyPost_ret (v := .tuple #[.agg #[.bool false, .slice none 0 0], .bool false]) (by simp [results, Try.results5, go_sem, r0, r1]) rfl (by rw [rb_no RB]; exact outRB_no (s := w.heap.size) (Nat.le_refl _) (unhide HB) _ _)
      · have RB : rbB bs = false := by
          unfold rbB
          rw [← unhide HD, unhide NV]
          simp only [nv]
          rw [if_pos (by omega)]
          rfl
        have CX := hide (And.intro r0 (And.intro r1 f0))
        rw [ev]
        clear NV DR hcc hD hbs dl C1 IX AR OW R NL ev HDD hltD
        by_cases q1 : cc.toNat < 48
        · have b1 : (cc.toNat : Int) < 48 := by omega
          have b1d : decide ((cc.toNat : Int) < 48) = true := decide_eq_true b1
          go_wp2
          go_step3
          exact Or.inl ⟨rfl, _, _, _, _, _, _, _, _, _, _, _, _, _, _, _, _, _, _, _, _, _, _, _, _, _, _, _, _, _, _, _, _, _, _, _, _, _, _, _, _, _, _, _, _, _, _, _, _, _, _, _, _, _, rfl, CX, HB, hide RB⟩
        · have b1 : ¬ (cc.toNat : Int) < 48 := by omega
          have b1d : decide ((cc.toNat : Int) < 48) = false := decide_eq_false b1
          have b2 : (57 : Int) < (cc.toNat : Int) := by omega
          have b2d : decide ((57 : Int) < (cc.toNat : Int)) = true := decide_eq_true b2
          go_wp2
          go_step3
          exact Or.inl ⟨rfl, _, _, _, _, _, _, _, _, _, _, _, _, _, _, _, _, _, _, _, _, _, _, _, _, _, _, _, _, _, _, _, _, _, _, _, _, _, _, _, _, _, _, _, _, _, _, _, _, _, _, _, _, _, rfl, CX, HB, hide RB⟩
end Go.Proofs.Ytdgonpbponnnaaa
