/- A number read rune by rune (numberIn): its value, and that it is told just where the text is the number's decimal digits. No condition beyond those typed. -/
import Derived.Test.YtoffondgdnmhkaaNum15
import Derived.Lib.DecodeN
import Derived.Lib.OthersKept
import Derived.Laws.Strings
namespace Go.Proofs.Ytoffondgdnmhkaa
open Go.RowKit
set_option linter.unusedVariables false
set_option maxRecDepth 100000
set_option linter.unusedSimpArgs false

/-- Digits read on from n: none where one is no digit or the number comes beyond most. -/
def nv (most : Nat) : Nat → List UInt8 → Option Nat
  | n, [] => some n
  | n, c :: cs => if c.toNat < 48 ∨ 57 < c.toNat then none else if most < 10 * n + (c.toNat - 48) then none else nv most (10 * n + (c.toNat - 48)) cs
def numV (most : Nat) : List UInt8 → Option Nat
  | [] => none
  | c :: cs => if c = 48 ∧ cs ≠ [] then none else nv most 0 (c :: cs)
theorem nv_snoc (most : Nat) (c : UInt8) : ∀ (l : List UInt8) (n : Nat), nv most n (l ++ [c]) = (nv most n l).bind (fun m => nv most m [c])
  | [], n => by simp [nv]
  | d :: l, n => by
    simp only [List.cons_append, nv]
    split
    · rfl
    · split
      · rfl
      · exact nv_snoc most c l _
theorem u8_of {c : UInt8} {k : Nat} (h : c.toNat = k) (hk : k < 256) : c = UInt8.ofNat k := by
  apply UInt8.toNat_inj.1
  rw [h, UInt8.toNat_ofNat_of_lt' (by show k < 256; exact hk)]
theorem dd_step {m n d : Nat} (hn : 1 ≤ n) (hd : d < 10) (h : m = 10 * n + d) : Lib.decDigits m = Lib.decDigits n ++ [UInt8.ofNat (48 + d)] := by
  rw [Lib.decDigits, dif_neg (by omega), show m / 10 = n by omega, show m % 10 = d by omega]
theorem nv_dd (most : Nat) : ∀ (l : List UInt8) (n v : Nat), 1 ≤ n → nv most n l = some v → Lib.decDigits v = Lib.decDigits n ++ l ∧ (n ≤ most → v ≤ most)
  | [], n, v, hn, h => by
    simp only [nv, Option.some.injEq] at h
    subst h
    simp
  | c :: l, n, v, hn, h => by
    simp only [nv] at h
    split at h
    · cases h
    · split at h
      · cases h
      · rename_i h1 h2
        have ih := nv_dd most l _ v (by omega) h
        rw [ih.1, dd_step hn (d := c.toNat - 48) (by omega) rfl, show 48 + (c.toNat - 48) = c.toNat by omega, ← u8_of rfl (UInt8.toNat_lt c)]
        exact ⟨by simp, fun _ => ih.2 (by omega)⟩
/-- What is told has just this text. -/
theorem num_dd {most : Nat} {l : List UInt8} {v : Nat} (h : numV most l = some v) : l = Lib.decDigits v ∧ v ≤ most := by
  match l, h with
  | c :: l, h =>
    simp only [numV] at h
    split at h
    · cases h
    · rename_i h0
      simp only [nv] at h
      split at h
      · cases h
      · split at h
        · cases h
        · rename_i h1 h2
          by_cases z : c = 48
          · have hl : l = [] := by
              by_cases e : l = []
              · exact e
              · exact absurd ⟨z, e⟩ h0
            subst hl; subst z
            have hv : v = 0 := by simpa [nv] using h.symm
            subst hv
            refine ⟨?_, Nat.zero_le _⟩
            rw [Lib.decDigits_one (by decide)]
            rfl
          · have z' : c.toNat ≠ 48 := fun e => z (by have := u8_of e (by omega); rw [this]; rfl)
            have k := nv_dd most l _ v (by omega) h
            rw [k.1, Lib.decDigits_one (by omega), show 48 + (10 * 0 + (c.toNat - 48)) = c.toNat by omega, ← u8_of rfl (UInt8.toNat_lt c)]
            exact ⟨rfl, k.2 (by omega)⟩
theorem u8_to {d : Nat} (hd : d < 10) : (UInt8.ofNat (48 + d)).toNat = 48 + d := by
  rw [UInt8.toNat_ofNat_of_lt' (by show 48 + d < 256; omega)]
theorem dd_nv {most : Nat} : ∀ (k v : Nat), v < 10 ^ (k + 1) → v ≤ most → 1 ≤ v → nv most 0 (Lib.decDigits v) = some v ∧ ∃ c l, Lib.decDigits v = c :: l ∧ c ≠ 48
  | k, v, hk, hv, h1 => by
    by_cases c : v < 10
    · rw [Lib.decDigits_one c]
      refine ⟨?_, _, _, rfl, fun e => ?_⟩
      · simp only [nv]
        rw [u8_to c, if_neg (by omega), if_neg (by omega)]
        simp
      · have := u8_to c
        rw [e] at this
        simp at this
        omega
    · match k, hk with
      | 0, hk => simp at hk; omega
      | k + 1, hk =>
        have ih := dd_nv (most := most) k (v / 10) (by rw [Nat.div_lt_iff_lt_mul (by omega)]; rw [Nat.pow_succ] at hk; exact hk) (by omega) (by omega)
        rw [dd_step (n := v / 10) (d := v % 10) (by omega) (by omega) (by omega), nv_snoc, ih.1]
        obtain ⟨c, l, e, ne⟩ := ih.2
        refine ⟨?_, c, l ++ [UInt8.ofNat (48 + v % 10)], by rw [e]; rfl, ne⟩
        simp only [nv, Option.bind_some]
        rw [u8_to (d := v % 10) (by omega), if_neg (by omega), if_neg (by omega)]
        congr 1; omega
/-- .. and each number's text is told. -/
theorem dd_num {most v : Nat} (h : v ≤ most) : numV most (Lib.decDigits v) = some v := by
  by_cases z : v = 0
  · subst z
    rw [Lib.decDigits_one (by decide)]
    simp [numV, nv]
  · have lt : v < 10 ^ (v + 1) := Nat.lt_of_lt_of_le (Nat.lt_pow_self (by decide)) (Nat.pow_le_pow_right (by decide) (Nat.le_succ v))
    obtain ⟨h1, c, l, e, ne⟩ := dd_nv v v lt h (by omega)
    rw [e] at h1 ⊢
    simp only [numV]
    rw [if_neg (fun k => ne k.1)]
    exact h1
theorem decode_hi {s : ByteArray} {i : Nat} (h : 128 ≤ (s.get! i).toNat) : 128 ≤ (Utf8.decode s i).1 := by
  rw [Lib.decode_at]
  unfold Lib.decodeN
  generalize (s.get! i).toNat = b0 at *
  generalize (s.get! (i + 1)).toNat = b1
  generalize (s.get! (i + 2)).toNat = b2
  generalize (s.get! (i + 3)).toNat = b3
  rw [if_neg (by omega)]
  split
  · split <;> simp <;> omega
  · split
    · split <;> simp <;> omega
    · split
      · split <;> simp <;> omega
      · simp
theorem decode_lo {s : ByteArray} {i : Nat} (h : (s.get! i).toNat < 128) : Utf8.decode s i = ((s.get! i).toNat, 1) := by
  rw [Lib.decode_at]
  unfold Lib.decodeN
  rw [if_pos h]
theorem get_at {s : ByteArray} {i : Nat} (h : i < s.size) : s.get! i = s.data.toList[i]'(by simpa using h) := by
  rw [Array.getElem_toList]
  show s.data[i]! = _
  rw [getElem!_pos s.data i (by simpa using h)]
theorem size_list (s : ByteArray) : s.data.toList.length = s.size := by rw [Array.length_toList]; rfl
set_option maxHeartbeats 4000000 in
theorem numI (s : ByteArray) (most : Nat) (w : World) (hm : most ≤ 100000) (hs : s.size ≤ 1048576) :
    Calls Try.prog 20 #[.string s, .int .i64 (most : Int)] w fun e w' => e = .returned (.tuple #[.int .i64 (((numV most s.data.toList).getD 0 : Nat) : Int), .bool (numV most s.data.toList).isSome]) ∧ Below w.heap.size w w' := by
  by_cases h0 : s.size = 0
  · have e : s.data.toList = [] := List.length_eq_zero_iff.1 (by rw [size_list]; exact h0)
    have es : s = { data := #[] } := by rw [st_of s, e]; rfl
    have EV : numV most s.data.toList = none := by rw [e]; rfl
    rw [EV]
    clear e h0 EV hs
    subst es
    go_enter Try.func20, Try.ntmps20
    go_wp2
    go_ret2
    exact ⟨rfl, Below.refl _ _⟩
  · have d0 : (s == { data := #[] }) = false := by
      rw [Bool.eq_false_iff]
      intro k
      have k' : (s.data == #[]) = true := k
      have k2 : s.data = #[] := by simpa using k'
      exact h0 (by show s.data.size = 0; rw [k2]; rfl)
    have d1 : s.toList.isEmpty = false := by rw [ByteArray.toList_eq, List.isEmpty_eq_false_iff]; intro k; exact h0 (by rw [← size_list, k]; rfl)
    clear d0
    obtain ⟨bs, hbs⟩ : ∃ bs, bs = s.data.toList := ⟨_, rfl⟩
    have hl : bs.length = s.size := by rw [hbs, size_list]
    have gt : ∀ i (h : i < s.size), s.get! i = bs[i]'(by omega) := fun i h => by subst hbs; exact get_at h
    have ix : ∀ (h : 0 < s.size), s[0]'h = bs[0]'(by omega) := fun h => by subst hbs; rfl
    have hp0 : 0 < s.size := by omega
    obtain ⟨c0, hc0⟩ : ∃ c, c = bs[0]'(by omega) := ⟨_, rfl⟩
    have i0 : s[0]'hp0 = c0 := by rw [hc0]; exact ix hp0
    have EC : bs = c0 :: bs.drop 1 := by rw [hc0]; have := List.drop_eq_getElem_cons (l := bs) (i := 0) (by omega); rw [List.drop_zero] at this; exact this
    rw [← hbs]
    by_cases h1 : c0 = 48 ∧ 1 < s.size
    · have EV : numV most bs = none := by
        rw [EC]; simp only [numV]
        rw [if_pos ⟨h1.1, fun e => by have t1 := congrArg List.length e; have t2 := h1.2; rw [List.length_drop, List.length_nil] at t1; omega⟩]
      have g1 : decide ((1 : Int) < (s.size : Int)) = true := decide_eq_true (by omega)
      have g1' : decide (1 < s.size) = true := decide_eq_true h1.2
      rw [h1.1] at i0
      rw [EV]
      clear hbs hl gt ix EC EV hc0 h1
      go_enter Try.func20, Try.ntmps20
      go_wp2
      go_ret2
      exact ⟨rfl, Below.refl _ _⟩
    · have EV : numV most bs = nv most 0 bs := by
        rw [EC]; simp only [numV]
        rw [if_neg (fun k => h1 ⟨k.1, by
          have : bs.drop 1 ≠ [] := k.2
          have := List.length_pos_iff.2 this
          rw [List.length_drop] at this; omega⟩)]
      rw [EV]
      have HG : Hid (∀ i (h : i < bs.length), s.get! i = bs[i]) := hide (fun i h => gt i (by omega))
      have HL := hide hl
      have HI : Hid (Below w.heap.size w (w.iter s 0)) := hide ((Below.refl _ _).alloc (Nat.le_refl _) _)
      have hk0 : Hid ((w.iter s 0).heap[w.heap.size]? = some (.stringIter s 0)) := hide (World.iter_heap w s 0)
      by_cases q : c0 = 48
      · have g1 : decide ((1 : Int) < (s.size : Int)) = false := decide_eq_false (by have nb : ¬ (1 < s.size) := fun k => h1 ⟨q, k⟩; omega)
        have g1' : decide (1 < s.size) = false := decide_eq_false (by have nb : ¬ (1 < s.size) := fun k => h1 ⟨q, k⟩; omega)
        rw [q] at i0
        clear hbs hl gt ix EC EV hc0 h1 q
        go_enter Try.func20, Try.ntmps20
        go_wp2
        go_loopw [6] (fun nvl wr => ∃ (pos n : Nat), pos ≤ s.size ∧ nvl = .int .i64 (n : Int) ∧ n ≤ 100000 ∧ Hid (nv most 0 bs = nv most n (bs.drop pos)) ∧ wr.heap[w.heap.size]? = some (.stringIter s pos) ∧ Hid (Below w.heap.size w wr)) (fun _ wr => s.size - wr.iterPos w.heap.size)
        case atStart => exact ⟨0, 0, Nat.zero_le _, rfl, by omega, hide (by simp), unhide hk0, HI⟩
        case round =>
          clear hk0 HI
          obtain ⟨pos, n, hps, rfl, nb, EN, hk, HB⟩ := hrel
          by_cases hp : pos < s.size
          · have hpl : pos < bs.length := by rw [unhide HL]; exact hp
            have hc := unhide HG pos hpl
            obtain ⟨c, hcc⟩ : ∃ c, c = bs[pos] := ⟨_, rfl⟩
            rw [← hcc] at hc
            have ED : bs.drop pos = c :: bs.drop (pos + 1) := by rw [hcc]; exact List.drop_eq_getElem_cons hpl
            rw [ED] at EN
            have hmu : wr.iterPos w.heap.size = pos := by simp [World.iterPos, hk]
            have nx : ∀ ty, (Instr.next (.pointer (some ⟨w.heap.size, 0, none⟩)) true ty).run Try.prog wr = .ok (.tuple #[.bool true, .int .i64 pos, .int .i32 ((Utf8.decode s pos).1 : Int)]) (wr.iterAt w.heap.size s (pos + (Utf8.decode s pos).2)) := fun ty => Lib.run_next_any_at wr w.heap.size s pos ty hk hp
            by_cases dg : 48 ≤ c.toNat ∧ c.toNat ≤ 57
            · rw [decode_lo (by rw [hc]; omega), hc] at nx
              obtain ⟨d, hd⟩ : ∃ d : Nat, c.toNat = 48 + d := ⟨c.toNat - 48, by omega⟩
              have d9 : d ≤ 9 := by omega
              have EN2 : nv most 0 bs = if most < 10 * n + d then none else nv most (10 * n + d) (bs.drop (pos + 1)) := by
                rw [unhide EN]; simp only [nv]; rw [if_neg (by omega), show c.toNat - 48 = d by omega]
              rw [hd] at nx
              have nx2 : ∀ ty, (Instr.next (.pointer (some ⟨w.heap.size, 0, none⟩)) true ty).run Try.prog wr = .ok (.tuple #[.bool true, .int .i64 pos, .int .i32 (48 + (d : Int))]) (wr.iterAt w.heap.size s (pos + 1)) := nx
              have hk1 := Lib.iterAt_heap wr w.heap.size s pos (pos + 1) hk
              have HB2 := hide (Lib.below_iterAt (unhide HB) (Nat.le_refl _) s (pos + 1))
              have a1 : ¬ ((48 : Int) + (d : Int) < 48) := by omega
              have a2 : ¬ ((57 : Int) < 48 + (d : Int)) := by omega
              have a3 : IntKind.i32.wrap (48 + (d : Int) - 48) = (d : Int) := by rw [IntKind.wrap_i32]; omega
              have a4 : IntKind.i64.wrap (d : Int) = (d : Int) := by rw [IntKind.wrap_i64]; omega
              have a5 : IntKind.i64.wrap (10 * (n : Int)) = 10 * (n : Int) := by rw [IntKind.wrap_i64]; omega
              have a6 : IntKind.i64.wrap (10 * (n : Int) + (d : Int)) = 10 * (n : Int) + (d : Int) := by rw [IntKind.wrap_i64]; omega
              clear hc hcc ED dg nx hd
              generalize wr.iterAt w.heap.size s (pos + 1) = W1 at *
              by_cases big : most < 10 * n + d
              · have b1 : (most : Int) < 10 * (n : Int) + (d : Int) := by omega
                have EF := hide (show nv most 0 bs = none by rw [EN2, if_pos big])
                clear EN EN2 big
                go_wp2
                go_ret2
                exact ⟨by rw [unhide EF]; rfl, unhide HB2⟩
              · have b1 : ¬ ((most : Int) < 10 * (n : Int) + (d : Int)) := by omega
                have EF := hide (show nv most 0 bs = nv most (10 * n + d) (bs.drop (pos + 1)) by rw [EN2, if_neg big])
                have nb2 : 10 * n + d ≤ 100000 := by omega
                clear EN EN2 big
                go_wp2
                go_roundw
                case rel => exact ⟨pos + 1, 10 * n + d, by omega, by simp, nb2, EF, hk1, HB2⟩
                case measure =>
                  have hmu2 : W1.iterPos w.heap.size = pos + 1 := by simp [World.iterPos, hk1]
                  rw [hmu, hmu2]; omega
            · have EF := hide (show nv most 0 bs = none by rw [unhide EN]; simp only [nv]; rw [if_pos (by omega)])
              have HB2 := hide (Lib.below_iterAt (unhide HB) (Nat.le_refl _) s (pos + (Utf8.decode s pos).2))
              have far : (Utf8.decode s pos).1 < 48 ∨ 57 < (Utf8.decode s pos).1 := by
                by_cases lo : c.toNat < 128
                · rw [decode_lo (by rw [hc]; exact lo), hc]; omega
                · exact .inr (by have := decode_hi (s := s) (i := pos) (by rw [hc]; omega); omega)
              clear hc hcc ED EN dg
              generalize wr.iterAt w.heap.size s (pos + (Utf8.decode s pos).2) = W1 at *
              generalize (Utf8.decode s pos).1 = R at *
              rcases far with lo | hi
              · have b1 : (R : Int) < 48 := by omega
                have b1' : decide ((R : Int) < 48) = true := decide_eq_true b1
                go_wp2
                go_ret2
                exact ⟨by rw [unhide EF]; rfl, unhide HB2⟩
              · have b1 : ¬ ((R : Int) < 48) := by omega
                have b2 : (57 : Int) < (R : Int) := by omega
                have b2' : decide ((57 : Int) < (R : Int)) = true := decide_eq_true b2
                go_wp2
                go_ret2
                exact ⟨by rw [unhide EF]; rfl, unhide HB2⟩
          · have nx : ∀ ty, (Instr.next (.pointer (some ⟨w.heap.size, 0, none⟩)) true ty).run Try.prog wr = _ := fun ty => Lib.run_next_end_at wr w.heap.size s pos ty hk hp
            have EF := hide (show nv most 0 bs = some n by rw [unhide EN, List.drop_eq_nil_of_le (by rw [unhide HL]; omega)]; rfl)
            clear EN hp
            go_wp2
            go_ret2
            exact ⟨by rw [unhide EF]; rfl, unhide HB⟩
      · have g1 : ((c0.toNat : Int) == 48) = false := by
          rw [beq_eq_false_iff_ne]
          intro k
          exact q (by have := u8_of (c := c0) (k := 48) (by omega) (by omega); rw [this]; rfl)
        have g2 : ¬ ((c0.toNat : Int) = 48) := by simpa using g1
        clear hbs hl gt ix EC EV hc0 h1 q
        go_enter Try.func20, Try.ntmps20
        go_wp2
        go_loopw [6] (fun nvl wr => ∃ (pos n : Nat), pos ≤ s.size ∧ nvl = .int .i64 (n : Int) ∧ n ≤ 100000 ∧ Hid (nv most 0 bs = nv most n (bs.drop pos)) ∧ wr.heap[w.heap.size]? = some (.stringIter s pos) ∧ Hid (Below w.heap.size w wr)) (fun _ wr => s.size - wr.iterPos w.heap.size)
        case atStart => exact ⟨0, 0, Nat.zero_le _, rfl, by omega, hide (by simp), unhide hk0, HI⟩
        case round =>
          clear hk0 HI
          obtain ⟨pos, n, hps, rfl, nb, EN, hk, HB⟩ := hrel
          by_cases hp : pos < s.size
          · have hpl : pos < bs.length := by rw [unhide HL]; exact hp
            have hc := unhide HG pos hpl
            obtain ⟨c, hcc⟩ : ∃ c, c = bs[pos] := ⟨_, rfl⟩
            rw [← hcc] at hc
            have ED : bs.drop pos = c :: bs.drop (pos + 1) := by rw [hcc]; exact List.drop_eq_getElem_cons hpl
            rw [ED] at EN
            have hmu : wr.iterPos w.heap.size = pos := by simp [World.iterPos, hk]
            have nx : ∀ ty, (Instr.next (.pointer (some ⟨w.heap.size, 0, none⟩)) true ty).run Try.prog wr = .ok (.tuple #[.bool true, .int .i64 pos, .int .i32 ((Utf8.decode s pos).1 : Int)]) (wr.iterAt w.heap.size s (pos + (Utf8.decode s pos).2)) := fun ty => Lib.run_next_any_at wr w.heap.size s pos ty hk hp
            by_cases dg : 48 ≤ c.toNat ∧ c.toNat ≤ 57
            · rw [decode_lo (by rw [hc]; omega), hc] at nx
              obtain ⟨d, hd⟩ : ∃ d : Nat, c.toNat = 48 + d := ⟨c.toNat - 48, by omega⟩
              have d9 : d ≤ 9 := by omega
              have EN2 : nv most 0 bs = if most < 10 * n + d then none else nv most (10 * n + d) (bs.drop (pos + 1)) := by
                rw [unhide EN]; simp only [nv]; rw [if_neg (by omega), show c.toNat - 48 = d by omega]
              rw [hd] at nx
              have nx2 : ∀ ty, (Instr.next (.pointer (some ⟨w.heap.size, 0, none⟩)) true ty).run Try.prog wr = .ok (.tuple #[.bool true, .int .i64 pos, .int .i32 (48 + (d : Int))]) (wr.iterAt w.heap.size s (pos + 1)) := nx
              have hk1 := Lib.iterAt_heap wr w.heap.size s pos (pos + 1) hk
              have HB2 := hide (Lib.below_iterAt (unhide HB) (Nat.le_refl _) s (pos + 1))
              have a1 : ¬ ((48 : Int) + (d : Int) < 48) := by omega
              have a2 : ¬ ((57 : Int) < 48 + (d : Int)) := by omega
              have a3 : IntKind.i32.wrap (48 + (d : Int) - 48) = (d : Int) := by rw [IntKind.wrap_i32]; omega
              have a4 : IntKind.i64.wrap (d : Int) = (d : Int) := by rw [IntKind.wrap_i64]; omega
              have a5 : IntKind.i64.wrap (10 * (n : Int)) = 10 * (n : Int) := by rw [IntKind.wrap_i64]; omega
              have a6 : IntKind.i64.wrap (10 * (n : Int) + (d : Int)) = 10 * (n : Int) + (d : Int) := by rw [IntKind.wrap_i64]; omega
              clear hc hcc ED dg nx hd
              generalize wr.iterAt w.heap.size s (pos + 1) = W1 at *
              by_cases big : most < 10 * n + d
              · have b1 : (most : Int) < 10 * (n : Int) + (d : Int) := by omega
                have EF := hide (show nv most 0 bs = none by rw [EN2, if_pos big])
                clear EN EN2 big
                go_wp2
                go_ret2
                exact ⟨by rw [unhide EF]; rfl, unhide HB2⟩
              · have b1 : ¬ ((most : Int) < 10 * (n : Int) + (d : Int)) := by omega
                have EF := hide (show nv most 0 bs = nv most (10 * n + d) (bs.drop (pos + 1)) by rw [EN2, if_neg big])
                have nb2 : 10 * n + d ≤ 100000 := by omega
                clear EN EN2 big
                go_wp2
                go_roundw
                case rel => exact ⟨pos + 1, 10 * n + d, by omega, by simp, nb2, EF, hk1, HB2⟩
                case measure =>
                  have hmu2 : W1.iterPos w.heap.size = pos + 1 := by simp [World.iterPos, hk1]
                  rw [hmu, hmu2]; omega
            · have EF := hide (show nv most 0 bs = none by rw [unhide EN]; simp only [nv]; rw [if_pos (by omega)])
              have HB2 := hide (Lib.below_iterAt (unhide HB) (Nat.le_refl _) s (pos + (Utf8.decode s pos).2))
              have far : (Utf8.decode s pos).1 < 48 ∨ 57 < (Utf8.decode s pos).1 := by
                by_cases lo : c.toNat < 128
                · rw [decode_lo (by rw [hc]; exact lo), hc]; omega
                · exact .inr (by have := decode_hi (s := s) (i := pos) (by rw [hc]; omega); omega)
              clear hc hcc ED EN dg
              generalize wr.iterAt w.heap.size s (pos + (Utf8.decode s pos).2) = W1 at *
              generalize (Utf8.decode s pos).1 = R at *
              rcases far with lo | hi
              · have b1 : (R : Int) < 48 := by omega
                have b1' : decide ((R : Int) < 48) = true := decide_eq_true b1
                go_wp2
                go_ret2
                exact ⟨by rw [unhide EF]; rfl, unhide HB2⟩
              · have b1 : ¬ ((R : Int) < 48) := by omega
                have b2 : (57 : Int) < (R : Int) := by omega
                have b2' : decide ((57 : Int) < (R : Int)) = true := decide_eq_true b2
                go_wp2
                go_ret2
                exact ⟨by rw [unhide EF]; rfl, unhide HB2⟩
          · have nx : ∀ ty, (Instr.next (.pointer (some ⟨w.heap.size, 0, none⟩)) true ty).run Try.prog wr = _ := fun ty => Lib.run_next_end_at wr w.heap.size s pos ty hk hp
            have EF := hide (show nv most 0 bs = some n by rw [unhide EN, List.drop_eq_nil_of_le (by rw [unhide HL]; omega)]; rfl)
            clear EN hp
            go_wp2
            go_ret2
            exact ⟨by rw [unhide EF]; rfl, unhide HB⟩
end Go.Proofs.Ytoffondgdnmhkaa
