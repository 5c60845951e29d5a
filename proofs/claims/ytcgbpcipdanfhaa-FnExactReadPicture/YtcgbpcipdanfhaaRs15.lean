/- l15Pair, and ReadPicture of the specification, by value. No condition beyond those typed. Written by mkrp15.py. -/
import Derived.Test.YtcgbpcipdanfhaaRi15
import Derived.Test.YtcgbpcipdanfhaaRu16
import Derived.OwnWalk
namespace Go.Proofs.Ytcgbpcipdanfhaa
open Go.RowKit
set_option linter.unusedVariables false
set_option maxRecDepth 100000
set_option linter.unusedSimpArgs false

def lpK (bs : List UInt8) (a : Nat) : Nat := a + liK (bs.drop a)
/-- Two numbers with a byte between: whether the first one and the byte are there. -/
def lpOK (bs : List UInt8) (a : Nat) (c : UInt8) : Bool := decide (0 ≤ liV (bs.drop a)) && ((bs.drop (lpK bs a)).head? == some c)
def lpA (bs : List UInt8) (a : Nat) (c : UInt8) : Int := if lpOK bs a c = true then liV (bs.drop a) else -1
def lpB (bs : List UInt8) (a : Nat) (c : UInt8) : Int := if lpOK bs a c = true then liV (bs.drop (lpK bs a + 1)) else -1
def lpE (bs : List UInt8) (a : Nat) (c : UInt8) : Nat := if lpOK bs a c = true then lpK bs (lpK bs a + 1) else a
theorem liK_le (l : List UInt8) : liK l ≤ l.length := by
  unfold liK
  split
  · exact Nat.zero_le _
  · have := congrArg List.length (dgs_pre l)
    rw [List.length_append] at this
    omega
theorem lpK_le {bs : List UInt8} {a : Nat} (h : a ≤ bs.length) : lpK bs a ≤ bs.length := by
  have := liK_le (bs.drop a)
  rw [List.length_drop] at this
  unfold lpK; omega
set_option maxHeartbeats 4000000 in
theorem pairS15 (s : ByteArray) (a : Nat) (c : UInt8) (w : World) (ha : a ≤ s.size) (hs : s.size ≤ 1048576) :
    Calls Try.prog 37 #[.string s, .int .i64 (a : Int), .int .u8 (c.toNat : Int)] w fun e w' => e = .returned (.tuple #[.int .i64 (lpA s.data.toList a c), .int .i64 (lpB s.data.toList a c), .int .i64 ((lpE s.data.toList a c : Nat) : Int)]) ∧ Below w.heap.size w w' := by
  have C1 := hide (liS s a w ha hs)
  have C2 := hide (fun (k : Nat) (h : k ≤ s.size) w => liS s k w h hs)
  obtain ⟨bs, hbs⟩ : ∃ bs, bs = s.data.toList := ⟨_, rfl⟩
  have hl : bs.length = s.size := by rw [hbs, size_list]
  have IX : Hid (∀ i (h : i < s.size), ∃ h2 : i < bs.length, s[i]'h = bs[i]) := hide (fun i h => ⟨by omega, by subst hbs; rfl⟩)
  rw [← hbs] at C1 C2 ⊢
  have hk := lpK_le (bs := bs) (a := a) (by omega)
  have EK : Hid (lpK bs a = a + liK (bs.drop a)) := hide rfl
  rw [← unhide EK] at C1
  obtain ⟨k, hkk⟩ : ∃ k, k = lpK bs a := ⟨_, rfl⟩
  have HB := hide (Below.refl w.heap.size w)
  have NO : Hid (lpOK bs a c = false → lpA bs a c = -1 ∧ lpB bs a c = -1 ∧ lpE bs a c = a) := hide (fun q => by unfold lpA lpB lpE; rw [q]; exact ⟨rfl, rfl, rfl⟩)
  have YES : Hid (lpOK bs a c = true → lpA bs a c = liV (bs.drop a) ∧ lpB bs a c = liV (bs.drop (k + 1)) ∧ lpE bs a c = lpK bs (k + 1)) := hide (fun q => by unfold lpA lpB lpE; rw [q, hkk]; exact ⟨rfl, rfl, rfl⟩)
  have DEF : Hid (lpOK bs a c = (decide (0 ≤ liV (bs.drop a)) && ((bs.drop k).head? == some c))) := hide (by unfold lpOK; rw [hkk])
  rw [← hkk] at C1 hk
  have HL := hide hl
  have hks : k ≤ s.size := by omega
  clear hbs hl EK
  replace hkk := hide hkk
  generalize liV (bs.drop a) = v at *
  by_cases g0 : v < 0
  · have E := unhide NO (by rw [unhide DEF, decide_eq_false (by omega)]; rfl)
    rw [E.1, E.2.1, E.2.2]
    clear E YES DEF C2 IX hk
    go_enter Try.func37, Try.ntmps37
    go_wp2_with fail
    refine (unhide C1).mono ?_
    rintro e w1 ⟨rfl, hb⟩
    go_wp2_with fail
    go_ret3
    exact ⟨rfl, hb⟩
  · by_cases g1 : k = s.size
    · have E := unhide NO (by rw [unhide DEF, List.drop_eq_nil_of_le (by rw [unhide HL]; omega)]; simp)
      rw [E.1, E.2.1, E.2.2]
      have d1 : ((k : Int) == (s.size : Int)) = true := by rw [g1]; simp
      replace g1 := hide g1
      clear E YES DEF C2 IX hk
      go_enter Try.func37, Try.ntmps37
      go_wp2_with fail
      refine (unhide C1).mono ?_
      rintro e w1 ⟨rfl, hb⟩
      go_wp2_with fail
      go_ret3
      exact ⟨rfl, hb⟩
    · have d1 : ((k : Int) == (s.size : Int)) = false := by rw [beq_eq_false_iff_ne]; omega
      have hk2 : k < s.size := by omega
      obtain ⟨h2, e0⟩ := unhide IX k hk2
      obtain ⟨x, hx⟩ : ∃ x, x = bs[k] := ⟨_, rfl⟩
      rw [← hx] at e0
      have HD : (bs.drop k).head? = some x := by rw [List.drop_eq_getElem_cons h2, hx]; rfl
      rw [HD] at DEF
      by_cases g2 : x = c
      · have E := unhide YES (by rw [unhide DEF, decide_eq_true (by omega), g2]; simp)
        rw [E.1, E.2.1, E.2.2]
        have d2 : ((x.toNat : Int) != (c.toNat : Int)) = false := by rw [g2]; simp
        have C3 := hide (unhide C2 (k + 1) (by omega))
        have wk : IntKind.i64.wrap ((k : Int) + 1) = (k : Int) + 1 := by rw [IntKind.wrap_i64]; omega
        have ck : ((k + 1 : Nat) : Int) = (k : Int) + 1 := by omega
        rw [show k + 1 + liK (bs.drop (k + 1)) = lpK bs (k + 1) from rfl, ck] at C3
        replace g2 := hide g2
        clear E NO DEF C2 IX hk HD hx ck YES
        generalize liV (bs.drop (k + 1)) = v2 at *
        generalize lpK bs (k + 1) = k2 at *
        go_enter Try.func37, Try.ntmps37
        go_wp2_with fail
        refine (unhide C1).mono ?_
        rintro e w1 ⟨rfl, hb⟩
        replace HB := hide hb
        clear hb
        go_wp2_with fail
        refine (unhide C3 _).mono ?_
        rintro e w2 ⟨rfl, hb⟩
        replace HB := hide (below_on (unhide HB) hb)
        clear hb
        go_wp2_with fail
        go_ret3
        exact ⟨rfl, unhide HB⟩
      · have E := unhide NO (by rw [unhide DEF, show (some x == some c) = false by simp [g2]]; simp)
        rw [E.1, E.2.1, E.2.2]
        have d2 : ((x.toNat : Int) != (c.toNat : Int)) = true := by simp; exact fun z => g2 (UInt8.toNat_inj.1 (by omega))
        clear E YES DEF C2 IX hk HD hx g2
        go_enter Try.func37, Try.ntmps37
        go_wp2_with fail
        refine (unhide C1).mono ?_
        rintro e w1 ⟨rfl, hb⟩
        go_wp2_with fail
        go_ret3
        exact ⟨rfl, hb⟩
end Go.Proofs.Ytcgbpcipdanfhaa
