/- ReadPicture of the program, by value. No condition beyond those typed. Written by mkrp15.py. -/
import Derived.Test.YtcgbpcipdanfhaaDoorPp15
import Derived.Test.YtcgbpcipdanfhaaDoorFr15
import Derived.Test.YtcgbpcipdanfhaaDoorJn15
import Derived.Test.YtcgbpcipdanfhaaDoorShelf
import Derived.OwnWalk
namespace Go.Proofs.YtcgbpcipdanfhaaDoor
open Go.RowKit
set_option linter.unusedVariables false
set_option maxRecDepth 100000
set_option linter.unusedSimpArgs false

theorem results_tmp4 {fn : Func} {t u v x : Tmp} (h : fn.results = #[.tmp t, .tmp u, .tmp v, .tmp x]) (tmps : Array Value) (P : Program) (w : World) :
    (results fn tmps).run P w = .ok (.tuple #[tmps.getD t undef, tmps.getD u undef, tmps.getD v undef, tmps.getD x undef]) w := by
  simp [results, h]
/-- strings.MaxLen's cell: some number. -/
def MaxL (m : Int) (w : World) : Prop := w.cell? ⟨0, 0, none⟩ = some (.int .i64 m)
theorem MaxL.later {m : Int} {w w' : World} (h : MaxL m w) (hb : Below w.heap.size w w') : MaxL m w' := cell_later hb h
theorem cutI (l sep : List UInt8) (m : Int) (w : World) (hl : l.length ≤ 1048576) (hm : MaxL m w) :
    Calls Tryd.prog 83 #[.string (st l), .string (st sep)] w fun e w' => e = .returned (.tuple #[.string (st (Lib.cut l sep).1), .string (st (Lib.cut l sep).2.1), .bool (Lib.cut l sep).2.2]) ∧ Below w.heap.size w w' := by
  have h := Tryd.strings_Cut (st l) (st sep) m w (by rw [st_size]; omega) hm
  rw [st_data, st_data] at h
  refine h.mono ?_
  rintro e w' ⟨rfl, n, rfl⟩
  exact ⟨rfl, below_drewN (Below.refl _ _) n⟩
theorem index_len (s sub : List UInt8) (h : 0 ≤ Lib.index s sub) : (Lib.index s sub).toNat ≤ s.length := (index_occ s sub h).2
theorem cut_len1 (s sep : List UInt8) : (Lib.cut s sep).1.length ≤ s.length := by unfold Lib.cut; split <;> simp; omega
theorem cut_len2 (s sep : List UInt8) : (Lib.cut s sep).2.1.length ≤ s.length := by unfold Lib.cut; split <;> simp
theorem ppR_len (bs : List UInt8) : (ppR bs).length ≤ bs.length := by unfold ppR Lib.trimPrefix; split <;> simp
theorem ppX_len (bs : List UInt8) : (ppX bs).length ≤ bs.length := Nat.le_trans (cut_len2 _ _) (Nat.le_trans (cut_len2 _ _) (ppR_len bs))
theorem numI15 (l : List UInt8) (w : World) (hl : l.length ≤ 1048576) :
    Calls Tryd.prog 84 #[.string (st l), .int .i64 10] w fun e w' => e = .returned (.tuple #[.int .i64 (((numV 10 l).getD 0 : Nat) : Int), .bool (numV 10 l).isSome]) ∧ Below w.heap.size w w' := by
  have h := numI (st l) 10 w (by omega) (by rw [st_size]; exact hl)
  rw [st_data] at h
  exact h
set_option maxHeartbeats 4000000 in
theorem partsI15 (s : ByteArray) (m : Int) (w : World) (hs : s.size ≤ 1048576) (hm : MaxL m w) :
    Calls Tryd.prog 65 #[.string s] w fun e w' => e = .returned (.tuple #[.int .i64 ((ppW s.data.toList : Nat) : Int), .int .i64 ((ppH s.data.toList : Nat) : Int), .string (st (ppX s.data.toList)), .bool (ppT s.data.toList)]) ∧ Below w.heap.size w w' := by
  obtain ⟨bs, hbs⟩ : ∃ bs, bs = s.data.toList := ⟨_, rfl⟩
  have hl : bs.length ≤ 1048576 := by rw [hbs, size_list]; exact hs
  have hR := Nat.le_trans (ppR_len bs) hl
  have hA1 : (ppA bs).1.length ≤ 1048576 := Nat.le_trans (cut_len1 _ _) hR
  have hA2 : (ppA bs).2.1.length ≤ 1048576 := Nat.le_trans (cut_len2 _ _) hR
  have hB1 : (ppB bs).1.length ≤ 1048576 := Nat.le_trans (cut_len1 _ _) hA2
  rw [← hbs]
  have C1 : Hid (∀ w, Calls Tryd.prog 82 #[.string s, .string { data := #[80, 53, 10] }] w fun e w' => e = .returned (.tuple #[.string (st (ppR bs)), .bool (Lib.hasPrefix bs [80, 53, 10])]) ∧ w' = w) := hide (fun w => by
    have h := Tryd.strings_CutPrefix s { data := #[80, 53, 10] } w
    rw [← hbs] at h
    exact h)
  have C2 : Hid (∀ w, MaxL m w → Calls Tryd.prog 83 #[.string (st (ppR bs)), .string { data := #[32] }] w fun e w' => e = .returned (.tuple #[.string (st (ppA bs).1), .string (st (ppA bs).2.1), .bool (ppA bs).2.2]) ∧ Below w.heap.size w w') := hide (fun w k => cutI (ppR bs) [32] m w hR k)
  have C3 : Hid (∀ w, MaxL m w → Calls Tryd.prog 83 #[.string (st (ppA bs).2.1), .string { data := #[10, 50, 53, 53, 10] }] w fun e w' => e = .returned (.tuple #[.string (st (ppB bs).1), .string (st (ppX bs)), .bool (ppB bs).2.2]) ∧ Below w.heap.size w w') := hide (fun w k => cutI (ppA bs).2.1 [10, 50, 53, 53, 10] m w hA2 k)
  have C4 := hide (fun w => numI15 (ppA bs).1 w hA1)
  have C5 := hide (fun w => numI15 (ppB bs).1 w hB1)
  have HM := hide hm
  have EW : Hid (ppW bs = (numV 10 (ppA bs).1).getD 0) := hide rfl
  have EH : Hid (ppH bs = (numV 10 (ppB bs).1).getD 0) := hide rfl
  have ET : Hid (ppT bs = ((((Lib.hasPrefix bs [80, 53, 10] && (ppA bs).2.2) && (ppB bs).2.2) && (numV 10 (ppA bs).1).isSome) && (numV 10 (ppB bs).1).isSome)) := hide rfl
  rw [← unhide EW] at C4
  rw [← unhide EH] at C5
  generalize ppX bs = X at *
  generalize ppT bs = T at *
  generalize ppW bs = W0 at *
  generalize ppH bs = H0 at *
  generalize Lib.hasPrefix bs [80, 53, 10] = b1 at *
  generalize (numV 10 (ppA bs).1).isSome = b4 at *
  generalize (numV 10 (ppB bs).1).isSome = b5 at *
  generalize (ppA bs).2.2 = b2 at *
  generalize (ppB bs).2.2 = b3 at *
  generalize (ppA bs).2.1 = A2 at *
  generalize (ppA bs).1 = A1 at *
  generalize (ppB bs).1 = B1 at *
  generalize ppR bs = R0 at *
  have HB := hide (Below.refl w.heap.size w)
  clear hm hbs hl hR hA1 hA2 hB1 EW EH hs
  have TT := unhide ET
  clear ET
  cases b1 <;> cases b2 <;> cases b3 <;> cases b4 <;> cases b5 <;> simp only [Bool.and_true, Bool.and_false, Bool.true_and, Bool.false_and] at TT <;> subst TT <;>
   (go_enter Tryd.func65, Tryd.ntmps65
    go_wp2_with fail
    refine (unhide C1 _).mono ?_
    rintro e w1 ⟨rfl, rfl⟩
    go_wp2_with fail
    refine (unhide C2 _ (unhide HM)).mono ?_
    rintro e w2 ⟨rfl, hb⟩
    replace HM := hide ((unhide HM).later hb)
    replace HB := hide (below_on (unhide HB) hb)
    clear hb
    go_wp2_with fail
    refine (unhide C3 _ (unhide HM)).mono ?_
    rintro e w3 ⟨rfl, hb⟩
    replace HB := hide (below_on (unhide HB) hb)
    clear hb
    go_wp2_with fail
    refine (unhide C4 _).mono ?_
    rintro e w4 ⟨rfl, hb⟩
    replace HB := hide (below_on (unhide HB) hb)
    clear hb
    go_wp2_with fail
    refine (unhide C5 _).mono ?_
    rintro e w5 ⟨rfl, hb⟩
    replace HB := hide (below_on (unhide HB) hb)
    clear hb
    go_wp2_with fail
    (try simp only [Exit.inBlock, Exit.then])
    refine bodyPost_ret (results_tmp4 rfl _ _ _) rfl ?_
    exact ⟨rfl, unhide HB⟩)
/-- The numbers of bytes. -/
def tB (l : List UInt8) : List Int := l.map (fun c => (c.toNat : Int))
theorem tB_len (l : List UInt8) : (tB l).length = l.length := by simp [tB]
theorem tB_at {l : List UInt8} {i : Nat} (h : i < l.length) : (tB l).getD i 0 = (l[i].toNat : Int) := by simp [tB, List.getD, h]
set_option maxHeartbeats 8000000 in
theorem bytesI (l : List UInt8) (w : World) (hn : l.length ≤ 1048576) :
    Calls Tryd.prog 66 #[.string (st l)] w fun e w' => ∃ v, e = .returned v ∧ Below w.heap.size w w' ∧ RwI w.heap.size w' v (tB l) := by
  obtain ⟨i0, hi0, hz0, hz1, hz2⟩ := info_parts Tryd.info3
  obtain ⟨s, hs⟩ : ∃ s, s = st l := ⟨_, rfl⟩
  have hsz : s.size = l.length := by rw [hs, st_size]
  have IX : Hid (∀ i (h : i < s.size), ∃ h2 : i < l.length, s[i]'h = l[i]) := hide (fun i h => ⟨by omega, by subst hs; simp [st]; rfl⟩)
  rw [← hs]
  obtain ⟨n, hn2⟩ : ∃ n, n = s.size := ⟨_, rfl⟩
  have HL : Hid (l.length = n) := hide (by omega)
  have HT : Hid ((tB l).length = n) := hide (by rw [tB_len]; omega)
  have n1 : n ≤ 1048576 := by omega
  have ns : Hid (s.size = n) := hide hn2.symm
  have sn : (s.size : Int) = (n : Int) := by rw [hn2]
  clear hs hsz hn hn2
  go_enter Tryd.func66, Tryd.ntmps66
  go_wp2_with (at_make; refine wpList_make_full _ rfl _ _ 23 rfl w.heap.size 3 i0 (.int .i64 0) 1 Tryd.underlying23 hi0 hz0 hz1 .i64 .i64 _ _ n rfl rfl (by first | rfl | exact sn) (by first | rfl | exact sn) ?c1 ?c2 ?c3 ?_)
  case c1 => rw [hz2]; omega
  case c2 => unfold maxLen; omega
  case c3 => exact Nat.le_refl _
  intro w0 hown hgrow
  have P0 : Hid (RwI w.heap.size w0 (.slice (some ⟨w.heap.size, 0, none⟩) n n) (yl15 (tB l) n 0)) := hide ⟨by
    have e : (yl15 (tB l) n 0).map (Value.int .i64) = (madeCells #[Value.int .i64 0] n).toList := by simp only [madeCells, yl15]; apply List.ext_getElem <;> simp [Nat.mod_one]
    rw [e, yl_len (unhide HT) (Nat.zero_le _)]
    exact hown⟩
  have B0 : Hid (Below w.heap.size w w0) := hide ((Below.refl _ _).grown hgrow (Nat.le_refl _) (fun k e => by cases e))
  have gs : w.heap.size < w0.heap.size := by
    rcases (unhide P0).row.2 with ⟨e, _⟩ | ⟨g', cap, cur, hv, h1, hg, _⟩
    · simp at e
    · simp only [Value.slice.injEq, Option.some.injEq, Addr.mk.injEq, and_true, true_and] at hv
      have := (Array.getElem?_eq_some_iff.1 hg).1
      omega
  clear hown hgrow
  generalize hgq : w.heap.size = g at *
  go_wp2
  go_loopw [10] (fun iv wr => ∃ (i : Nat), i ≤ n ∧ iv = .int .i64 i ∧ Hid (RwI g wr (.slice (some ⟨g, 0, none⟩) n n) (yl15 (tB l) n i)) ∧ g < wr.heap.size ∧ Hid (Below g w wr)) (fun iv _ => n - (intOf iv).toNat)
  case atStart => exact ⟨0, Nat.zero_le _, rfl, P0, gs, B0⟩
  case round =>
    clear B0 P0 gs
    obtain ⟨i, hi, rfl, R, gs, HB⟩ := hrel
    by_cases hlt : i < n
    · have hlt' : (i : Int) < (n : Int) := by omega
      have his : i < s.size := by have := unhide ns; omega
      obtain ⟨hil, e0⟩ := unhide IX i his
      have R2 := (unhide R).put11 i ((tB l).getD i 0)
      rw [yl_set (unhide HT) hlt, tB_at hil] at R2
      obtain ⟨c, hc⟩ : ∃ c, c = l[i] := ⟨_, rfl⟩
      rw [← hc] at e0 R2
      have wc : IntKind.i64.wrap (c.toNat : Int) = (c.toNat : Int) := by have := UInt8.toNat_lt c; rw [IntKind.wrap_i64]; omega
      have hr := (unhide R).row
      rw [yl_len (unhide HT) hi] at hr
      have old : ∃ u, wr.cell? ⟨g, i, none⟩ = some u := by
        rw [hr.cellAt _ (by omega), List.getElem?_eq_getElem (by rw [List.length_map, yl_len (unhide HT) hi]; omega)]
        exact ⟨_, rfl⟩
      obtain ⟨u, hu⟩ := old
      have fr : ∀ o, wr.frozen? ⟨g, o, none⟩ = false := fun o => hr.frozenAt o
      have his2 : (i : Int) < (s.size : Int) := by omega
      have RN := hide R2
      have HB2 := hide (set_bel15 (k := i) (u := .int .i64 (c.toNat : Int)) (unhide HB) (Nat.le_refl g) gs)
      have gs2 : g < (wr.setCell ⟨g, i, none⟩ (.int .i64 (c.toNat : Int))).heap.size := by simpa using gs
      clear hc hr R R2 HB sn
      go_wp2
      go_roundw
      case rel => exact ⟨i + 1, by omega, by go_num, RN, gs2, HB2⟩
      case measure => simp [intOf]; omega
    · obtain rfl : i = n := by omega
      have EX : yl15 (tB l) i i = tB l := by unfold yl15; rw [← unhide HT, List.take_length]; simp
      rw [EX] at R
      clear EX
      go_wp2
      go_ret
      exact ⟨_, rfl, by rw [hgq]; exact unhide HB, by rw [hgq]; exact unhide R⟩
/-- What ReadPicture tells. -/
def rpW (bs : List UInt8) : Int := if rpB bs = true then (ppW bs : Int) else 0
def rpH (bs : List UInt8) : Int := if rpB bs = true then (ppH bs : Int) else 0
def rpL (bs : List UInt8) : List Int := if rpB bs = true then tB (ppX bs) else []
set_option maxHeartbeats 4000000 in
theorem ReadPictureI (s : ByteArray) (m : Int) (w : World) (hs : s.size ≤ 1048576) (hm : MaxL m w) :
    Calls Tryd.prog 29 #[.string s] w fun e w' => ∃ a' n' c', e = .returned (.tuple #[.int .i64 (rpW s.data.toList), .int .i64 (rpH s.data.toList), .slice a' n' c', .bool (rpB s.data.toList)]) ∧ Below w.heap.size w w' ∧ RtI w.heap.size w' a' n' c' (rpL s.data.toList) ∧ n' ≤ 1048576 := by
  have C1 := hide (partsI15 s m w hs hm)
  obtain ⟨bs, hbs⟩ : ∃ bs, bs = s.data.toList := ⟨_, rfl⟩
  have hX : (ppX bs).length ≤ 1048576 := Nat.le_trans (ppX_len bs) (by rw [hbs, size_list]; exact hs)
  rw [← hbs] at C1 ⊢
  have C2 := hide (fun w => goodPicI (ppW bs : Int) (ppH bs : Int) ((ppX bs).length : Int) w)
  have C3 := hide (fun w => bytesI (ppX bs) w hX)
  have LT : Hid ((tB (ppX bs)).length ≤ 1048576) := hide (by rw [tB_len]; exact hX)
  have sz : ((st (ppX bs)).size : Int) = ((ppX bs).length : Int) := by rw [st_size]
  have sz2 : (st (ppX bs)).size = (ppX bs).length := st_size _
  have HB := hide (Below.refl w.heap.size w)
  clear hbs hm hs
  cases t : ppT bs
  · have EB : rpB bs = false := by unfold rpB; rw [t]; rfl
    have E : rpW bs = 0 ∧ rpH bs = 0 ∧ rpL bs = [] := by unfold rpW rpH rpL; rw [EB]; exact ⟨rfl, rfl, rfl⟩
    rw [E.1, E.2.1, E.2.2, EB]
    rw [t] at C1
    clear E EB t C2 C3 hX
    go_enter Tryd.func29, Tryd.ntmps29
    go_wp2_with fail
    refine (unhide C1).mono ?_
    rintro e w1 ⟨rfl, hb⟩
    go_wp2_with fail
    (try simp only [Exit.inBlock, Exit.then])
    refine bodyPost_ret (results_tmp4 rfl _ _ _) rfl ?_
    exact ⟨none, 0, 0, rfl, hb, rti_nil15, by omega⟩
  · cases g : gP15 (ppW bs : Int) (ppH bs : Int) ((ppX bs).length : Int)
    · have EB : rpB bs = false := by unfold rpB; rw [t, g]; rfl
      have E : rpW bs = 0 ∧ rpH bs = 0 ∧ rpL bs = [] := by unfold rpW rpH rpL; rw [EB]; exact ⟨rfl, rfl, rfl⟩
      rw [E.1, E.2.1, E.2.2, EB]
      rw [t] at C1
      rw [g] at C2
      clear E EB t g C3 hX
      go_enter Tryd.func29, Tryd.ntmps29
      go_wp2_with fail
      refine (unhide C1).mono ?_
      rintro e w1 ⟨rfl, hb⟩
      go_wp2_with fail
      refine (unhide C2 _).mono ?_
      rintro e w2 ⟨rfl, rfl⟩
      go_wp2_with fail
      (try simp only [Exit.inBlock, Exit.then])
      refine bodyPost_ret (results_tmp4 rfl _ _ _) rfl ?_
      exact ⟨none, 0, 0, rfl, hb, rti_nil15, by omega⟩
    · have EB : rpB bs = true := by unfold rpB; rw [t, g]; rfl
      have E : rpW bs = (ppW bs : Int) ∧ rpH bs = (ppH bs : Int) ∧ rpL bs = tB (ppX bs) := by unfold rpW rpH rpL; rw [EB]; exact ⟨rfl, rfl, rfl⟩
      rw [E.1, E.2.1, E.2.2, EB]
      rw [t] at C1
      rw [g] at C2
      clear E EB t g hX
      generalize ppX bs = X at *
      go_enter Tryd.func29, Tryd.ntmps29
      go_wp2_with fail
      refine (unhide C1).mono ?_
      rintro e w1 ⟨rfl, hb⟩
      replace HB := hide hb
      clear hb
      go_wp2_with fail
      refine (unhide C2 _).mono ?_
      rintro e w2 ⟨rfl, rfl⟩
      go_wp2_with fail
      refine (unhide C3 _).mono ?_
      rintro e w3 ⟨v, rfl, hb, hr⟩
      have HR := hide (hr.mono (unhide HB).size)
      replace HB := hide (below_on (unhide HB) hb)
      clear hb hr
      obtain ⟨a', c', rfl, r⟩ := (unhide HR).rt
      go_wp2_with fail
      (try simp only [Exit.inBlock, Exit.then])
      refine bodyPost_ret (results_tmp4 rfl _ _ _) rfl ?_
      exact ⟨_, _, _, rfl, unhide HB, r, unhide LT⟩
end Go.Proofs.YtcgbpcipdanfhaaDoor
