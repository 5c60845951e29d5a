/- Rows of mixed points, and of differences: the program's and the specification's, by value. No condition beyond those typed. Written by mkrm12.py. -/
import Derived.Test.YthmpikagenodjaaGreatPkJ13
namespace Go.Proofs.YthmpikagenodjaaGreat
open Go.RowKit
set_option linter.unusedVariables false
set_option maxRecDepth 100000
set_option linter.unusedSimpArgs false


/-- All of at most 40 limbs. -/
def f40 (d : SD) : Bool := (decide (d.lo.num.xs.length ≤ 40) && decide (d.lo.den.xs.length ≤ 40)) && (decide (d.hi.num.xs.length ≤ 40) && decide (d.hi.den.xs.length ≤ 40))
theorem ans_f40 {p : Rat × Rat} {d e : SD} {ok : Bool} (h : AnsS true (nR p.1) (dR p.1) (nR p.2) (dR p.2) e ok) (k : IsDP p d) : ok = f40 d ∧ (ok = true → e = d) := by
  rcases h with ⟨_, xs, us, ys, vs, h1, h2, h3, h4, h5⟩ | ⟨p, _⟩
  · obtain rfl := h1.same k.n1
    obtain rfl := h2.same k.n2
    obtain rfl := h3.same k.n3
    obtain rfl := h4.same k.n4
    unfold f40
    rcases h5 with ⟨a, b, rfl, rfl⟩ | ⟨a, rfl, rfl⟩
    · refine ⟨by rw [decide_eq_true a.1, decide_eq_true a.2, decide_eq_true b.1, decide_eq_true b.2]; rfl, fun _ => ?_⟩
      exact (IsDP.same (p := p) ⟨rfl, h1, rfl, h2, rfl, h3, rfl, h4⟩ k)
    · refine ⟨?_, fun e => by cases e⟩
      cases hf : ((decide (d.lo.num.xs.length ≤ 40) && decide (d.lo.den.xs.length ≤ 40)) && (decide (d.hi.num.xs.length ≤ 40) && decide (d.hi.den.xs.length ≤ 40)))
      · rfl
      · simp only [Bool.and_eq_true, decide_eq_true_eq] at hf
        exact absurd hf a
  · cases p

set_option maxHeartbeats 8000000 in
theorem allZ (a : Option Addr) (n c : Nat) (l : List (SV × SD)) (ps : List (Rat × Rat)) (w : World) (h : PArS w a n c l) (hc : IsC ps (l.map Prod.snd)) (hn : n ≤ 10) :
    Calls Tryz.prog 61 #[.slice a n c] w (RetPrZ w (AnsC true (fun es => es.all f40) ps)) := by
  have HS := hide h
  have HN := hide h.len
  have IC := hide hc
  have n9 : n ≤ 10 := hn
  clear h hc
  go_enter Tryz.func61, Tryz.ntmps61
  go_wp2
  go_loopw [4, 11] (fun v iv wr => ∃ (i : Nat) (us : List (SV × SD)), i ≤ n ∧ iv = .int .i64 i ∧ us.length = i ∧ Hid (us.map Prod.snd = (l.map Prod.snd).take i) ∧ Hid (((l.map Prod.snd).take i).all f40 = true) ∧ Hid (GwY w.heap.size wr v us) ∧ Hid (Below w.heap.size w wr)) (fun _ iv _ => n - (intOf iv).toNat)
  case atStart => exact ⟨0, [], Nat.zero_le _, rfl, rfl, hide (by simp), hide (by simp), hide (GwY.nil _ _), hide (Below.refl _ _)⟩
  case round =>
    obtain ⟨i, us, hi', rfl, hu, ED, EA, GW, HB⟩ := hrel
    by_cases hlt : i < n
    · have hlt' : (i : Int) < (n : Int) := by omega
      have hlx : i < n := hlt
      rcases (unhide HS).at_ with e | ⟨b, off, rfl, hb, hcb⟩
      · exact absurd (unhide HN) (by rw [e]; simp <;> omega)
      have e0 := hcb i (by rw [unhide HN]; exact hlx)
      obtain ⟨y, hy⟩ : ∃ y, y = l[i]'(by rw [unhide HN]; exact hlx) := ⟨_, rfl⟩
      rw [← hy] at e0
      have My : Hid (l[i]? = some y) := hide (by rw [hy]; exact List.getElem?_eq_getElem _)
      clear hy
      have E0 : wr.cell? ⟨b, off + i * 8, none⟩ = some (.bool y.1.lo.num.g) := ((unhide HB).cell (p := ⟨b, off + i * 8, none⟩) hb).trans (e0.1)
      have E1 : wr.cell? ⟨b, off + i * 8 + 1, none⟩ = some (.slice y.1.lo.num.a y.1.lo.num.n y.1.lo.num.c) := ((unhide HB).cell (p := ⟨b, off + i * 8 + 1, none⟩) hb).trans (e0.2.1)
      have E2 : wr.cell? ⟨b, off + i * 8 + 2, none⟩ = some (.bool y.1.lo.den.g) := ((unhide HB).cell (p := ⟨b, off + i * 8 + 2, none⟩) hb).trans (e0.2.2.1)
      have E3 : wr.cell? ⟨b, off + i * 8 + 3, none⟩ = some (.slice y.1.lo.den.a y.1.lo.den.n y.1.lo.den.c) := ((unhide HB).cell (p := ⟨b, off + i * 8 + 3, none⟩) hb).trans (e0.2.2.2.1)
      have E4 : wr.cell? ⟨b, off + i * 8 + 4, none⟩ = some (.bool y.1.hi.num.g) := ((unhide HB).cell (p := ⟨b, off + i * 8 + 4, none⟩) hb).trans (e0.2.2.2.2.1)
      have E5 : wr.cell? ⟨b, off + i * 8 + 5, none⟩ = some (.slice y.1.hi.num.a y.1.hi.num.n y.1.hi.num.c) := ((unhide HB).cell (p := ⟨b, off + i * 8 + 5, none⟩) hb).trans (e0.2.2.2.2.2.1)
      have E6 : wr.cell? ⟨b, off + i * 8 + 6, none⟩ = some (.bool y.1.hi.den.g) := ((unhide HB).cell (p := ⟨b, off + i * 8 + 6, none⟩) hb).trans (e0.2.2.2.2.2.2.1)
      have E7 : wr.cell? ⟨b, off + i * 8 + 7, none⟩ = some (.slice y.1.hi.den.a y.1.hi.den.n y.1.hi.den.c) := ((unhide HB).cell (p := ⟨b, off + i * 8 + 7, none⟩) hb).trans (e0.2.2.2.2.2.2.2)
      clear e0
      clear hcb
      obtain ⟨p, hp1, hp2, hp3, hp4⟩ := RdC.pt ⟨unhide HS, unhide IC⟩ (unhide My)
      have al : Below wr.heap.size wr (wr.alloc (.cells #[.bool y.1.lo.num.g, .slice y.1.lo.num.a y.1.lo.num.n y.1.lo.num.c, .bool y.1.lo.den.g, .slice y.1.lo.den.a y.1.lo.den.n y.1.lo.den.c, .bool y.1.hi.num.g, .slice y.1.hi.num.a y.1.hi.num.n y.1.hi.num.c, .bool y.1.hi.den.g, .slice y.1.hi.den.a y.1.hi.den.n y.1.hi.den.c] 43)) := (Below.refl _ _).alloc (Nat.le_refl _) _
      have IP := hide ((hp4.later (unhide HB)).later al)
      have PD := hide hp3
      have TK : Hid ((l.map Prod.snd).take (i + 1) = (l.map Prod.snd).take i ++ [y.2]) := hide (by
        rw [List.take_add_one, List.getElem?_map, unhide My]
        rfl)
      have MD : Hid (y.2 ∈ l.map Prod.snd) := hide (List.mem_map.2 ⟨y, List.mem_of_getElem? (unhide My), rfl⟩)
      clear hp1 hp2 hp3 hp4 al
      go_wp2_with fail
      refine (fitsSS y.1 _ _ _ _ _ (unhide IP).x (unhide IP).y (dR_pos _) (dR_pos _)).mono ?_
      rintro e w2 ⟨u, d, ok, rfl, hb2, ho, hu2⟩
      obtain ⟨k1, k2⟩ := ans_f40 hu2 (unhide PD)
      have hbx := ba hb2
      have s2 := hbx.size
      have HB2 := hide (below_on (unhide HB) hbx)
      have zv : w.heap.size ≤ w2.heap.size := (unhide HB2).size
      have GW2 := hide ((unhide GW).later hbx)
      have TY := hide ho.typZ
      have AA := hide ho.sl
      clear hu2 hb2 ho hbx E0 E1 E2 E3 E4 E5 E6 E7 IP GW HB PD
      cases ok
      · have AN : Hid ((l.map Prod.snd).all f40 = false) := hide (List.all_eq_false.2 ⟨y.2, unhide MD, by rw [← k1]; simp⟩)
        clear k1 k2
        have a2 : Below w2.heap.size w2 (w2.alloc (.cells #[.bool u.lo.num.g, .slice u.lo.num.a u.lo.num.n u.lo.num.c, .bool u.lo.den.g, .slice u.lo.den.a u.lo.den.n u.lo.den.c, .bool u.hi.num.g, .slice u.hi.num.a u.hi.num.n u.hi.num.c, .bool u.hi.den.g, .slice u.hi.den.a u.hi.den.n u.hi.den.c] 43)) := (Below.refl _ _).alloc (Nat.le_refl _) _
        have HB3 := hide (below_on (unhide HB2) a2)
        clear a2
        go_wp2
        go_ret2
        exact ⟨none, 0, 0, [], false, rfl, unhide HB3, ⟨.inl rfl, fun p hp => (by cases hp)⟩, rfl, .inl ⟨rfl, _, unhide IC, .inr ⟨unhide AN, rfl, rfl⟩⟩⟩
      · obtain rfl := k2 rfl
        have FY : Hid (f40 y.2 = true) := hide k1.symm
        clear k1 k2
        have b2 : Below w2.heap.size w2 ((w2.alloc (.cells #[.bool u.lo.num.g, .slice u.lo.num.a u.lo.num.n u.lo.num.c, .bool u.lo.den.g, .slice u.lo.den.a u.lo.den.n u.lo.den.c, .bool u.hi.num.g, .slice u.hi.num.a u.hi.num.n u.hi.num.c, .bool u.hi.den.g, .slice u.hi.den.a u.hi.den.n u.hi.den.c] 43)).alloc (.cells #[.bool u.lo.num.g, .slice u.lo.num.a u.lo.num.n u.lo.num.c, .bool u.lo.den.g, .slice u.lo.den.a u.lo.den.n u.lo.den.c, .bool u.hi.num.g, .slice u.hi.num.a u.hi.num.n u.hi.num.c, .bool u.hi.den.g, .slice u.hi.den.a u.hi.den.n u.hi.den.c] 43)) := ((Below.refl _ _).alloc (Nat.le_refl _) _).alloc (by simp) _
        have HB3 := hide (below_on (unhide HB2) b2)
        have GW3 := hide ((unhide GW2).later b2)
        have TY3 := hide ((unhide TY).later b2)
        have AR3 := hide ((unhide AA).later b2)
        clear b2
        go_wp2_with (at_builtin; refine appY rfl (.tmp 22) (.tmp 24) rfl w.heap.size _ us rfl (unhide GW3) (w2.heap.size + 1) u y.2 rfl (by rw [show w2.heap.size + 1 = (w2.alloc (.cells #[.bool u.lo.num.g, .slice u.lo.num.a u.lo.num.n u.lo.num.c, .bool u.lo.den.g, .slice u.lo.den.a u.lo.den.n u.lo.den.c, .bool u.hi.num.g, .slice u.hi.num.a u.hi.num.n u.hi.num.c, .bool u.hi.den.g, .slice u.hi.den.a u.hi.den.n u.hi.den.c] 43)).heap.size from by simp]; exact heap_alloc_new _ _) (unhide TY3) (unhide AR3) (by omega) (by simp; omega) ?_)
        intro g cap w3 hG hgrow
        have HB4 := hide (GwY.bel (unhide GW3) (unhide HB3) (Nat.le_refl _) hgrow)
        have GW4 := hide hG
        have ED4 : Hid ((us ++ [(u, y.2)]).map Prod.snd = (l.map Prod.snd).take (i + 1)) := hide (by rw [unhide TK, List.map_append, unhide ED]; rfl)
        have EA4 : Hid (((l.map Prod.snd).take (i + 1)).all f40 = true) := hide (by rw [unhide TK, List.all_append, unhide EA]; simp [unhide FY])
        clear hG hgrow GW3 HB3 GW2 HB2
        go_wp2
        go_roundw
        case rel => exact ⟨i + 1, us ++ [(u, y.2)], by omega, by go_num, by simp [hu], ED4, EA4, GW4, HB4⟩
        case measure => simp [intOf]; omega
    · obtain rfl : i = n := by omega
      have EL : Hid (us.map Prod.snd = l.map Prod.snd) := hide (by have h := unhide ED; rw [List.take_of_length_le (by simp; rw [unhide HN]; exact Nat.le_refl _)] at h; exact h)
      have AN : Hid ((l.map Prod.snd).all f40 = true) := hide (by have h := unhide EA; rw [List.take_of_length_le (by simp; rw [unhide HN]; exact Nat.le_refl _)] at h; exact h)
      obtain ⟨a3, c3, e3, p3⟩ := (unhide GW).sl
      rw [hu] at e3
      subst e3
      have P3 := hide p3
      clear p3 GW ED
      go_wp2
      go_ret2
      refine ⟨_, _, _, us, true, rfl, unhide HB, unhide P3, hu, ?_⟩
      rw [unhide EL]
      exact .inl ⟨rfl, _, unhide IC, .inl ⟨unhide AN, rfl, rfl⟩⟩
/-- A slice as an argument, its limbs in blocks of integers. -/
structure PArT (w : World) (a : Option Addr) (n c : Nat) (l : List (SV × SD)) : Prop where
  ar : PArS w a n c l
  typ : TypZ w (zipPS l)
theorem POwS.argT {lo hi : Nat} {w : World} {G n c : Nat} {l : List (SV × SD)} (h : POwS lo hi w G n c l) : PArT w (some ⟨G, 0, none⟩) n c l := ⟨h.arg, h.own.typZ⟩
theorem vC_eq {k l : List (SV × SD)} (e : k.map Prod.snd = l.map Prod.snd) : vC k = vC l := by
  have := congrArg (List.map vP) e
  simp only [List.map_map] at this
  exact this

end Go.Proofs.YthmpikagenodjaaGreat
namespace Go.Proofs.YthmpikagenodjaaGreat
open Go.RowKit
set_option linter.unusedVariables false
set_option maxRecDepth 100000
set_option linter.unusedSimpArgs false

theorem AtZ.left {us vs : List (SV × SD)} {k : Nat} {p : Rat × Rat} (h : AtZ us k p) : AtZ (us ++ vs) k p := by
  obtain ⟨y, h1, h2⟩ := h
  exact ⟨y, by rw [List.getElem?_append_left (List.getElem?_eq_some_iff.1 h1).1]; exact h1, h2⟩
theorem atZ_new {us : List (SV × SD)} {p : Rat × Rat} {u : SV} {d : SD} {k : Nat} (hk : us.length = k) (h : IsDP p d) : AtZ (us ++ [(u, d)]) k p := ⟨(u, d), by rw [List.getElem?_append_right (by omega), hk, Nat.sub_self]; rfl, h⟩
/-- A specification's function tells these points; their limbs lie in blocks of integers. -/
def OutGz (w : World) (ps : List (Rat × Rat)) (e : Ending) (w' : World) : Prop := ∃ (a : Option Addr) (n c : Nat) (l : List (SV × SD)), e = .returned (.slice a n c) ∧ Below w.heap.size w w' ∧ RdC w' a n c l ps ∧ TypZ w' (zipPS l)

end Go.Proofs.YthmpikagenodjaaGreat
