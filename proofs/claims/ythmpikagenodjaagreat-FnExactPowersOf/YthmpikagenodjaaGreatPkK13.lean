/- Rows of mixed points, and of differences: the program's and the specification's, by value. No condition beyond those typed. Written by mkrm12.py. -/
import Derived.Test.YthmpikagenodjaaGreatPkJ13
namespace Go.Proofs.YthmpikagenodjaaGreat
open Go.RowKit
set_option linter.unusedVariables false
set_option maxRecDepth 100000
set_option linter.unusedSimpArgs false


/-- All of at most 40 limbs. -/
def f40 (d : SD) : Bool := (decide (d.lo.num.xs.length ≤ 40) && decide (d.lo.den.xs.length ≤ 40)) && (decide (d.hi.num.xs.length ≤ 40) && decide (d.hi.den.xs.length ≤ 40))
theorem ans_f40 {p : Rat × Rat} {d e : SD} {ok : Bool} (h : AnsS true (nR p.1) (dR p.1) (nR p.2) (dR p.2) e ok) (k : IsDP p d) : ok = f40 d ∧ (ok = true → e = d) := by
  rcases h with ⟨_, xs, us, ys, vs, h1, h2, h3, h4, h5⟩ | ⟨p, _⟩
  · obtain rfl := h1.same k.n1
    obtain rfl := h2.same k.n2
    obtain rfl := h3.same k.n3
    obtain rfl := h4.same k.n4
    unfold f40
    rcases h5 with ⟨a, b, rfl, rfl⟩ | ⟨a, rfl, rfl⟩
    · refine ⟨by rw [decide_eq_true a.1, decide_eq_true a.2, decide_eq_true b.1, decide_eq_true b.2]; rfl, fun _ => ?_⟩
      exact (IsDP.same (p := p) ⟨rfl, h1, rfl, h2, rfl, h3, rfl, h4⟩ k)
    · refine ⟨?_, fun e => by cases e⟩
      cases hf : ((decide (d.lo.num.xs.length ≤ 40) && decide (d.lo.den.xs.length ≤ 40)) && (decide (d.hi.num.xs.length ≤ 40) && decide (d.hi.den.xs.length ≤ 40)))
      · rfl
      · simp only [Bool.and_eq_true, decide_eq_true_eq] at hf
        exact absurd hf a
  · cases p

set_option maxHeartbeats 8000000 in
theorem allZ (a : Option Addr) (n c : Nat) (l : List (SV × SD)) (ps : List (Rat × Rat)) (w : World) (h : PArS w a n c l) (hc : IsC ps (l.map Prod.snd)) (hn : n ≤ 10) :
    Calls Tryz.prog 61 #[.slice a n c] w (RetPrZ w (AnsC true (fun es => es.all f40) ps)) := by
  have HS := hide h
  have HN := hide h.len
  have IC := hide hc
  have n9 : n ≤ 10 := hn
  clear h hc
  go_enter Tryz.func61, Tryz.ntmps61
  go_wp2
  go_loopw [4, 11] (fun v iv wr => ∃ (i : Nat) (us : List (SV × SD)), i ≤ n ∧ iv = .int .i64 i ∧ us.length = i ∧ Hid (us.map Prod.snd = (l.map Prod.snd).take i) ∧ Hid (((l.map Prod.snd).take i).all f40 = true) ∧ Hid (GwY w.heap.size wr v us) ∧ Hid (Below w.heap.size w wr)) (fun _ iv _ => n - (intOf iv).toNat)
  case atStart => exact ⟨0, [], Nat.zero_le _, rfl, rfl, hide (by simp), hide (by simp), hide (GwY.nil _ _), hide (Below.refl _ _)⟩
  case round =>
    obtain ⟨i, us, hi', rfl, hu, ED, EA, GW, HB⟩ := hrel
    by_cases hlt : i < n
    · have hlt' : (i : Int) < (n : Int) := by omega
      have hlx : i < n := hlt
      rcases (unhide HS).at_ with e | ⟨b, off, rfl, hb, hcb⟩
      · exact absurd (unhide HN) (by rw [e]; simp <;> omega)
      have e0 := hcb i (by rw [unhide HN]; exact hlx)
      obtain ⟨y, hy⟩ : ∃ y, y = l[i]'(by rw [unhide HN]; exact hlx) := ⟨_, rfl⟩
      rw [← hy] at e0
      have My : Hid (l[i]? = some y) := hide (by rw [hy]; exact List.getElem?_eq_getElem _)
      clear hy
      have E0 : wr.cell? ⟨b, off + i * 8, none⟩ = some (.bool y.1.lo.num.g) := ((unhide HB).cell (p := ⟨b, off + i * 8, none⟩) hb).trans (e0.1)
      have E1 : wr.cell? ⟨b, off + i * 8 + 1, none⟩ = some (.slice y.1.lo.num.a y.1.lo.num.n y.1.lo.num.c) := ((unhide HB).cell (p := ⟨b, off + i * 8 + 1, none⟩) hb).trans (e0.2.1)
      have E2 : wr.cell? ⟨b, off + i * 8 + 2, none⟩ = some (.bool y.1.lo.den.g) := ((unhide HB).cell (p := ⟨b, off + i * 8 + 2, none⟩) hb).trans (e0.2.2.1)
      have E3 : wr.cell? ⟨b, off + i * 8 + 3, none⟩ = some (.slice y.1.lo.den.a y.1.lo.den.n y.1.lo.den.c) := ((unhide HB).cell (p := ⟨b, off + i * 8 + 3, none⟩) hb).trans (e0.2.2.2.1)
      have E4 : wr.cell? ⟨b, off + i * 8 + 4, none⟩ = some (.bool y.1.hi.num.g) := ((unhide HB).cell (p := ⟨b, off + i * 8 + 4, none⟩) hb).trans (e0.2.2.2.2.1)
      have E5 : wr.cell? ⟨b, off + i * 8 + 5, none⟩ = some (.slice y.1.hi.num.a y.1.hi.num.n y.1.hi.num.c) := ((unhide HB).cell (p := ⟨b, off + i * 8 + 5, none⟩) hb).trans (e0.2.2.2.2.2.1)
      have E6 : wr.cell? ⟨b, off + i * 8 + 6, none⟩ = some (.bool y.1.hi.den.g) := ((unhide HB).cell (p := ⟨b, off + i * 8 + 6, none⟩) hb).trans (e0.2.2.2.2.2.2.1)
      have E7 : wr.cell? ⟨b, off + i * 8 + 7, none⟩ = some (.slice y.1.hi.den.a y.1.hi.den.n y.1.hi.den.c) := ((unhide HB).cell (p := ⟨b, off + i * 8 + 7, none⟩) hb).trans (e0.2.2.2.2.2.2.2)
      clear e0
      clear hcb
      obtain ⟨p, hp1, hp2, hp3, hp4⟩ := RdC.pt ⟨unhide HS, unhide IC⟩ (unhide My)
      have al : Below wr.heap.size wr (wr.alloc (.cells #[.bool y.1.lo.num.g, .slice y.1.lo.num.a y.1.lo.num.n y.1.lo.num.c, .bool y.1.lo.den.g, .slice y.1.lo.den.a y.1.lo.den.n y.1.lo.den.c, .bool y.1.hi.num.g, .slice y.1.hi.num.a y.1.hi.num.n y.1.hi.num.c, .bool y.1.hi.den.g, .slice y.1.hi.den.a y.1.hi.den.n y.1.hi.den.c] 43)) := (Below.refl _ _).alloc (Nat.le_refl _) _
      have IP := hide ((hp4.later (unhide HB)).later al)
      have PD := hide hp3
      have TK : Hid ((l.map Prod.snd).take (i + 1) = (l.map Prod.snd).take i ++ [y.2]) := hide (by
        rw [List.take_add_one, List.getElem?_map, unhide My]
        rfl)
      have MD : Hid (y.2 ∈ l.map Prod.snd) := hide (List.mem_map.2 ⟨y, List.mem_of_getElem? (unhide My), rfl⟩)
      clear hp1 hp2 hp3 hp4 al
      go_wp2_with fail
      refine (fitsSS y.1 _ _ _ _ _ (unhide IP).x (unhide IP).y (dR_pos _) (dR_pos _)).mono ?_
      rintro e w2 ⟨u, d, ok, rfl, hb2, ho, hu2⟩
      obtain ⟨k1, k2⟩ := ans_f40 hu2 (unhide PD)
      have hbx := ba hb2
      have s2 := hbx.size
      have HB2 := hide (below_on (unhide HB) hbx)
      have zv : w.heap.size ≤ w2.heap.size := (unhide HB2).size
      have GW2 := hide ((unhide GW).later hbx)
      have TY := hide ho.typZ
      have AA := hide ho.sl
      clear hu2 hb2 ho hbx E0 E1 E2 E3 E4 E5 E6 E7 IP GW HB PD
      cases ok
      · have AN : Hid ((l.map Prod.snd).all f40 = false) := hide (List.all_eq_false.2 ⟨y.2, unhide MD, by rw [← k1]; simp⟩)
        clear k1 k2
        have a2 : Below w2.heap.size w2 (w2.alloc (.cells #[.bool u.lo.num.g, .slice u.lo.num.a u.lo.num.n u.lo.num.c, .bool u.lo.den.g, .slice u.lo.den.a u.lo.den.n u.lo.den.c, .bool u.hi.num.g, .slice u.hi.num.a u.hi.num.n u.hi.num.c, .bool u.hi.den.g, .slice u.hi.den.a u.hi.den.n u.hi.den.c] 43)) := (Below.refl _ _).alloc (Nat.le_refl _) _
        have HB3 := hide (below_on (unhide HB2) a2)
        clear a2
        go_wp2
        go_ret2
        exact ⟨none, 0, 0, [], false, rfl, unhide HB3, ⟨.inl rfl, fun p hp => (by cases hp)⟩, rfl, .inl ⟨rfl, _, unhide IC, .inr ⟨unhide AN, rfl, rfl⟩⟩⟩
      · obtain rfl := k2 rfl
        have FY : Hid (f40 y.2 = true) := hide k1.symm
        clear k1 k2
        have b2 : Below w2.heap.size w2 ((w2.alloc (.cells #[.bool u.lo.num.g, .slice u.lo.num.a u.lo.num.n u.lo.num.c, .bool u.lo.den.g, .slice u.lo.den.a u.lo.den.n u.lo.den.c, .bool u.hi.num.g, .slice u.hi.num.a u.hi.num.n u.hi.num.c, .bool u.hi.den.g, .slice u.hi.den.a u.hi.den.n u.hi.den.c] 43)).alloc (.cells #[.bool u.lo.num.g, .slice u.lo.num.a u.lo.num.n u.lo.num.c, .bool u.lo.den.g, .slice u.lo.den.a u.lo.den.n u.lo.den.c, .bool u.hi.num.g, .slice u.hi.num.a u.hi.num.n u.hi.num.c, .bool u.hi.den.g, .slice u.hi.den.a u.hi.den.n u.hi.den.c] 43)) := ((Below.refl _ _).alloc (Nat.le_refl _) _).alloc (by simp) _
        have HB3 := hide (below_on (unhide HB2) b2)
        have GW3 := hide ((unhide GW2).later b2)
        have TY3 := hide ((unhide TY).later b2)
        have AR3 := hide ((unhide AA).later b2)
        clear b2
        go_wp2_with (at_builtin; refine appY rfl (.tmp 22) (.tmp 24) rfl w.heap.size _ us rfl (unhide GW3) (w2.heap.size + 1) u y.2 rfl (by rw [show w2.heap.size + 1 = (w2.alloc (.cells #[.bool u.lo.num.g, .slice u.lo.num.a u.lo.num.n u.lo.num.c, .bool u.lo.den.g, .slice u.lo.den.a u.lo.den.n u.lo.den.c, .bool u.hi.num.g, .slice u.hi.num.a u.hi.num.n u.hi.num.c, .bool u.hi.den.g, .slice u.hi.den.a u.hi.den.n u.hi.den.c] 43)).heap.size from by simp]; exact heap_alloc_new _ _) (unhide TY3) (unhide AR3) (by omega) (by simp; omega) ?_)
        intro g cap w3 hG hgrow
        have HB4 := hide (GwY.bel (unhide GW3) (unhide HB3) (Nat.le_refl _) hgrow)
        have GW4 := hide hG
        have ED4 : Hid ((us ++ [(u, y.2)]).map Prod.snd = (l.map Prod.snd).take (i + 1)) := hide (by rw [unhide TK, List.map_append, unhide ED]; rfl)
        have EA4 : Hid (((l.map Prod.snd).take (i + 1)).all f40 = true) := hide (by rw [unhide TK, List.all_append, unhide EA]; simp [unhide FY])
        clear hG hgrow GW3 HB3 GW2 HB2
        go_wp2
        go_roundw
        case rel => exact ⟨i + 1, us ++ [(u, y.2)], by omega, by go_num, by simp [hu], ED4, EA4, GW4, HB4⟩
        case measure => simp [intOf]; omega
    · obtain rfl : i = n := by omega
      have EL : Hid (us.map Prod.snd = l.map Prod.snd) := hide (by have h := unhide ED; rw [List.take_of_length_le (by simp; rw [unhide HN]; exact Nat.le_refl _)] at h; exact h)
      have AN : Hid ((l.map Prod.snd).all f40 = true) := hide (by have h := unhide EA; rw [List.take_of_length_le (by simp; rw [unhide HN]; exact Nat.le_refl _)] at h; exact h)
      obtain ⟨a3, c3, e3, p3⟩ := (unhide GW).sl
      rw [hu] at e3
      subst e3
      have P3 := hide p3
      clear p3 GW ED
      go_wp2
      go_ret2
      refine ⟨_, _, _, us, true, rfl, unhide HB, unhide P3, hu, ?_⟩
      rw [unhide EL]
      exact .inl ⟨rfl, _, unhide IC, .inl ⟨unhide AN, rfl, rfl⟩⟩
/-- A slice as an argument, its limbs in blocks of integers. -/
structure PArT (w : World) (a : Option Addr) (n c : Nat) (l : List (SV × SD)) : Prop where
  ar : PArS w a n c l
  typ : TypZ w (zipPS l)
theorem POwS.argT {lo hi : Nat} {w : World} {G n c : Nat} {l : List (SV × SD)} (h : POwS lo hi w G n c l) : PArT w (some ⟨G, 0, none⟩) n c l := ⟨h.arg, h.own.typZ⟩
theorem vC_eq {k l : List (SV × SD)} (e : k.map Prod.snd = l.map Prod.snd) : vC k = vC l := by
  have := congrArg (List.map vP) e
  simp only [List.map_map] at this
  exact this

end Go.Proofs.YthmpikagenodjaaGreat
namespace Go.Proofs.YthmpikagenodjaaGreat
open Go.RowKit
set_option linter.unusedVariables false
set_option maxRecDepth 100000
set_option linter.unusedSimpArgs false

def dfP (p q : Rat × Rat) : Rat × Rat := (q.1 - p.1, q.2 - p.2)
def dfR (ps : List (Rat × Rat)) : List (Rat × Rat) := List.zipWith dfP ps ps.tail
theorem zw_get (f : Rat × Rat → Rat × Rat → Rat × Rat) (ps : List (Rat × Rat)) {i : Nat} {p q : Rat × Rat} (h : ps[i]? = some p) (k : ps[i + 1]? = some q) : (List.zipWith f ps ps.tail)[i]? = some (f p q) := by
  rw [List.getElem?_zipWith, h, List.getElem?_tail, k]
theorem zw_len (f : Rat × Rat → Rat × Rat → Rat × Rat) (ps : List (Rat × Rat)) : (List.zipWith f ps ps.tail).length = ps.length - 1 := by simp
theorem zw_mem {f : Rat × Rat → Rat × Rat → Rat × Rat} {ps : List (Rat × Rat)} {x : Rat × Rat} (h : x ∈ List.zipWith f ps ps.tail) : ∃ p ∈ ps, ∃ q ∈ ps, x = f p q := by
  obtain ⟨i, hi, rfl⟩ := List.mem_iff_getElem.1 h
  rw [zw_len] at hi
  rw [List.getElem_zipWith]
  exact ⟨_, List.getElem_mem _, _, List.mem_of_mem_tail (List.getElem_mem _), rfl⟩
theorem BdC.dfR {ps : List (Rat × Rat)} {L : Nat} (h : BdC ps L) : BdC (dfR ps) (2 * L + 1) := fun x hx => by
  obtain ⟨p, hp, q, hq, rfl⟩ := zw_mem hx
  have k1 := h p hp
  have k2 := h q hq
  exact ⟨(k2.x.sub k1.x).mono (by omega), (k2.y.sub k1.y).mono (by omega)⟩

set_option maxHeartbeats 8000000 in
theorem difRI (a : Option Addr) (n c : Nat) (l : List (SV × SD)) (ps : List (Rat × Rat)) (M : Nat) (w : World) (h : RdC w a n c l ps) (hb : BdC ps M) (hM : M ≤ 4000) (h1 : 1 ≤ n) (h5 : n ≤ 6) :
    Calls Tryz.prog 111 #[.slice a n c] w (OutCz w (dfR ps)) := by
  obtain ⟨m, rfl⟩ : ∃ m, n = m + 1 := ⟨n - 1, by omega⟩
  have RD := hide h
  have BD := hide hb
  have HS := hide h.ar
  have HN := hide h.ar.len
  have LP : Hid (ps.length = m + 1) := hide h.len
  clear h hb 
  have b1 : ((m + 1 : Nat) : Int) - 1 = (m : Int) := by omega
  obtain ⟨i0, hi, hz0, hz1, hz2⟩ := info_parts Tryz.info43
  go_enter Tryz.func111, Tryz.ntmps111
  go_wp2_with (at_make; refine wpList_make_full _ rfl _ _ 23 rfl w.heap.size 43 i0 (.agg #[.bool false, .slice none 0 0, .bool false, .slice none 0 0, .bool false, .slice none 0 0, .bool false, .slice none 0 0]) 8 Tryz.underlying23 hi hz0 hz1 .i64 .i64 _ _ m rfl rfl (by omega) (by omega) ?c1 ?c2 ?c3 ?_)
  case c1 => rw [hz2]; omega
  case c2 => unfold maxLen; omega
  case c3 => exact Nat.le_refl _
  intro wm hown hgrow
  have hbm : Below w.heap.size w wm := (Below.refl _ _).grown hgrow (Nat.le_refl _) (fun k e => by cases e)
  have G0 := hide (GrZ.start hown hbm)
  have HBm := hide hbm
  clear hown hgrow hi hz0 hz1 hz2 hbm
  have HBm0 := HBm
  have zm := (unhide HBm0).size
  go_wp2
  go_loopw [11] (fun iv wr => ∃ (i : Nat) (us : List (SV × SD)), i ≤ m ∧ iv = .int .i64 i ∧ Hid (GrZ w.heap.size m wr us) ∧ Hid (∀ j p q, j < i → ps[j]? = some p → ps[j + 1]? = some q → AtZ us j (dfP p q)) ∧ Hid (Below w.heap.size w wr)) (fun iv _ => m - (intOf iv).toNat)
  case atStart => exact ⟨0, _, Nat.zero_le _, rfl, G0, hide (fun j p q hj => absurd hj (Nat.not_lt_zero _)), HBm0⟩
  case round =>
    clear G0 HBm0
    obtain ⟨i, us, hi', rfl, GR, AT, HB⟩ := hrel
    by_cases hlt : i < m
    · have hlt' : (i : Int) < (m : Int) := by omega
      have hlx : i < m + 1 := by omega
      have hly : i + 1 < m + 1 := by omega
      rcases (unhide HS).at_ with e | ⟨b, off, rfl, hb, hcb⟩
      · exact absurd (unhide HN) (by rw [e]; simp <;> omega)
      have e0 := hcb i (by rw [unhide HN]; exact hlx)
      obtain ⟨y, hy⟩ : ∃ y, y = l[i]'(by rw [unhide HN]; exact hlx) := ⟨_, rfl⟩
      rw [← hy] at e0
      have My : Hid (l[i]? = some y) := hide (by rw [hy]; exact List.getElem?_eq_getElem _)
      clear hy
      have k0_0 : wr.cell? ⟨b, off + i * 8, none⟩ = some (.bool y.1.lo.num.g) := ((unhide HB).cell (p := ⟨b, off + i * 8, none⟩) hb).trans (e0.1)
      have k0_1 : wr.cell? ⟨b, off + i * 8 + 1, none⟩ = some (.slice y.1.lo.num.a y.1.lo.num.n y.1.lo.num.c) := ((unhide HB).cell (p := ⟨b, off + i * 8 + 1, none⟩) hb).trans (e0.2.1)
      have k0_2 : wr.cell? ⟨b, off + i * 8 + 2, none⟩ = some (.bool y.1.lo.den.g) := ((unhide HB).cell (p := ⟨b, off + i * 8 + 2, none⟩) hb).trans (e0.2.2.1)
      have k0_3 : wr.cell? ⟨b, off + i * 8 + 3, none⟩ = some (.slice y.1.lo.den.a y.1.lo.den.n y.1.lo.den.c) := ((unhide HB).cell (p := ⟨b, off + i * 8 + 3, none⟩) hb).trans (e0.2.2.2.1)
      have k0_4 : wr.cell? ⟨b, off + i * 8 + 4, none⟩ = some (.bool y.1.hi.num.g) := ((unhide HB).cell (p := ⟨b, off + i * 8 + 4, none⟩) hb).trans (e0.2.2.2.2.1)
      have k0_5 : wr.cell? ⟨b, off + i * 8 + 5, none⟩ = some (.slice y.1.hi.num.a y.1.hi.num.n y.1.hi.num.c) := ((unhide HB).cell (p := ⟨b, off + i * 8 + 5, none⟩) hb).trans (e0.2.2.2.2.2.1)
      have k0_6 : wr.cell? ⟨b, off + i * 8 + 6, none⟩ = some (.bool y.1.hi.den.g) := ((unhide HB).cell (p := ⟨b, off + i * 8 + 6, none⟩) hb).trans (e0.2.2.2.2.2.2.1)
      have k0_7 : wr.cell? ⟨b, off + i * 8 + 7, none⟩ = some (.slice y.1.hi.den.a y.1.hi.den.n y.1.hi.den.c) := ((unhide HB).cell (p := ⟨b, off + i * 8 + 7, none⟩) hb).trans (e0.2.2.2.2.2.2.2)
      clear e0
      have e0 := hcb (i + 1) (by rw [unhide HN]; exact hly)
      obtain ⟨v, hv⟩ : ∃ y, y = l[(i + 1)]'(by rw [unhide HN]; exact hly) := ⟨_, rfl⟩
      rw [← hv] at e0
      have Mv : Hid (l[(i + 1)]? = some v) := hide (by rw [hv]; exact List.getElem?_eq_getElem _)
      clear hv
      have k1_0 : wr.cell? ⟨b, off + (i + 1) * 8, none⟩ = some (.bool v.1.lo.num.g) := ((unhide HB).cell (p := ⟨b, off + (i + 1) * 8, none⟩) hb).trans (e0.1)
      have k1_1 : wr.cell? ⟨b, off + (i + 1) * 8 + 1, none⟩ = some (.slice v.1.lo.num.a v.1.lo.num.n v.1.lo.num.c) := ((unhide HB).cell (p := ⟨b, off + (i + 1) * 8 + 1, none⟩) hb).trans (e0.2.1)
      have k1_2 : wr.cell? ⟨b, off + (i + 1) * 8 + 2, none⟩ = some (.bool v.1.lo.den.g) := ((unhide HB).cell (p := ⟨b, off + (i + 1) * 8 + 2, none⟩) hb).trans (e0.2.2.1)
      have k1_3 : wr.cell? ⟨b, off + (i + 1) * 8 + 3, none⟩ = some (.slice v.1.lo.den.a v.1.lo.den.n v.1.lo.den.c) := ((unhide HB).cell (p := ⟨b, off + (i + 1) * 8 + 3, none⟩) hb).trans (e0.2.2.2.1)
      have k1_4 : wr.cell? ⟨b, off + (i + 1) * 8 + 4, none⟩ = some (.bool v.1.hi.num.g) := ((unhide HB).cell (p := ⟨b, off + (i + 1) * 8 + 4, none⟩) hb).trans (e0.2.2.2.2.1)
      have k1_5 : wr.cell? ⟨b, off + (i + 1) * 8 + 5, none⟩ = some (.slice v.1.hi.num.a v.1.hi.num.n v.1.hi.num.c) := ((unhide HB).cell (p := ⟨b, off + (i + 1) * 8 + 5, none⟩) hb).trans (e0.2.2.2.2.2.1)
      have k1_6 : wr.cell? ⟨b, off + (i + 1) * 8 + 6, none⟩ = some (.bool v.1.hi.den.g) := ((unhide HB).cell (p := ⟨b, off + (i + 1) * 8 + 6, none⟩) hb).trans (e0.2.2.2.2.2.2.1)
      have k1_7 : wr.cell? ⟨b, off + (i + 1) * 8 + 7, none⟩ = some (.slice v.1.hi.den.a v.1.hi.den.n v.1.hi.den.c) := ((unhide HB).cell (p := ⟨b, off + (i + 1) * 8 + 7, none⟩) hb).trans (e0.2.2.2.2.2.2.2)
      clear e0
      clear hcb
      obtain ⟨p, hp1, hp2, hp3, hp4⟩ := (unhide RD).pt (unhide My)
      obtain ⟨q, hq1, hq2, hq3, hq4⟩ := (unhide RD).pt (unhide Mv)
      have IP := hide (hp4.later (unhide HB))
      have IQ := hide (hq4.later (unhide HB))
      have BP := hide ((unhide BD) p hp2)
      have BQ := hide ((unhide BD) q hq2)
      have PV := hide (And.intro hp1 hq1)
      clear hp1 hp2 hp3 hp4 hq1 hq2 hq3 hq4
      have zb := (unhide GR).lt
      have neb : b ≠ w.heap.size := by omega
      have GR0 := GR
      have HBq := HB
      have iw : IntKind.i64.wrap ((i : Int) + 1) = (i : Int) + 1 := by rw [IntKind.wrap_i64]; omega
      have j1 : (0 : Int) ≤ (i : Int) + 1 := by omega
      have j2 : (i : Int) + 1 < ((m + 1 : Nat) : Int) := by omega
      have j2' : (i : Int) < ((m + 1 : Nat) : Int) := by omega
      have j3 : ((i : Int) + 1).toNat = i + 1 := by omega
      have j4 : (0 : Int) ≤ (i : Int) := by omega
      have j5 : (i : Int) < (m : Int) + 1 := by omega
      go_upto_region 5 with fail
      have ne0_2 : b ≠ w.heap.size := by omega
      have ne1_2 : b ≠ w.heap.size := by omega
      go_region_held3 (fun w' => w'.cell? ⟨b, off + i * 8, none⟩ = some (.bool y.1.lo.num.g) ∧ w'.cell? ⟨b, off + i * 8 + 1, none⟩ = some (.slice y.1.lo.num.a y.1.lo.num.n y.1.lo.num.c) ∧ w'.cell? ⟨b, off + i * 8 + 2, none⟩ = some (.bool y.1.lo.den.g) ∧ w'.cell? ⟨b, off + i * 8 + 3, none⟩ = some (.slice y.1.lo.den.a y.1.lo.den.n y.1.lo.den.c) ∧ w'.cell? ⟨b, off + i * 8 + 4, none⟩ = some (.bool y.1.hi.num.g) ∧ w'.cell? ⟨b, off + i * 8 + 5, none⟩ = some (.slice y.1.hi.num.a y.1.hi.num.n y.1.hi.num.c) ∧ w'.cell? ⟨b, off + i * 8 + 6, none⟩ = some (.bool y.1.hi.den.g) ∧ w'.cell? ⟨b, off + i * 8 + 7, none⟩ = some (.slice y.1.hi.den.a y.1.hi.den.n y.1.hi.den.c) ∧ w'.cell? ⟨b, off + (i + 1) * 8, none⟩ = some (.bool v.1.lo.num.g) ∧ w'.cell? ⟨b, off + (i + 1) * 8 + 1, none⟩ = some (.slice v.1.lo.num.a v.1.lo.num.n v.1.lo.num.c) ∧ w'.cell? ⟨b, off + (i + 1) * 8 + 2, none⟩ = some (.bool v.1.lo.den.g) ∧ w'.cell? ⟨b, off + (i + 1) * 8 + 3, none⟩ = some (.slice v.1.lo.den.a v.1.lo.den.n v.1.lo.den.c) ∧ w'.cell? ⟨b, off + (i + 1) * 8 + 4, none⟩ = some (.bool v.1.hi.num.g) ∧ w'.cell? ⟨b, off + (i + 1) * 8 + 5, none⟩ = some (.slice v.1.hi.num.a v.1.hi.num.n v.1.hi.num.c) ∧ w'.cell? ⟨b, off + (i + 1) * 8 + 6, none⟩ = some (.bool v.1.hi.den.g) ∧ w'.cell? ⟨b, off + (i + 1) * 8 + 7, none⟩ = some (.slice v.1.hi.den.a v.1.hi.den.n v.1.hi.den.c)) (with_reducible (first | exact ⟨k0_0, k0_1, k0_2, k0_3, k0_4, k0_5, k0_6, k0_7, k1_0, k1_1, k1_2, k1_3, k1_4, k1_5, k1_6, k1_7⟩ | exact ⟨cd_other k0_0, cd_other k0_1, cd_other k0_2, cd_other k0_3, cd_other k0_4, cd_other k0_5, cd_other k0_6, cd_other k0_7, cd_other k1_0, cd_other k1_1, cd_other k1_2, cd_other k1_3, cd_other k1_4, cd_other k1_5, cd_other k1_6, cd_other k1_7⟩ | exact ⟨cs_other (cs_other (cs_other (cs_other (cs_other (cs_other (cs_other (cs_other (k0_0) ne0_2) ne0_2) ne0_2) ne0_2) ne0_2) ne0_2) ne0_2) ne0_2, cs_other (cs_other (cs_other (cs_other (cs_other (cs_other (cs_other (cs_other (k0_1) ne0_2) ne0_2) ne0_2) ne0_2) ne0_2) ne0_2) ne0_2) ne0_2, cs_other (cs_other (cs_other (cs_other (cs_other (cs_other (cs_other (cs_other (k0_2) ne0_2) ne0_2) ne0_2) ne0_2) ne0_2) ne0_2) ne0_2) ne0_2, cs_other (cs_other (cs_other (cs_other (cs_other (cs_other (cs_other (cs_other (k0_3) ne0_2) ne0_2) ne0_2) ne0_2) ne0_2) ne0_2) ne0_2) ne0_2, cs_other (cs_other (cs_other (cs_other (cs_other (cs_other (cs_other (cs_other (k0_4) ne0_2) ne0_2) ne0_2) ne0_2) ne0_2) ne0_2) ne0_2) ne0_2, cs_other (cs_other (cs_other (cs_other (cs_other (cs_other (cs_other (cs_other (k0_5) ne0_2) ne0_2) ne0_2) ne0_2) ne0_2) ne0_2) ne0_2) ne0_2, cs_other (cs_other (cs_other (cs_other (cs_other (cs_other (cs_other (cs_other (k0_6) ne0_2) ne0_2) ne0_2) ne0_2) ne0_2) ne0_2) ne0_2) ne0_2, cs_other (cs_other (cs_other (cs_other (cs_other (cs_other (cs_other (cs_other (k0_7) ne0_2) ne0_2) ne0_2) ne0_2) ne0_2) ne0_2) ne0_2) ne0_2, cs_other (cs_other (cs_other (cs_other (cs_other (cs_other (cs_other (cs_other (k1_0) ne1_2) ne1_2) ne1_2) ne1_2) ne1_2) ne1_2) ne1_2) ne1_2, cs_other (cs_other (cs_other (cs_other (cs_other (cs_other (cs_other (cs_other (k1_1) ne1_2) ne1_2) ne1_2) ne1_2) ne1_2) ne1_2) ne1_2) ne1_2, cs_other (cs_other (cs_other (cs_other (cs_other (cs_other (cs_other (cs_other (k1_2) ne1_2) ne1_2) ne1_2) ne1_2) ne1_2) ne1_2) ne1_2) ne1_2, cs_other (cs_other (cs_other (cs_other (cs_other (cs_other (cs_other (cs_other (k1_3) ne1_2) ne1_2) ne1_2) ne1_2) ne1_2) ne1_2) ne1_2) ne1_2, cs_other (cs_other (cs_other (cs_other (cs_other (cs_other (cs_other (cs_other (k1_4) ne1_2) ne1_2) ne1_2) ne1_2) ne1_2) ne1_2) ne1_2) ne1_2, cs_other (cs_other (cs_other (cs_other (cs_other (cs_other (cs_other (cs_other (k1_5) ne1_2) ne1_2) ne1_2) ne1_2) ne1_2) ne1_2) ne1_2) ne1_2, cs_other (cs_other (cs_other (cs_other (cs_other (cs_other (cs_other (cs_other (k1_6) ne1_2) ne1_2) ne1_2) ne1_2) ne1_2) ne1_2) ne1_2) ne1_2, cs_other (cs_other (cs_other (cs_other (cs_other (cs_other (cs_other (cs_other (k1_7) ne1_2) ne1_2) ne1_2) ne1_2) ne1_2) ne1_2) ne1_2) ne1_2⟩ | fail))
        (first
        | (go_at_call 152; refine (calls_dp (subP v.1 y.1 q p _ ?_ ((unhide BQ).mono (by omega)) ?_ ((unhide BP).mono (by omega)))).mono ?_; exact (unhide IQ).later (Below.refl _ _).drew; exact (unhide IP).later (Below.refl _ _).drew; rintro e w2 ⟨u, d, rfl, hb, ho, ha, hd⟩; have hbx : Below wr.heap.size wr w2 := below_of_drew hb; have szw2 := hbx.size; replace k0_0 := cell_later hbx k0_0; replace k0_1 := cell_later hbx k0_1; replace k0_2 := cell_later hbx k0_2; replace k0_3 := cell_later hbx k0_3; replace k0_4 := cell_later hbx k0_4; replace k0_5 := cell_later hbx k0_5; replace k0_6 := cell_later hbx k0_6; replace k0_7 := cell_later hbx k0_7; replace k1_0 := cell_later hbx k1_0; replace k1_1 := cell_later hbx k1_1; replace k1_2 := cell_later hbx k1_2; replace k1_3 := cell_later hbx k1_3; replace k1_4 := cell_later hbx k1_4; replace k1_5 := cell_later hbx k1_5; replace k1_6 := cell_later hbx k1_6; replace k1_7 := cell_later hbx k1_7; replace IP := hide ((unhide IP).later hbx); replace IQ := hide ((unhide IQ).later hbx); have G2 := hide ((unhide GR0).later hbx); have GP := hide ((unhide GR0).put (k := i) hbx hlt ho ha); have HBx := hide (below_on (unhide HBq) hbx); have HD := hide hd; obtain ⟨x0, o0⟩ := (unhide G2).old (o := i * 8) (by omega); obtain ⟨x1, o1⟩ := (unhide G2).old (o := i * 8 + 1) (by omega); obtain ⟨x2, o2⟩ := (unhide G2).old (o := i * 8 + 2) (by omega); obtain ⟨x3, o3⟩ := (unhide G2).old (o := i * 8 + 3) (by omega); obtain ⟨x4, o4⟩ := (unhide G2).old (o := i * 8 + 4) (by omega); obtain ⟨x5, o5⟩ := (unhide G2).old (o := i * 8 + 5) (by omega); obtain ⟨x6, o6⟩ := (unhide G2).old (o := i * 8 + 6) (by omega); obtain ⟨x7, o7⟩ := (unhide G2).old (o := i * 8 + 7) (by omega); have fr := (unhide G2).fz; have HBr := hide hbx; clear hbx hb ho ha hd))
      have AT2 : Hid (∀ j p q, j < i + 1 → ps[j]? = some p → ps[j + 1]? = some q → AtZ (us.set i (u, d)) j (dfP p q)) := hide (fun j p' q' hj hp hq => by
        by_cases e : j = i
        · subst e
          rw [(unhide PV).1] at hp
          rw [(unhide PV).2] at hq
          obtain rfl := Option.some.inj hp
          obtain rfl := Option.some.inj hq
          exact AtZ.here (by rw [(unhide GR0).len]; exact hlt) (unhide HD)
        · exact ((unhide AT) j p' q' (by omega) hp hq).keep (by omega))
      have HB3 := hide (GrZ.bel (n := 0) (B := w.heap.size) (k := i) (u := u) (unhide HBx) (by omega))
      clear k0_0 k0_1 k0_2 k0_3 k0_4 k0_5 k0_6 k0_7 k1_0 k1_1 k1_2 k1_3 k1_4 k1_5 k1_6 k1_7 HBr IP IQ
      go_wp2
      go_roundw
      case rel => exact ⟨i + 1, _, by omega, by go_num, GP, AT2, HB3⟩
      case measure => simp [intOf]; omega
    · obtain rfl : i = m := by omega
      have IC : Hid (IsC (dfR ps) (us.map Prod.snd)) := hide (atZ_isC (by unfold dfR; rw [(unhide GR).len, zw_len, unhide LP]; omega) (fun k x hx => by
        have hk : k < i := by have := (List.getElem?_eq_some_iff.1 hx).1; unfold dfR at this; rw [zw_len, unhide LP] at this; omega
        obtain ⟨p, hp⟩ : ∃ p, ps[k]? = some p := ⟨_, List.getElem?_eq_getElem (by rw [unhide LP]; omega)⟩
        obtain ⟨q, hq⟩ : ∃ q, ps[k + 1]? = some q := ⟨_, List.getElem?_eq_getElem (by rw [unhide LP]; omega)⟩
        unfold dfR at hx
        rw [zw_get _ ps hp hq] at hx
        obtain rfl := Option.some.inj hx
        exact (unhide AT) k p q hk hp hq))
      obtain ⟨r1, r2⟩ := GrZ.fin (w0 := w) (unhide GR) (unhide IC) ((unhide BD).dfR) (by omega) (by omega) (by omega)
      have R1 := hide r1
      have R2 := hide r2
      clear r1 r2
      go_wp2
      go_ret
      exact ⟨_, _, _, us, rfl, unhide HB, unhide R1, unhide R2⟩
theorem AtZ.left {us vs : List (SV × SD)} {k : Nat} {p : Rat × Rat} (h : AtZ us k p) : AtZ (us ++ vs) k p := by
  obtain ⟨y, h1, h2⟩ := h
  exact ⟨y, by rw [List.getElem?_append_left (List.getElem?_eq_some_iff.1 h1).1]; exact h1, h2⟩
theorem atZ_new {us : List (SV × SD)} {p : Rat × Rat} {u : SV} {d : SD} {k : Nat} (hk : us.length = k) (h : IsDP p d) : AtZ (us ++ [(u, d)]) k p := ⟨(u, d), by rw [List.getElem?_append_right (by omega), hk, Nat.sub_self]; rfl, h⟩
/-- A specification's function tells these points; their limbs lie in blocks of integers. -/
def OutGz (w : World) (ps : List (Rat × Rat)) (e : Ending) (w' : World) : Prop := ∃ (a : Option Addr) (n c : Nat) (l : List (SV × SD)), e = .returned (.slice a n c) ∧ Below w.heap.size w w' ∧ RdC w' a n c l ps ∧ TypZ w' (zipPS l)

end Go.Proofs.YthmpikagenodjaaGreat
