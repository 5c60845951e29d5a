/- CurveOf: the program's and the specification's, at every list of points of the grid. No condition beyond those typed. Written by mkco12.py. -/
import Derived.Test.YthmpikagenodjaaPkJ13
import Derived.Test.YthmpikagenodjaaPkO13
namespace Go.Proofs.Ythmpikagenodjaa
open Go.RowKit
set_option linter.unusedVariables false
set_option maxRecDepth 100000
set_option linter.unusedSimpArgs false

/-- Points of the grid as points of fractions. -/
def ofP (p : Int × Int) : Rat × Rat := ((p.1 : Rat), (p.2 : Rat))
def coL (l : List (Int × Int)) : List (Rat × Rat) := l.map ofP
def gCo (l : List (Int × Int)) : Bool := many l.length && l.all gPt
theorem gPt_in {p : Int × Int} (h : gPt p = true) : (-1000 ≤ p.1 ∧ p.1 ≤ 1000) ∧ (-1000 ≤ p.2 ∧ p.2 ≤ 1000) := by
  unfold gPt inR at h
  simp only [Bool.and_eq_true, decide_eq_true_eq] at h
  omega
theorem gCo_mem {l : List (Int × Int)} (h : gCo l = true) : (1 ≤ l.length ∧ l.length ≤ 5) ∧ ∀ p ∈ l, gPt p = true := by
  unfold gCo many at h
  simp only [Bool.and_eq_true, decide_eq_true_eq] at h
  exact ⟨h.1, fun p hp => List.all_eq_true.1 h.2 p hp⟩
theorem coL_len (l : List (Int × Int)) : (coL l).length = l.length := by unfold coL; simp
theorem coL_get {l : List (Int × Int)} {i : Nat} {p : Int × Int} (h : l[i]? = some p) : (coL l)[i]? = some (ofP p) := by unfold coL; rw [List.getElem?_map, h]; rfl
theorem coL_bd {l : List (Int × Int)} (h : gCo l = true) : BdC (coL l) 40 := fun x hx => by
  obtain ⟨p, hp, rfl⟩ := List.mem_map.1 hx
  have k := gPt_in ((gCo_mem h).2 p hp)
  exact ⟨(bdR_int (by omega) (by omega)).mono (by omega), (bdR_int (by omega) (by omega)).mono (by omega)⟩
theorem owR_pt {lo mid hi : Nat} {w : World} {q q' : QV} {x y : Rat} (h : OwR lo mid w q x) (k : OwR mid hi w q' y) (h1 : lo ≤ mid) (h2 : mid ≤ hi) : ∃ d : SD, AllOwn lo hi w [((⟨q, q'⟩ : SV).lo.num, d.lo.num), ((⟨q, q'⟩ : SV).lo.den, d.lo.den), ((⟨q, q'⟩ : SV).hi.num, d.hi.num), ((⟨q, q'⟩ : SV).hi.den, d.hi.den)] ∧ AllAr w [((⟨q, q'⟩ : SV).lo.num, d.lo.num), ((⟨q, q'⟩ : SV).lo.den, d.lo.den), ((⟨q, q'⟩ : SV).hi.num, d.hi.num), ((⟨q, q'⟩ : SV).hi.den, d.hi.den)] ∧ IsDP (x, y) d := by
  obtain ⟨xs, us, a1, a2, a3, a4⟩ := h
  obtain ⟨ys, vs, b1, b2, b3, b4⟩ := k
  exact ⟨⟨⟨⟨_, xs⟩, ⟨_, us⟩⟩, ⟨⟨_, ys⟩, ⟨_, vs⟩⟩⟩, a1.join b1 h1 h2, a2.append b2, ⟨rfl, a3, rfl, a4, rfl, b3, rfl, b4⟩⟩

set_option maxHeartbeats 8000000 in
theorem CvoI (a : Option Addr) (n c : Nat) (l : List (Int × Int)) (w : World) (h : ArP w a n c l) :
    Calls Try.prog 18 #[.slice a n c] w (RetPoZ w (AnsC (gCo l) (fun _ => true) (coL l))) := by
  have HS := hide h
  have HN := hide h.len
  have hm : n ≤ maxLen := Nat.le_trans h.cap h.top
  have hl := h.len
  clear h
  have C1 := hide (fun w1 => manyI n w1 hm)
  have C2 := hide (fun w1 (k : SlP w1 a l) => ptsI a n c l w1 k hl hm)
  cases h1 : many n
  · have hg : gCo l = false := by unfold gCo; rw [hl, h1]; rfl
    rw [h1] at C1
    rw [hg]
    unfold maxLen at hm
    go_enter Try.func18, Try.ntmps18
    go_wp2_with fail
    refine (unhide C1 _).mono ?_
    rintro e w ⟨rfl, rfl⟩
    have HB := hide (Below.refl w.heap.size w)
    go_wp2
    go_ret2
    exact ⟨none, 0, 0, [], false, rfl, unhide HB, PRoZ.none _ _ _, .inr ⟨rfl, rfl, rfl⟩⟩
  · cases h2 : l.all gPt
    · have hg : gCo l = false := by unfold gCo; rw [h2, Bool.and_false]
      rw [h1] at C1
      rw [h2] at C2
      rw [hg]
      unfold maxLen at hm
      go_enter Try.func18, Try.ntmps18
      go_wp2_with fail
      refine (unhide C1 _).mono ?_
      rintro e w ⟨rfl, rfl⟩
      go_wp2_with fail
      refine (unhide C2 _ (unhide HS).sl).mono ?_
      rintro e w2 ⟨rfl, hb⟩
      have HB := hide hb
      clear hb
      go_wp2
      go_ret2
      exact ⟨none, 0, 0, [], false, rfl, unhide HB, PRoZ.none _ _ _, .inr ⟨rfl, rfl, rfl⟩⟩
    · have hg : gCo l = true := by unfold gCo; rw [hl, h1, h2]; rfl
      rw [h1] at C1
      rw [h2] at C2
      rw [hg]
      have HG := hide hg
      have n5 : 1 ≤ n ∧ n ≤ 5 := by have := (gCo_mem hg).1; rw [hl] at this; exact this
      clear hg h1 h2
      unfold maxLen at hm
      obtain ⟨i0, hi, hz0, hz1, hz2⟩ := info_parts Try.info52
      go_enter Try.func18, Try.ntmps18
      go_wp2_with fail
      refine (unhide C1 _).mono ?_
      rintro e w ⟨rfl, rfl⟩
      go_wp2_with fail
      refine (unhide C2 _ (unhide HS).sl).mono ?_
      rintro e w1 ⟨rfl, hb⟩
      have HB1 := hide hb
      have s1 := hb.size
      clear hb C1 C2
      go_wp2_with (at_make; refine wpList_make_full _ rfl _ _ 25 rfl w1.heap.size 52 i0 (.agg #[.bool false, .slice none 0 0, .bool false, .slice none 0 0, .bool false, .slice none 0 0, .bool false, .slice none 0 0]) 8 Try.underlying25 hi hz0 hz1 .i64 .i64 _ _ n rfl rfl rfl rfl ?c1 ?c2 ?c3 ?_)
      case c1 => rw [hz2]; omega
      case c2 => unfold maxLen; omega
      case c3 => exact Nat.le_refl _
      intro wm hown hgrow
      have hbm : Below w1.heap.size w1 wm := (Below.refl _ _).grown hgrow (Nat.le_refl _) (fun k e => by cases e)
      have G0 := hide (GrZ.start hown hbm)
      have HBm := hide hbm
      clear hown hgrow hi hz0 hz1 hz2 hbm
      replace HBm := hide (below_on (unhide HB1) (unhide HBm))
      go_wp2
      go_loopw [21] (fun iv wr => ∃ (i : Nat) (us : List (SV × SD)), i ≤ n ∧ iv = .int .i64 i ∧ Hid (GrZ w1.heap.size n wr us) ∧ Hid (∀ j p, j < i → (coL l)[j]? = some p → AtZ us j p) ∧ Hid (Below w.heap.size w wr)) (fun iv _ => n - (intOf iv).toNat)
      case atStart => exact ⟨0, _, Nat.zero_le _, rfl, G0, hide (fun j p hj => absurd hj (Nat.not_lt_zero _)), HBm⟩
      case round =>
        clear G0 HBm
        obtain ⟨i, us, hi', rfl, GR, AT, HB⟩ := hrel
        by_cases hlt : i < n
        · have hlt' : (i : Int) < (n : Int) := by omega
          rcases (unhide HS).sl with e | ⟨b, off, rfl, hb, hcb⟩
          · exact absurd (unhide HN) (by rw [e]; simp <;> omega)
          have e0 := hcb i (by rw [unhide HN]; exact hlt)
          obtain ⟨y, hy⟩ : ∃ y, y = l[i]'(by rw [unhide HN]; exact hlt) := ⟨_, rfl⟩
          rw [← hy] at e0
          have My : Hid (l[i]? = some y) := hide (by rw [hy]; exact List.getElem?_eq_getElem _)
          have GY := gPt_in ((gCo_mem (unhide HG)).2 y (by rw [hy]; exact List.getElem_mem _))
          have P0 : wr.cell? ⟨b, off + i * 2, none⟩ = some (.int .i64 y.1) := ((unhide HB).cell (p := ⟨b, off + i * 2, none⟩) hb).trans e0.1
          have P1 : wr.cell? ⟨b, off + i * 2 + 1, none⟩ = some (.int .i64 y.2) := ((unhide HB).cell (p := ⟨b, off + i * 2 + 1, none⟩) hb).trans e0.2
          clear hy e0 hcb
          have AL : Hid (Below wr.heap.size wr (wr.alloc (.cells #[.int .i64 y.1, .int .i64 y.2] 62))) := hide ((Below.refl _ _).alloc (Nat.le_refl _) _)
          have zb := (unhide GR).lt
          have GR0 := GR
          have HBq := HB
          have ki0 : (wr.alloc (.cells #[.int .i64 y.1, .int .i64 y.2] 62)).cell? ⟨wr.heap.size, 0, none⟩ = some (.int .i64 y.1) := by simp [go_sem]
          have ki1 : (wr.alloc (.cells #[.int .i64 y.1, .int .i64 y.2] 62)).cell? ⟨wr.heap.size, 1, none⟩ = some (.int .i64 y.2) := by simp [go_sem]
          have szp : wr.heap.size + 1 = (wr.alloc (.cells #[.int .i64 y.1, .int .i64 y.2] 62)).heap.size := by simp
          have j4 : (0 : Int) ≤ (i : Int) := by omega
          go_upto_region 7 with fail
          have k0_0 := ki0
          have k0_1 := ki1
          clear ki0 ki1 P0 P1
          generalize (wr.alloc (.cells #[.int .i64 y.1, .int .i64 y.2] 62)) = wp at *
          have ne0_1 : wr.heap.size ≠ w1.heap.size := by omega
          go_region_held3 (fun w' => w'.cell? ⟨wr.heap.size, 0, none⟩ = some (.int .i64 y.1) ∧ w'.cell? ⟨wr.heap.size, 1, none⟩ = some (.int .i64 y.2)) (with_reducible (first | exact ⟨k0_0, k0_1⟩ | exact ⟨cd_other k0_0, cd_other k0_1⟩ | exact ⟨cs_other (cs_other (cs_other (cs_other (cs_other (cs_other (cs_other (cs_other (k0_0) ne0_1) ne0_1) ne0_1) ne0_1) ne0_1) ne0_1) ne0_1) ne0_1, cs_other (cs_other (cs_other (cs_other (cs_other (cs_other (cs_other (cs_other (k0_1) ne0_1) ne0_1) ne0_1) ne0_1) ne0_1) ne0_1) ne0_1) ne0_1⟩ | fail))
            (first
            | (have chk := A1; clear chk; go_at_call_of 38 (Value.int IntKind.i64 y.2); refine (wholeRI y.2 _ (by omega) (by omega)).mono ?_; rintro e w3 ⟨xb, la2, lb2, rfl, hb, ob, ab, mb, nb⟩; have hbx : Below w2.heap.size w2 w3 := hb; have szw3 := hbx.size; replace k0_0 := cell_later hbx k0_0; replace k0_1 := cell_later hbx k0_1; obtain ⟨d, ho, ha, hd⟩ := owR_pt ((unhide A1).later hbx) (owR_of (lo := w2.heap.size) (x := (y.2 : Rat)) ob ab mb nb) fs1 hbx.size; have FR := hide (below_on (below_on (unhide AL) (unhide F1)) hbx); have G2 := hide ((unhide GR0).later (unhide FR)); have GP := hide ((unhide GR0).put (k := i) (u := ⟨xa, xb⟩) (unhide FR) hlt (ho.wide (by omega) (Nat.le_refl _)) ha); have HBx := hide (below_on (unhide HBq) (unhide FR)); have HD := hide hd; obtain ⟨x0, o0⟩ := (unhide G2).old (o := i * 8) (by omega); obtain ⟨x1, o1⟩ := (unhide G2).old (o := i * 8 + 1) (by omega); obtain ⟨x2, o2⟩ := (unhide G2).old (o := i * 8 + 2) (by omega); obtain ⟨x3, o3⟩ := (unhide G2).old (o := i * 8 + 3) (by omega); obtain ⟨x4, o4⟩ := (unhide G2).old (o := i * 8 + 4) (by omega); obtain ⟨x5, o5⟩ := (unhide G2).old (o := i * 8 + 5) (by omega); obtain ⟨x6, o6⟩ := (unhide G2).old (o := i * 8 + 6) (by omega); obtain ⟨x7, o7⟩ := (unhide G2).old (o := i * 8 + 7) (by omega); have fr := (unhide G2).fz; have HBr := hide (below_on (unhide HBr) hbx); clear hbx hb ob ab mb nb ho ha hd)
            | (go_at_call_of 38 (Value.int IntKind.i64 y.1); refine (wholeRI y.1 _ (by omega) (by omega)).mono ?_; rintro e w2 ⟨xa, la1, lb1, rfl, hb, oa, aa, ma, na⟩; have hbx : Below wp.heap.size wp w2 := below_of_drew hb; have szw2 := hbx.size; replace k0_0 := cell_later hbx k0_0; replace k0_1 := cell_later hbx k0_1; have F1 := hide hbx; have A1 := hide (owR_of (lo := wp.heap.size) (x := (y.1 : Rat)) oa aa ma na); have fs1 := hbx.size; have HBr := hide hbx; clear hbx hb oa aa ma na))
          have AT2 : Hid (∀ j p, j < i + 1 → (coL l)[j]? = some p → AtZ (us.set i ((⟨xa, xb⟩ : SV), d)) j p) := hide (fun j p hj hp => by
            by_cases e : j = i
            · subst e
              rw [coL_get (unhide My)] at hp
              obtain rfl := Option.some.inj hp
              exact AtZ.here (by rw [(unhide GR0).len]; exact hlt) (unhide HD)
            · exact ((unhide AT) j p (by omega) hp).keep (by omega))
          have HB3 := hide (GrZ.bel (n := 0) (B := w1.heap.size) (k := i) (u := (⟨xa, xb⟩ : SV)) (unhide HBx) s1)
          clear k0_0 k0_1 HBr
          go_wp2
          go_roundw
          case rel => exact ⟨i + 1, _, by omega, by go_num, GP, AT2, HB3⟩
          case measure => simp [intOf]; omega
        · obtain rfl : i = n := by omega
          have IC : Hid (IsC (coL l) (us.map Prod.snd)) := hide (atZ_isC (by rw [(unhide GR).len, coL_len, unhide HN]) (fun k p hp => by
            have hk : k < i := by have := (List.getElem?_eq_some_iff.1 hp).1; rw [coL_len, unhide HN] at this; exact this
            exact (unhide AT) k p hk hp))
          obtain ⟨r1, r2⟩ := GrZ.fin (w0 := w) (unhide GR) (unhide IC) (coL_bd (unhide HG)) (by omega) (by omega) s1
          have R1 := hide r1
          clear r1 r2
          go_wp2
          go_ret2
          exact ⟨_, _, _, us, true, rfl, unhide HB, unhide R1, .inl ⟨rfl, _, unhide IC, .inl ⟨rfl, rfl, rfl⟩⟩⟩

set_option maxHeartbeats 4000000 in
theorem ofS (x y : Int) (w : World) (h0 : -1000 ≤ x) (h1 : x ≤ 1000) (h2 : -1000 ≤ y) (h3 : y ≤ 1000) :
    Calls Try.prog 34 #[.agg #[.int .i64 x, .int .i64 y]] w (OutPt w ((x : Rat), (y : Rat))) := by
  go_enter Try.func34, Try.ntmps34
  go_upto_region 1 with fail
  have hb : Below w.heap.size w ((w.alloc (.cells #[.int .i64 x, .int .i64 y] 62)).alloc (.cells #[.bool false, .slice none 0 0, .bool false, .slice none 0 0, .bool false, .slice none 0 0, .bool false, .slice none 0 0] 52)) := (((Below.refl _ _).alloc (by simp) _).alloc (by simp) _)
  have k0_0 : ((w.alloc (.cells #[.int .i64 x, .int .i64 y] 62)).alloc (.cells #[.bool false, .slice none 0 0, .bool false, .slice none 0 0, .bool false, .slice none 0 0, .bool false, .slice none 0 0] 52)).cell? ⟨w.heap.size, 0, none⟩ = some (.int .i64 x) := by simp [go_sem]
  have k0_1 : ((w.alloc (.cells #[.int .i64 x, .int .i64 y] 62)).alloc (.cells #[.bool false, .slice none 0 0, .bool false, .slice none 0 0, .bool false, .slice none 0 0, .bool false, .slice none 0 0] 52)).cell? ⟨w.heap.size, 1, none⟩ = some (.int .i64 y) := by simp [go_sem]
  have k1_0 : ((w.alloc (.cells #[.int .i64 x, .int .i64 y] 62)).alloc (.cells #[.bool false, .slice none 0 0, .bool false, .slice none 0 0, .bool false, .slice none 0 0, .bool false, .slice none 0 0] 52)).cell? ⟨w.heap.size + 1, 0, none⟩ = some (.bool false) := by simp [go_sem]
  have k1_1 : ((w.alloc (.cells #[.int .i64 x, .int .i64 y] 62)).alloc (.cells #[.bool false, .slice none 0 0, .bool false, .slice none 0 0, .bool false, .slice none 0 0, .bool false, .slice none 0 0] 52)).cell? ⟨w.heap.size + 1, 1, none⟩ = some (.slice none 0 0) := by simp [go_sem]
  have k1_2 : ((w.alloc (.cells #[.int .i64 x, .int .i64 y] 62)).alloc (.cells #[.bool false, .slice none 0 0, .bool false, .slice none 0 0, .bool false, .slice none 0 0, .bool false, .slice none 0 0] 52)).cell? ⟨w.heap.size + 1, 2, none⟩ = some (.bool false) := by simp [go_sem]
  have k1_3 : ((w.alloc (.cells #[.int .i64 x, .int .i64 y] 62)).alloc (.cells #[.bool false, .slice none 0 0, .bool false, .slice none 0 0, .bool false, .slice none 0 0, .bool false, .slice none 0 0] 52)).cell? ⟨w.heap.size + 1, 3, none⟩ = some (.slice none 0 0) := by simp [go_sem]
  have k1_4 : ((w.alloc (.cells #[.int .i64 x, .int .i64 y] 62)).alloc (.cells #[.bool false, .slice none 0 0, .bool false, .slice none 0 0, .bool false, .slice none 0 0, .bool false, .slice none 0 0] 52)).cell? ⟨w.heap.size + 1, 4, none⟩ = some (.bool false) := by simp [go_sem]
  have k1_5 : ((w.alloc (.cells #[.int .i64 x, .int .i64 y] 62)).alloc (.cells #[.bool false, .slice none 0 0, .bool false, .slice none 0 0, .bool false, .slice none 0 0, .bool false, .slice none 0 0] 52)).cell? ⟨w.heap.size + 1, 5, none⟩ = some (.slice none 0 0) := by simp [go_sem]
  have k1_6 : ((w.alloc (.cells #[.int .i64 x, .int .i64 y] 62)).alloc (.cells #[.bool false, .slice none 0 0, .bool false, .slice none 0 0, .bool false, .slice none 0 0, .bool false, .slice none 0 0] 52)).cell? ⟨w.heap.size + 1, 6, none⟩ = some (.bool false) := by simp [go_sem]
  have k1_7 : ((w.alloc (.cells #[.int .i64 x, .int .i64 y] 62)).alloc (.cells #[.bool false, .slice none 0 0, .bool false, .slice none 0 0, .bool false, .slice none 0 0, .bool false, .slice none 0 0] 52)).cell? ⟨w.heap.size + 1, 7, none⟩ = some (.slice none 0 0) := by simp [go_sem]
  have z1 : ∀ o, ((w.alloc (.cells #[.int .i64 x, .int .i64 y] 62)).alloc (.cells #[.bool false, .slice none 0 0, .bool false, .slice none 0 0, .bool false, .slice none 0 0, .bool false, .slice none 0 0] 52)).frozen? ⟨w.heap.size + 1, o, none⟩ = false := fun o => by simp [go_sem]
  have szw0 : w.heap.size + 2 ≤ ((w.alloc (.cells #[.int .i64 x, .int .i64 y] 62)).alloc (.cells #[.bool false, .slice none 0 0, .bool false, .slice none 0 0, .bool false, .slice none 0 0, .bool false, .slice none 0 0] 52)).heap.size := by simp
  have HB := hide hb
  clear hb
  generalize ((w.alloc (.cells #[.int .i64 x, .int .i64 y] 62)).alloc (.cells #[.bool false, .slice none 0 0, .bool false, .slice none 0 0, .bool false, .slice none 0 0, .bool false, .slice none 0 0] 52)) = w0 at *
  have ne0_1 : w.heap.size ≠ w.heap.size + 1 := by omega
  go_region_held3 (fun w' => w'.cell? ⟨w.heap.size, 0, none⟩ = some (.int .i64 x) ∧ w'.cell? ⟨w.heap.size, 1, none⟩ = some (.int .i64 y)) (with_reducible (first | exact ⟨k0_0, k0_1⟩ | exact ⟨cd_other k0_0, cd_other k0_1⟩ | exact ⟨cs_other (cs_other (cs_other (cs_other (cs_other (cs_other (cs_other (cs_other (k0_0) ne0_1) ne0_1) ne0_1) ne0_1) ne0_1) ne0_1) ne0_1) ne0_1, cs_other (cs_other (cs_other (cs_other (cs_other (cs_other (cs_other (cs_other (k0_1) ne0_1) ne0_1) ne0_1) ne0_1) ne0_1) ne0_1) ne0_1) ne0_1⟩ | fail))
    (first
    | (have chk := P1; clear chk; go_at_call_of 50 (Value.int IntKind.i64 y); refine (wholeRS y _ (by omega) (by omega)).mono ?_; rintro e w2 ⟨x2, la2, lb2, rfl, hb, o2, a2, m2, n2⟩; have hbx : Below w1.heap.size w1 w2 := hb; have szw2 := hbx.size; replace z1 := fun o => frozen_later hbx (World.block_lt_of_cell? _ _ k1_0) (z1 o); replace k0_0 := cell_later hbx k0_0; replace k0_1 := cell_later hbx k0_1; replace k1_0 := cell_later hbx k1_0; replace k1_1 := cell_later hbx k1_1; replace k1_2 := cell_later hbx k1_2; replace k1_3 := cell_later hbx k1_3; replace k1_4 := cell_later hbx k1_4; replace k1_5 := cell_later hbx k1_5; replace k1_6 := cell_later hbx k1_6; replace k1_7 := cell_later hbx k1_7; replace P1 := hide ((unhide P1).later hbx); have P2 := hide (owR_of (lo := w1.heap.size) (x := (y : Rat)) o2 a2 m2 n2); have HBr := hide (below_on (unhide HBr) hbx); clear hbx hb o2 a2 m2 n2)
    | (go_at_call_of 50 (Value.int IntKind.i64 x); refine (wholeRS x _ (by omega) (by omega)).mono ?_; rintro e w1 ⟨x1, la1, lb1, rfl, hb, o1, a1, m1, n1⟩; have hbx : Below w0.heap.size w0 w1 := below_of_drew hb; have szw1 := hbx.size; replace z1 := fun o => frozen_later hbx (World.block_lt_of_cell? _ _ k1_0) (z1 o); replace k0_0 := cell_later hbx k0_0; replace k0_1 := cell_later hbx k0_1; replace k1_0 := cell_later hbx k1_0; replace k1_1 := cell_later hbx k1_1; replace k1_2 := cell_later hbx k1_2; replace k1_3 := cell_later hbx k1_3; replace k1_4 := cell_later hbx k1_4; replace k1_5 := cell_later hbx k1_5; replace k1_6 := cell_later hbx k1_6; replace k1_7 := cell_later hbx k1_7; have P1 := hide (owR_of (lo := w0.heap.size) (x := (x : Rat)) o1 a1 m1 n1); have HBr := hide hbx; clear hbx hb o1 a1 m1 n1))
  replace HB := hide (below_on (unhide HB) (unhide HBr))
  clear HBr
  go_wp2
  refine bodyPost_ret (v := .agg #[.bool x1.num.g, .slice x1.num.a x1.num.n x1.num.c, .bool x1.den.g, .slice x1.den.a x1.den.n x1.den.c, .bool x2.num.g, .slice x2.num.a x2.num.n x2.num.c, .bool x2.den.g, .slice x2.den.a x2.den.n x2.den.c]) (by simp [results, Try.results34, go_sem, k1_0, k1_1, k1_2, k1_3, k1_4, k1_5, k1_6, k1_7]) rfl ?_
  exact outPt_fin (v := (⟨x1, x2⟩ : SV)) (R := w.heap.size + 1) (by omega) (unhide HB) (metS_but (w5 := w2) (v := (⟨x1, x2⟩ : SV)) (G := w.heap.size + 1)) (unhide P1) (unhide P2) (by omega) (by omega) (by omega) (by omega)

set_option maxHeartbeats 8000000 in
theorem CvoS (a : Option Addr) (n c : Nat) (l : List (Int × Int)) (w : World) (h : ArP w a n c l) :
    Calls Try.prog 16 #[.slice a n c] w (RetPrZ w (AnsC (gCo l) (fun _ => true) (coL l))) := by
  have HS := hide h
  have HN := hide h.len
  have hm : n ≤ maxLen := Nat.le_trans h.cap h.top
  have hl := h.len
  clear h
  have C1 := hide (fun w1 => (show Calls Try.prog 23 #[.int .i64 (n : Int), .int .i64 1, .int .i64 5] w1 fun e w' => e = .returned (.bool (many n)) ∧ w' = w1 from by have h := l1In_any (n : Int) 1 5 w1; rw [show (decide ((1 : Int) ≤ (n : Int)) && decide ((n : Int) ≤ 5)) = many n from by unfold many; congr 1 <;> (apply decide_eq_decide.2; omega)] at h; exact h))
  have C2 := hide (fun w1 (k : SlP w1 a l) => ptsS a n c l w1 k hl hm)
  cases h1 : many n
  · have hg : gCo l = false := by unfold gCo; rw [hl, h1]; rfl
    rw [h1] at C1
    rw [hg]
    unfold maxLen at hm
    go_enter Try.func16, Try.ntmps16
    go_wp2_with fail
    refine (unhide C1 _).mono ?_
    rintro e w ⟨rfl, rfl⟩
    have HB := hide (Below.refl w.heap.size w)
    go_wp2
    go_ret2
    exact ⟨none, 0, 0, [], false, rfl, unhide HB, ⟨.inl rfl, fun p hp => (by cases hp)⟩, rfl, .inr ⟨rfl, rfl, rfl⟩⟩
  · cases h2 : l.all gPt
    · have hg : gCo l = false := by unfold gCo; rw [h2, Bool.and_false]
      rw [h1] at C1
      rw [h2] at C2
      rw [hg]
      unfold maxLen at hm
      go_enter Try.func16, Try.ntmps16
      go_wp2_with fail
      refine (unhide C1 _).mono ?_
      rintro e w ⟨rfl, rfl⟩
      go_wp2_with fail
      refine (unhide C2 _ (unhide HS).sl).mono ?_
      rintro e w2 ⟨rfl, hb⟩
      have HB := hide hb
      clear hb
      go_wp2
      go_ret2
      exact ⟨none, 0, 0, [], false, rfl, unhide HB, ⟨.inl rfl, fun p hp => (by cases hp)⟩, rfl, .inr ⟨rfl, rfl, rfl⟩⟩
    · have hg : gCo l = true := by unfold gCo; rw [hl, h1, h2]; rfl
      rw [h1] at C1
      rw [h2] at C2
      rw [hg]
      have HG := hide hg
      have n5 : 1 ≤ n ∧ n ≤ 5 := by have := (gCo_mem hg).1; rw [hl] at this; exact this
      clear hg h1 h2
      unfold maxLen at hm
      go_enter Try.func16, Try.ntmps16
      go_wp2_with fail
      refine (unhide C1 _).mono ?_
      rintro e w ⟨rfl, rfl⟩
      go_wp2_with fail
      refine (unhide C2 _ (unhide HS).sl).mono ?_
      rintro e w1 ⟨rfl, hb⟩
      have HB1 := hide hb
      clear hb C1 C2
      go_wp2
      go_loopw [4, 18] (fun x iv wr => ∃ (i : Nat) (us : List (SV × SD)), i ≤ n ∧ iv = .int .i64 i ∧ us.length = i ∧ Hid (GwZ w.heap.size wr x us) ∧ Hid (∀ j p, j < i → (coL l)[j]? = some p → AtZ us j p) ∧ Hid (Below w.heap.size w wr)) (fun _ iv _ => n - (intOf iv).toNat)
      case atStart => exact ⟨0, [], Nat.zero_le _, rfl, rfl, hide (GwZ.nil _ _), hide (fun j p hj => absurd hj (Nat.not_lt_zero _)), HB1⟩
      case round =>
        clear HB1
        obtain ⟨i, us, hi', rfl, hu, GW, AT, HB⟩ := hrel
        by_cases hlt : i < n
        · have hlt' : (i : Int) < (n : Int) := by omega
          rcases (unhide HS).sl with e | ⟨b, off, rfl, hb, hcb⟩
          · exact absurd (unhide HN) (by rw [e]; simp <;> omega)
          have e0 := hcb i (by rw [unhide HN]; exact hlt)
          obtain ⟨y, hy⟩ : ∃ y, y = l[i]'(by rw [unhide HN]; exact hlt) := ⟨_, rfl⟩
          rw [← hy] at e0
          have My : Hid (l[i]? = some y) := hide (by rw [hy]; exact List.getElem?_eq_getElem _)
          have GY := gPt_in ((gCo_mem (unhide HG)).2 y (by rw [hy]; exact List.getElem_mem _))
          have P0 : wr.cell? ⟨b, off + i * 2, none⟩ = some (.int .i64 y.1) := ((unhide HB).cell (p := ⟨b, off + i * 2, none⟩) hb).trans e0.1
          have P1 : wr.cell? ⟨b, off + i * 2 + 1, none⟩ = some (.int .i64 y.2) := ((unhide HB).cell (p := ⟨b, off + i * 2 + 1, none⟩) hb).trans e0.2
          clear hy e0 hcb
          have al : Below wr.heap.size wr (wr.alloc (.cells #[.int .i64 y.1, .int .i64 y.2] 62)) := (Below.refl _ _).alloc (Nat.le_refl _) _
          have AL := hide al
          clear al
          go_wp2_with fail
          refine (calls_dp (ofS y.1 y.2 _ (by omega) (by omega) (by omega) (by omega))).mono ?_
          rintro e w3 ⟨u, d, rfl, hb3, ho, ha, hd⟩
          have fr := below_on (unhide AL) hb3
          have a3 : Below w3.heap.size w3 (w3.alloc (.cells #[.bool u.lo.num.g, .slice u.lo.num.a u.lo.num.n u.lo.num.c, .bool u.lo.den.g, .slice u.lo.den.a u.lo.den.n u.lo.den.c, .bool u.hi.num.g, .slice u.hi.num.a u.hi.num.n u.hi.num.c, .bool u.hi.den.g, .slice u.hi.den.a u.hi.den.n u.hi.den.c] 52)) := (Below.refl _ _).alloc (Nat.le_refl _) _
          have fr3 := below_on fr a3
          have GW3 := hide ((unhide GW).later fr3)
          have TY3 := hide (ho.typZ.later a3)
          have AR3 := hide (ha.later a3)
          have HB3 := hide (below_on (unhide HB) fr3)
          have zz := (below_on (unhide HB) fr).size
          have HD := hide hd
          clear hb3 ho ha hd fr a3 fr3 P0 P1 GW AL
          go_wp2_with (at_builtin; refine appZ rfl (.tmp 22) (.tmp 25) rfl w.heap.size _ us rfl (unhide GW3) w3.heap.size u d rfl (heap_alloc_new _ _) (unhide TY3) (unhide AR3) (by omega) (by simp; omega) ?_)
          intro g cap w4 hG hgrow
          have HB4 := hide (GwZ.bel (unhide GW3) (unhide HB3) (Nat.le_refl _) hgrow)
          have GW4 := hide hG
          have AT4 : Hid (∀ j p, j < i + 1 → (coL l)[j]? = some p → AtZ (us ++ [(u, d)]) j p) := hide (fun j p hj hp => by
            by_cases e : j = i
            · subst e
              rw [coL_get (unhide My)] at hp
              obtain rfl := Option.some.inj hp
              exact ⟨(u, d), by rw [List.getElem?_append_right (by omega), hu, Nat.sub_self]; rfl, unhide HD⟩
            · obtain ⟨y', q1, q2⟩ := (unhide AT) j p (by omega) hp
              exact ⟨y', by rw [List.getElem?_append_left (List.getElem?_eq_some_iff.1 q1).1]; exact q1, q2⟩)
          clear hG hgrow GW3 HB3 HB AT
          go_wp2
          go_roundw
          case rel => exact ⟨i + 1, us ++ [(u, d)], by omega, by go_num, by simp [hu], GW4, AT4, HB4⟩
          case measure => simp [intOf]; omega
        · obtain rfl : i = n := by omega
          have IC : Hid (IsC (coL l) (us.map Prod.snd)) := hide (atZ_isC (by rw [hu, coL_len, unhide HN]) (fun k p hp => by
            have hk : k < i := by have := (List.getElem?_eq_some_iff.1 hp).1; rw [coL_len, unhide HN] at this; exact this
            exact (unhide AT) k p hk hp))
          obtain ⟨a3, c3, e3, _, p3⟩ := (unhide GW).arg
          rw [hu] at e3 p3
          subst e3
          have P3 := hide p3.sl
          clear p3 GW
          go_wp2
          go_ret2
          exact ⟨_, _, _, us, true, rfl, unhide HB, unhide P3, hu, .inl ⟨rfl, _, unhide IC, .inl ⟨rfl, rfl, rfl⟩⟩⟩
end Go.Proofs.Ythmpikagenodjaa
