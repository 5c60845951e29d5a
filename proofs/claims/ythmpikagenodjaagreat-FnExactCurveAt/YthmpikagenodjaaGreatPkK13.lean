/- Rows of mixed points, and of differences: the program's and the specification's, by value. No condition beyond those typed. Written by mkrm12.py. -/
import Derived.Test.YthmpikagenodjaaGreatPkJ13
namespace Go.Proofs.YthmpikagenodjaaGreat
open Go.RowKit
set_option linter.unusedVariables false
set_option maxRecDepth 100000
set_option linter.unusedSimpArgs false


theorem vC_eq {k l : List (SV × SD)} (e : k.map Prod.snd = l.map Prod.snd) : vC k = vC l := by
  have := congrArg (List.map vP) e
  simp only [List.map_map] at this
  exact this

end Go.Proofs.YthmpikagenodjaaGreat
namespace Go.Proofs.YthmpikagenodjaaGreat
open Go.RowKit
set_option linter.unusedVariables false
set_option maxRecDepth 100000
set_option linter.unusedSimpArgs false

/-- Each two next to each other, mixed; their differences. -/
def mxR (z : Rat) (ps : List (Rat × Rat)) : List (Rat × Rat) := List.zipWith (mxP z) ps ps.tail
theorem zw_get (f : Rat × Rat → Rat × Rat → Rat × Rat) (ps : List (Rat × Rat)) {i : Nat} {p q : Rat × Rat} (h : ps[i]? = some p) (k : ps[i + 1]? = some q) : (List.zipWith f ps ps.tail)[i]? = some (f p q) := by
  rw [List.getElem?_zipWith, h, List.getElem?_tail, k]
theorem zw_len (f : Rat × Rat → Rat × Rat → Rat × Rat) (ps : List (Rat × Rat)) : (List.zipWith f ps ps.tail).length = ps.length - 1 := by simp
theorem zw_mem {f : Rat × Rat → Rat × Rat → Rat × Rat} {ps : List (Rat × Rat)} {x : Rat × Rat} (h : x ∈ List.zipWith f ps ps.tail) : ∃ p ∈ ps, ∃ q ∈ ps, x = f p q := by
  obtain ⟨i, hi, rfl⟩ := List.mem_iff_getElem.1 h
  rw [zw_len] at hi
  rw [List.getElem_zipWith]
  exact ⟨_, List.getElem_mem _, _, List.mem_of_mem_tail (List.getElem_mem _), rfl⟩
theorem BdC.mxR {z : Rat} {ps : List (Rat × Rat)} {L : Nat} (hz : BdR z 40) (h : BdC ps L) : BdC (mxR z ps) (2 * L + 100) := fun x hx => by
  obtain ⟨p, hp, q, hq, rfl⟩ := zw_mem hx
  have k1 := h p hp
  have k2 := h q hq
  have o1 := (bdR_int (n := 1) (by omega) (by omega)).sub hz
  exact ⟨((o1.mul k1.x).add (hz.mul k2.x)).mono (by omega), ((o1.mul k1.y).add (hz.mul k2.y)).mono (by omega)⟩
set_option maxHeartbeats 8000000 in
theorem mixRI (a : Option Addr) (n c : Nat) (l : List (SV × SD)) (ps : List (Rat × Rat)) (t : QV) (z : Rat) (M : Nat) (w : World) (h : RdC w a n c l ps) (hb : BdC ps M) (hM : M ≤ 4000) (h1 : 1 ≤ n) (h5 : n ≤ 6) (ht : IsR w t z) (kt : BdR z 40) :
    Calls Tryz.prog 130 #[.slice a n c, .agg #[.bool t.num.g, .slice t.num.a t.num.n t.num.c, .bool t.den.g, .slice t.den.a t.den.n t.den.c]] w (OutCz w (mxR z ps)) := by
  obtain ⟨m, rfl⟩ : ∃ m, n = m + 1 := ⟨n - 1, by omega⟩
  have RD := hide h
  have BD := hide hb
  have HS := hide h.ar
  have HN := hide h.ar.len
  have LP : Hid (ps.length = m + 1) := hide h.len
  have IT0 := hide ht
  have KT := hide kt
  clear h hb ht kt
  have b1 : ((m + 1 : Nat) : Int) - 1 = (m : Int) := by omega
  obtain ⟨i0, hi, hz0, hz1, hz2⟩ := info_parts Tryz.info43
  go_enter Tryz.func130, Tryz.ntmps130
  have b0 : Below w.heap.size w (w.alloc (.cells #[.bool t.num.g, .slice t.num.a t.num.n t.num.c, .bool t.den.g, .slice t.den.a t.den.n t.den.c] 29)) := (Below.refl _ _).alloc (Nat.le_refl _) _
  have tc : (w.alloc (.cells #[.bool t.num.g, .slice t.num.a t.num.n t.num.c, .bool t.den.g, .slice t.den.a t.den.n t.den.c] 29)).cell? ⟨w.heap.size, 0, none⟩ = some (.bool t.num.g) ∧ (w.alloc (.cells #[.bool t.num.g, .slice t.num.a t.num.n t.num.c, .bool t.den.g, .slice t.den.a t.den.n t.den.c] 29)).cell? ⟨w.heap.size, 1, none⟩ = some (.slice t.num.a t.num.n t.num.c) ∧ (w.alloc (.cells #[.bool t.num.g, .slice t.num.a t.num.n t.num.c, .bool t.den.g, .slice t.den.a t.den.n t.den.c] 29)).cell? ⟨w.heap.size, 2, none⟩ = some (.bool t.den.g) ∧ (w.alloc (.cells #[.bool t.num.g, .slice t.num.a t.num.n t.num.c, .bool t.den.g, .slice t.den.a t.den.n t.den.c] 29)).cell? ⟨w.heap.size, 3, none⟩ = some (.slice t.den.a t.den.n t.den.c) := by refine ⟨?_, ?_, ?_, ?_⟩ <;> simp [go_sem]
  have TC := hide tc
  have B0 := hide b0
  have sz0 : w.heap.size + 1 = (w.alloc (.cells #[.bool t.num.g, .slice t.num.a t.num.n t.num.c, .bool t.den.g, .slice t.den.a t.den.n t.den.c] 29)).heap.size := by simp
  clear b0 tc
  go_upto_region 1 with fail
  generalize (w.alloc (.cells #[.bool t.num.g, .slice t.num.a t.num.n t.num.c, .bool t.den.g, .slice t.den.a t.den.n t.den.c] 29)) = w0 at *
  go_wp2_with (at_make; refine wpList_make_full _ rfl _ _ 23 rfl w0.heap.size 43 i0 (.agg #[.bool false, .slice none 0 0, .bool false, .slice none 0 0, .bool false, .slice none 0 0, .bool false, .slice none 0 0]) 8 Tryz.underlying23 hi hz0 hz1 .i64 .i64 _ _ m rfl rfl (by omega) (by omega) ?c1 ?c2 ?c3 ?_)
  case c1 => rw [hz2]; omega
  case c2 => unfold maxLen; omega
  case c3 => exact Nat.le_refl _
  intro wm hown hgrow
  have hbm : Below w0.heap.size w0 wm := (Below.refl _ _).grown hgrow (Nat.le_refl _) (fun k e => by cases e)
  have G0 := hide (GrZ.start hown hbm)
  have HBm := hide hbm
  clear hown hgrow hi hz0 hz1 hz2 hbm
  have s0 : w.heap.size < w0.heap.size := by omega
  have HBm0 := hide (below_on (unhide B0) (unhide HBm))
  have TM : Hid (wm.cell? ⟨w.heap.size, 0, none⟩ = some (.bool t.num.g) ∧ wm.cell? ⟨w.heap.size, 1, none⟩ = some (.slice t.num.a t.num.n t.num.c) ∧ wm.cell? ⟨w.heap.size, 2, none⟩ = some (.bool t.den.g) ∧ wm.cell? ⟨w.heap.size, 3, none⟩ = some (.slice t.den.a t.den.n t.den.c)) := hide ⟨cell_later (unhide HBm) (unhide TC).1, cell_later (unhide HBm) (unhide TC).2.1, cell_later (unhide HBm) (unhide TC).2.2.1, cell_later (unhide HBm) (unhide TC).2.2.2⟩
  have zm := (unhide HBm0).size
  go_wp2
  go_loopw [13] (fun iv wr => ∃ (i : Nat) (us : List (SV × SD)), i ≤ m ∧ iv = .int .i64 i ∧ Hid (GrZ w0.heap.size m wr us) ∧ Hid (∀ j p q, j < i → ps[j]? = some p → ps[j + 1]? = some q → AtZ us j (mxP z p q)) ∧ Hid (Below w.heap.size w wr) ∧ Hid (wr.cell? ⟨w.heap.size, 0, none⟩ = some (.bool t.num.g) ∧ wr.cell? ⟨w.heap.size, 1, none⟩ = some (.slice t.num.a t.num.n t.num.c) ∧ wr.cell? ⟨w.heap.size, 2, none⟩ = some (.bool t.den.g) ∧ wr.cell? ⟨w.heap.size, 3, none⟩ = some (.slice t.den.a t.den.n t.den.c))) (fun iv _ => m - (intOf iv).toNat)
  case atStart => exact ⟨0, _, Nat.zero_le _, rfl, G0, hide (fun j p q hj => absurd hj (Nat.not_lt_zero _)), HBm0, TM⟩
  case round =>
    clear G0 HBm0
    obtain ⟨i, us, hi', rfl, GR, AT, HB, TW⟩ := hrel
    by_cases hlt : i < m
    · have hlt' : (i : Int) < (m : Int) := by omega
      have hlx : i < m + 1 := by omega
      have hly : i + 1 < m + 1 := by omega
      rcases (unhide HS).at_ with e | ⟨b, off, rfl, hb, hcb⟩
      · exact absurd (unhide HN) (by rw [e]; simp <;> omega)
      have e0 := hcb i (by rw [unhide HN]; exact hlx)
      obtain ⟨y, hy⟩ : ∃ y, y = l[i]'(by rw [unhide HN]; exact hlx) := ⟨_, rfl⟩
      rw [← hy] at e0
      have My : Hid (l[i]? = some y) := hide (by rw [hy]; exact List.getElem?_eq_getElem _)
      clear hy
      have k0_0 : wr.cell? ⟨b, off + i * 8, none⟩ = some (.bool y.1.lo.num.g) := ((unhide HB).cell (p := ⟨b, off + i * 8, none⟩) hb).trans (e0.1)
      have k0_1 : wr.cell? ⟨b, off + i * 8 + 1, none⟩ = some (.slice y.1.lo.num.a y.1.lo.num.n y.1.lo.num.c) := ((unhide HB).cell (p := ⟨b, off + i * 8 + 1, none⟩) hb).trans (e0.2.1)
      have k0_2 : wr.cell? ⟨b, off + i * 8 + 2, none⟩ = some (.bool y.1.lo.den.g) := ((unhide HB).cell (p := ⟨b, off + i * 8 + 2, none⟩) hb).trans (e0.2.2.1)
      have k0_3 : wr.cell? ⟨b, off + i * 8 + 3, none⟩ = some (.slice y.1.lo.den.a y.1.lo.den.n y.1.lo.den.c) := ((unhide HB).cell (p := ⟨b, off + i * 8 + 3, none⟩) hb).trans (e0.2.2.2.1)
      have k0_4 : wr.cell? ⟨b, off + i * 8 + 4, none⟩ = some (.bool y.1.hi.num.g) := ((unhide HB).cell (p := ⟨b, off + i * 8 + 4, none⟩) hb).trans (e0.2.2.2.2.1)
      have k0_5 : wr.cell? ⟨b, off + i * 8 + 5, none⟩ = some (.slice y.1.hi.num.a y.1.hi.num.n y.1.hi.num.c) := ((unhide HB).cell (p := ⟨b, off + i * 8 + 5, none⟩) hb).trans (e0.2.2.2.2.2.1)
      have k0_6 : wr.cell? ⟨b, off + i * 8 + 6, none⟩ = some (.bool y.1.hi.den.g) := ((unhide HB).cell (p := ⟨b, off + i * 8 + 6, none⟩) hb).trans (e0.2.2.2.2.2.2.1)
      have k0_7 : wr.cell? ⟨b, off + i * 8 + 7, none⟩ = some (.slice y.1.hi.den.a y.1.hi.den.n y.1.hi.den.c) := ((unhide HB).cell (p := ⟨b, off + i * 8 + 7, none⟩) hb).trans (e0.2.2.2.2.2.2.2)
      clear e0
      have e0 := hcb (i + 1) (by rw [unhide HN]; exact hly)
      obtain ⟨v, hv⟩ : ∃ y, y = l[(i + 1)]'(by rw [unhide HN]; exact hly) := ⟨_, rfl⟩
      rw [← hv] at e0
      have Mv : Hid (l[(i + 1)]? = some v) := hide (by rw [hv]; exact List.getElem?_eq_getElem _)
      clear hv
      have k1_0 : wr.cell? ⟨b, off + (i + 1) * 8, none⟩ = some (.bool v.1.lo.num.g) := ((unhide HB).cell (p := ⟨b, off + (i + 1) * 8, none⟩) hb).trans (e0.1)
      have k1_1 : wr.cell? ⟨b, off + (i + 1) * 8 + 1, none⟩ = some (.slice v.1.lo.num.a v.1.lo.num.n v.1.lo.num.c) := ((unhide HB).cell (p := ⟨b, off + (i + 1) * 8 + 1, none⟩) hb).trans (e0.2.1)
      have k1_2 : wr.cell? ⟨b, off + (i + 1) * 8 + 2, none⟩ = some (.bool v.1.lo.den.g) := ((unhide HB).cell (p := ⟨b, off + (i + 1) * 8 + 2, none⟩) hb).trans (e0.2.2.1)
      have k1_3 : wr.cell? ⟨b, off + (i + 1) * 8 + 3, none⟩ = some (.slice v.1.lo.den.a v.1.lo.den.n v.1.lo.den.c) := ((unhide HB).cell (p := ⟨b, off + (i + 1) * 8 + 3, none⟩) hb).trans (e0.2.2.2.1)
      have k1_4 : wr.cell? ⟨b, off + (i + 1) * 8 + 4, none⟩ = some (.bool v.1.hi.num.g) := ((unhide HB).cell (p := ⟨b, off + (i + 1) * 8 + 4, none⟩) hb).trans (e0.2.2.2.2.1)
      have k1_5 : wr.cell? ⟨b, off + (i + 1) * 8 + 5, none⟩ = some (.slice v.1.hi.num.a v.1.hi.num.n v.1.hi.num.c) := ((unhide HB).cell (p := ⟨b, off + (i + 1) * 8 + 5, none⟩) hb).trans (e0.2.2.2.2.2.1)
      have k1_6 : wr.cell? ⟨b, off + (i + 1) * 8 + 6, none⟩ = some (.bool v.1.hi.den.g) := ((unhide HB).cell (p := ⟨b, off + (i + 1) * 8 + 6, none⟩) hb).trans (e0.2.2.2.2.2.2.1)
      have k1_7 : wr.cell? ⟨b, off + (i + 1) * 8 + 7, none⟩ = some (.slice v.1.hi.den.a v.1.hi.den.n v.1.hi.den.c) := ((unhide HB).cell (p := ⟨b, off + (i + 1) * 8 + 7, none⟩) hb).trans (e0.2.2.2.2.2.2.2)
      clear e0
      clear hcb
      obtain ⟨p, hp1, hp2, hp3, hp4⟩ := (unhide RD).pt (unhide My)
      obtain ⟨q, hq1, hq2, hq3, hq4⟩ := (unhide RD).pt (unhide Mv)
      have IP := hide (hp4.later (unhide HB))
      have IQ := hide (hq4.later (unhide HB))
      have BP := hide ((unhide BD) p hp2)
      have BQ := hide ((unhide BD) q hq2)
      have PV := hide (And.intro hp1 hq1)
      clear hp1 hp2 hp3 hp4 hq1 hq2 hq3 hq4
      have IT := hide ((unhide IT0).later (unhide HB))
      have k2_0 := (unhide TW).1
      have k2_1 := (unhide TW).2.1
      have k2_2 := (unhide TW).2.2.1
      have k2_3 := (unhide TW).2.2.2
      have TW0 := TW
      clear TW
      have zb := (unhide GR).lt
      have neb : b ≠ w0.heap.size := by omega
      have GR0 := GR
      have HBq := HB
      have iw : IntKind.i64.wrap ((i : Int) + 1) = (i : Int) + 1 := by rw [IntKind.wrap_i64]; omega
      have j1 : (0 : Int) ≤ (i : Int) + 1 := by omega
      have j2 : (i : Int) + 1 < ((m + 1 : Nat) : Int) := by omega
      have j2' : (i : Int) < ((m + 1 : Nat) : Int) := by omega
      have j3 : ((i : Int) + 1).toNat = i + 1 := by omega
      have j4 : (0 : Int) ≤ (i : Int) := by omega
      have j5 : (i : Int) < (m : Int) + 1 := by omega
      go_upto_region 5 with fail
      have ne0_3 : b ≠ w0.heap.size := by omega
      have ne1_3 : b ≠ w0.heap.size := by omega
      have ne2_3 : w.heap.size ≠ w0.heap.size := by omega
      go_region_held3 (fun w' => w'.cell? ⟨b, off + i * 8, none⟩ = some (.bool y.1.lo.num.g) ∧ w'.cell? ⟨b, off + i * 8 + 1, none⟩ = some (.slice y.1.lo.num.a y.1.lo.num.n y.1.lo.num.c) ∧ w'.cell? ⟨b, off + i * 8 + 2, none⟩ = some (.bool y.1.lo.den.g) ∧ w'.cell? ⟨b, off + i * 8 + 3, none⟩ = some (.slice y.1.lo.den.a y.1.lo.den.n y.1.lo.den.c) ∧ w'.cell? ⟨b, off + i * 8 + 4, none⟩ = some (.bool y.1.hi.num.g) ∧ w'.cell? ⟨b, off + i * 8 + 5, none⟩ = some (.slice y.1.hi.num.a y.1.hi.num.n y.1.hi.num.c) ∧ w'.cell? ⟨b, off + i * 8 + 6, none⟩ = some (.bool y.1.hi.den.g) ∧ w'.cell? ⟨b, off + i * 8 + 7, none⟩ = some (.slice y.1.hi.den.a y.1.hi.den.n y.1.hi.den.c) ∧ w'.cell? ⟨b, off + (i + 1) * 8, none⟩ = some (.bool v.1.lo.num.g) ∧ w'.cell? ⟨b, off + (i + 1) * 8 + 1, none⟩ = some (.slice v.1.lo.num.a v.1.lo.num.n v.1.lo.num.c) ∧ w'.cell? ⟨b, off + (i + 1) * 8 + 2, none⟩ = some (.bool v.1.lo.den.g) ∧ w'.cell? ⟨b, off + (i + 1) * 8 + 3, none⟩ = some (.slice v.1.lo.den.a v.1.lo.den.n v.1.lo.den.c) ∧ w'.cell? ⟨b, off + (i + 1) * 8 + 4, none⟩ = some (.bool v.1.hi.num.g) ∧ w'.cell? ⟨b, off + (i + 1) * 8 + 5, none⟩ = some (.slice v.1.hi.num.a v.1.hi.num.n v.1.hi.num.c) ∧ w'.cell? ⟨b, off + (i + 1) * 8 + 6, none⟩ = some (.bool v.1.hi.den.g) ∧ w'.cell? ⟨b, off + (i + 1) * 8 + 7, none⟩ = some (.slice v.1.hi.den.a v.1.hi.den.n v.1.hi.den.c) ∧ w'.cell? ⟨w.heap.size, 0, none⟩ = some (.bool t.num.g) ∧ w'.cell? ⟨w.heap.size, 1, none⟩ = some (.slice t.num.a t.num.n t.num.c) ∧ w'.cell? ⟨w.heap.size, 2, none⟩ = some (.bool t.den.g) ∧ w'.cell? ⟨w.heap.size, 3, none⟩ = some (.slice t.den.a t.den.n t.den.c)) (with_reducible (first | exact ⟨k0_0, k0_1, k0_2, k0_3, k0_4, k0_5, k0_6, k0_7, k1_0, k1_1, k1_2, k1_3, k1_4, k1_5, k1_6, k1_7, k2_0, k2_1, k2_2, k2_3⟩ | exact ⟨cd_other k0_0, cd_other k0_1, cd_other k0_2, cd_other k0_3, cd_other k0_4, cd_other k0_5, cd_other k0_6, cd_other k0_7, cd_other k1_0, cd_other k1_1, cd_other k1_2, cd_other k1_3, cd_other k1_4, cd_other k1_5, cd_other k1_6, cd_other k1_7, cd_other k2_0, cd_other k2_1, cd_other k2_2, cd_other k2_3⟩ | exact ⟨cs_other (cs_other (cs_other (cs_other (cs_other (cs_other (cs_other (cs_other (k0_0) ne0_3) ne0_3) ne0_3) ne0_3) ne0_3) ne0_3) ne0_3) ne0_3, cs_other (cs_other (cs_other (cs_other (cs_other (cs_other (cs_other (cs_other (k0_1) ne0_3) ne0_3) ne0_3) ne0_3) ne0_3) ne0_3) ne0_3) ne0_3, cs_other (cs_other (cs_other (cs_other (cs_other (cs_other (cs_other (cs_other (k0_2) ne0_3) ne0_3) ne0_3) ne0_3) ne0_3) ne0_3) ne0_3) ne0_3, cs_other (cs_other (cs_other (cs_other (cs_other (cs_other (cs_other (cs_other (k0_3) ne0_3) ne0_3) ne0_3) ne0_3) ne0_3) ne0_3) ne0_3) ne0_3, cs_other (cs_other (cs_other (cs_other (cs_other (cs_other (cs_other (cs_other (k0_4) ne0_3) ne0_3) ne0_3) ne0_3) ne0_3) ne0_3) ne0_3) ne0_3, cs_other (cs_other (cs_other (cs_other (cs_other (cs_other (cs_other (cs_other (k0_5) ne0_3) ne0_3) ne0_3) ne0_3) ne0_3) ne0_3) ne0_3) ne0_3, cs_other (cs_other (cs_other (cs_other (cs_other (cs_other (cs_other (cs_other (k0_6) ne0_3) ne0_3) ne0_3) ne0_3) ne0_3) ne0_3) ne0_3) ne0_3, cs_other (cs_other (cs_other (cs_other (cs_other (cs_other (cs_other (cs_other (k0_7) ne0_3) ne0_3) ne0_3) ne0_3) ne0_3) ne0_3) ne0_3) ne0_3, cs_other (cs_other (cs_other (cs_other (cs_other (cs_other (cs_other (cs_other (k1_0) ne1_3) ne1_3) ne1_3) ne1_3) ne1_3) ne1_3) ne1_3) ne1_3, cs_other (cs_other (cs_other (cs_other (cs_other (cs_other (cs_other (cs_other (k1_1) ne1_3) ne1_3) ne1_3) ne1_3) ne1_3) ne1_3) ne1_3) ne1_3, cs_other (cs_other (cs_other (cs_other (cs_other (cs_other (cs_other (cs_other (k1_2) ne1_3) ne1_3) ne1_3) ne1_3) ne1_3) ne1_3) ne1_3) ne1_3, cs_other (cs_other (cs_other (cs_other (cs_other (cs_other (cs_other (cs_other (k1_3) ne1_3) ne1_3) ne1_3) ne1_3) ne1_3) ne1_3) ne1_3) ne1_3, cs_other (cs_other (cs_other (cs_other (cs_other (cs_other (cs_other (cs_other (k1_4) ne1_3) ne1_3) ne1_3) ne1_3) ne1_3) ne1_3) ne1_3) ne1_3, cs_other (cs_other (cs_other (cs_other (cs_other (cs_other (cs_other (cs_other (k1_5) ne1_3) ne1_3) ne1_3) ne1_3) ne1_3) ne1_3) ne1_3) ne1_3, cs_other (cs_other (cs_other (cs_other (cs_other (cs_other (cs_other (cs_other (k1_6) ne1_3) ne1_3) ne1_3) ne1_3) ne1_3) ne1_3) ne1_3) ne1_3, cs_other (cs_other (cs_other (cs_other (cs_other (cs_other (cs_other (cs_other (k1_7) ne1_3) ne1_3) ne1_3) ne1_3) ne1_3) ne1_3) ne1_3) ne1_3, cs_other (cs_other (cs_other (cs_other (cs_other (cs_other (cs_other (cs_other (k2_0) ne2_3) ne2_3) ne2_3) ne2_3) ne2_3) ne2_3) ne2_3) ne2_3, cs_other (cs_other (cs_other (cs_other (cs_other (cs_other (cs_other (cs_other (k2_1) ne2_3) ne2_3) ne2_3) ne2_3) ne2_3) ne2_3) ne2_3) ne2_3, cs_other (cs_other (cs_other (cs_other (cs_other (cs_other (cs_other (cs_other (k2_2) ne2_3) ne2_3) ne2_3) ne2_3) ne2_3) ne2_3) ne2_3) ne2_3, cs_other (cs_other (cs_other (cs_other (cs_other (cs_other (cs_other (cs_other (k2_3) ne2_3) ne2_3) ne2_3) ne2_3) ne2_3) ne2_3) ne2_3) ne2_3⟩ | fail))
        (first
        | (go_at_call 78; refine (calls_dp (mixP y.1 v.1 t p q z _ ?_ ((unhide BP).mono (by omega)) ?_ ((unhide BQ).mono (by omega)) ?_ ((unhide KT).mono (by omega)))).mono ?_; exact (unhide IP).later (Below.refl _ _).drew; exact (unhide IQ).later (Below.refl _ _).drew; exact (unhide IT).later (Below.refl _ _).drew; rintro e w2 ⟨u, d, rfl, hb, ho, ha, hd⟩; have hbx : Below wr.heap.size wr w2 := below_of_drew hb; have szw2 := hbx.size; replace k0_0 := cell_later hbx k0_0; replace k0_1 := cell_later hbx k0_1; replace k0_2 := cell_later hbx k0_2; replace k0_3 := cell_later hbx k0_3; replace k0_4 := cell_later hbx k0_4; replace k0_5 := cell_later hbx k0_5; replace k0_6 := cell_later hbx k0_6; replace k0_7 := cell_later hbx k0_7; replace k1_0 := cell_later hbx k1_0; replace k1_1 := cell_later hbx k1_1; replace k1_2 := cell_later hbx k1_2; replace k1_3 := cell_later hbx k1_3; replace k1_4 := cell_later hbx k1_4; replace k1_5 := cell_later hbx k1_5; replace k1_6 := cell_later hbx k1_6; replace k1_7 := cell_later hbx k1_7; replace k2_0 := cell_later hbx k2_0; replace k2_1 := cell_later hbx k2_1; replace k2_2 := cell_later hbx k2_2; replace k2_3 := cell_later hbx k2_3; replace IP := hide ((unhide IP).later hbx); replace IQ := hide ((unhide IQ).later hbx); replace IT := hide ((unhide IT).later hbx); have G2 := hide ((unhide GR0).later hbx); have GP := hide ((unhide GR0).put (k := i) hbx hlt ho ha); have HBx := hide (below_on (unhide HBq) hbx); have HD := hide hd; obtain ⟨x0, o0⟩ := (unhide G2).old (o := i * 8) (by omega); obtain ⟨x1, o1⟩ := (unhide G2).old (o := i * 8 + 1) (by omega); obtain ⟨x2, o2⟩ := (unhide G2).old (o := i * 8 + 2) (by omega); obtain ⟨x3, o3⟩ := (unhide G2).old (o := i * 8 + 3) (by omega); obtain ⟨x4, o4⟩ := (unhide G2).old (o := i * 8 + 4) (by omega); obtain ⟨x5, o5⟩ := (unhide G2).old (o := i * 8 + 5) (by omega); obtain ⟨x6, o6⟩ := (unhide G2).old (o := i * 8 + 6) (by omega); obtain ⟨x7, o7⟩ := (unhide G2).old (o := i * 8 + 7) (by omega); have fr := (unhide G2).fz; have HBr := hide hbx; clear hbx hb ho ha hd))
      have AT2 : Hid (∀ j p q, j < i + 1 → ps[j]? = some p → ps[j + 1]? = some q → AtZ (us.set i (u, d)) j (mxP z p q)) := hide (fun j p' q' hj hp hq => by
        by_cases e : j = i
        · subst e
          rw [(unhide PV).1] at hp
          rw [(unhide PV).2] at hq
          obtain rfl := Option.some.inj hp
          obtain rfl := Option.some.inj hq
          exact AtZ.here (by rw [(unhide GR0).len]; exact hlt) (unhide HD)
        · exact ((unhide AT) j p' q' (by omega) hp hq).keep (by omega))
      have HB3 := hide (GrZ.bel (n := 0) (B := w0.heap.size) (k := i) (u := u) (unhide HBx) (by omega))
      have nes : w.heap.size ≠ w0.heap.size := by omega
      have TW2 : Hid (((((((((w2.setCell ⟨w0.heap.size, i * 8, none⟩ (.bool u.lo.num.g)).setCell ⟨w0.heap.size, i * 8 + 1, none⟩ (.slice u.lo.num.a u.lo.num.n u.lo.num.c)).setCell ⟨w0.heap.size, i * 8 + 2, none⟩ (.bool u.lo.den.g)).setCell ⟨w0.heap.size, i * 8 + 3, none⟩ (.slice u.lo.den.a u.lo.den.n u.lo.den.c)).setCell ⟨w0.heap.size, i * 8 + 4, none⟩ (.bool u.hi.num.g)).setCell ⟨w0.heap.size, i * 8 + 5, none⟩ (.slice u.hi.num.a u.hi.num.n u.hi.num.c)).setCell ⟨w0.heap.size, i * 8 + 6, none⟩ (.bool u.hi.den.g)).setCell ⟨w0.heap.size, i * 8 + 7, none⟩ (.slice u.hi.den.a u.hi.den.n u.hi.den.c)).cell? ⟨w.heap.size, 0, none⟩ = some (.bool t.num.g) ∧ ((((((((w2.setCell ⟨w0.heap.size, i * 8, none⟩ (.bool u.lo.num.g)).setCell ⟨w0.heap.size, i * 8 + 1, none⟩ (.slice u.lo.num.a u.lo.num.n u.lo.num.c)).setCell ⟨w0.heap.size, i * 8 + 2, none⟩ (.bool u.lo.den.g)).setCell ⟨w0.heap.size, i * 8 + 3, none⟩ (.slice u.lo.den.a u.lo.den.n u.lo.den.c)).setCell ⟨w0.heap.size, i * 8 + 4, none⟩ (.bool u.hi.num.g)).setCell ⟨w0.heap.size, i * 8 + 5, none⟩ (.slice u.hi.num.a u.hi.num.n u.hi.num.c)).setCell ⟨w0.heap.size, i * 8 + 6, none⟩ (.bool u.hi.den.g)).setCell ⟨w0.heap.size, i * 8 + 7, none⟩ (.slice u.hi.den.a u.hi.den.n u.hi.den.c)).cell? ⟨w.heap.size, 1, none⟩ = some (.slice t.num.a t.num.n t.num.c) ∧ ((((((((w2.setCell ⟨w0.heap.size, i * 8, none⟩ (.bool u.lo.num.g)).setCell ⟨w0.heap.size, i * 8 + 1, none⟩ (.slice u.lo.num.a u.lo.num.n u.lo.num.c)).setCell ⟨w0.heap.size, i * 8 + 2, none⟩ (.bool u.lo.den.g)).setCell ⟨w0.heap.size, i * 8 + 3, none⟩ (.slice u.lo.den.a u.lo.den.n u.lo.den.c)).setCell ⟨w0.heap.size, i * 8 + 4, none⟩ (.bool u.hi.num.g)).setCell ⟨w0.heap.size, i * 8 + 5, none⟩ (.slice u.hi.num.a u.hi.num.n u.hi.num.c)).setCell ⟨w0.heap.size, i * 8 + 6, none⟩ (.bool u.hi.den.g)).setCell ⟨w0.heap.size, i * 8 + 7, none⟩ (.slice u.hi.den.a u.hi.den.n u.hi.den.c)).cell? ⟨w.heap.size, 2, none⟩ = some (.bool t.den.g) ∧ ((((((((w2.setCell ⟨w0.heap.size, i * 8, none⟩ (.bool u.lo.num.g)).setCell ⟨w0.heap.size, i * 8 + 1, none⟩ (.slice u.lo.num.a u.lo.num.n u.lo.num.c)).setCell ⟨w0.heap.size, i * 8 + 2, none⟩ (.bool u.lo.den.g)).setCell ⟨w0.heap.size, i * 8 + 3, none⟩ (.slice u.lo.den.a u.lo.den.n u.lo.den.c)).setCell ⟨w0.heap.size, i * 8 + 4, none⟩ (.bool u.hi.num.g)).setCell ⟨w0.heap.size, i * 8 + 5, none⟩ (.slice u.hi.num.a u.hi.num.n u.hi.num.c)).setCell ⟨w0.heap.size, i * 8 + 6, none⟩ (.bool u.hi.den.g)).setCell ⟨w0.heap.size, i * 8 + 7, none⟩ (.slice u.hi.den.a u.hi.den.n u.hi.den.c)).cell? ⟨w.heap.size, 3, none⟩ = some (.slice t.den.a t.den.n t.den.c)) := hide ⟨cs_other (cs_other (cs_other (cs_other (cs_other (cs_other (cs_other (cs_other (k2_0) nes) nes) nes) nes) nes) nes) nes) nes, cs_other (cs_other (cs_other (cs_other (cs_other (cs_other (cs_other (cs_other (k2_1) nes) nes) nes) nes) nes) nes) nes) nes, cs_other (cs_other (cs_other (cs_other (cs_other (cs_other (cs_other (cs_other (k2_2) nes) nes) nes) nes) nes) nes) nes) nes, cs_other (cs_other (cs_other (cs_other (cs_other (cs_other (cs_other (cs_other (k2_3) nes) nes) nes) nes) nes) nes) nes) nes⟩
      clear k0_0 k0_1 k0_2 k0_3 k0_4 k0_5 k0_6 k0_7 k1_0 k1_1 k1_2 k1_3 k1_4 k1_5 k1_6 k1_7 k2_0 k2_1 k2_2 k2_3 HBr IP IQ IT
      go_wp2
      go_roundw
      case rel => exact ⟨i + 1, _, by omega, by go_num, GP, AT2, HB3, TW2⟩
      case measure => simp [intOf]; omega
    · obtain rfl : i = m := by omega
      have IC : Hid (IsC (mxR z ps) (us.map Prod.snd)) := hide (atZ_isC (by unfold mxR; rw [(unhide GR).len, zw_len, unhide LP]; omega) (fun k x hx => by
        have hk : k < i := by have := (List.getElem?_eq_some_iff.1 hx).1; unfold mxR at this; rw [zw_len, unhide LP] at this; omega
        obtain ⟨p, hp⟩ : ∃ p, ps[k]? = some p := ⟨_, List.getElem?_eq_getElem (by rw [unhide LP]; omega)⟩
        obtain ⟨q, hq⟩ : ∃ q, ps[k + 1]? = some q := ⟨_, List.getElem?_eq_getElem (by rw [unhide LP]; omega)⟩
        unfold mxR at hx
        rw [zw_get _ ps hp hq] at hx
        obtain rfl := Option.some.inj hx
        exact (unhide AT) k p q hk hp hq))
      obtain ⟨r1, r2⟩ := GrZ.fin (w0 := w) (unhide GR) (unhide IC) ((unhide BD).mxR (unhide KT)) (by omega) (by omega) (by omega)
      have R1 := hide r1
      have R2 := hide r2
      clear r1 r2
      go_wp2
      go_ret
      exact ⟨_, _, _, us, rfl, unhide HB, unhide R1, unhide R2⟩

theorem AtZ.left {us vs : List (SV × SD)} {k : Nat} {p : Rat × Rat} (h : AtZ us k p) : AtZ (us ++ vs) k p := by
  obtain ⟨y, h1, h2⟩ := h
  exact ⟨y, by rw [List.getElem?_append_left (List.getElem?_eq_some_iff.1 h1).1]; exact h1, h2⟩
theorem atZ_new {us : List (SV × SD)} {p : Rat × Rat} {u : SV} {d : SD} {k : Nat} (hk : us.length = k) (h : IsDP p d) : AtZ (us ++ [(u, d)]) k p := ⟨(u, d), by rw [List.getElem?_append_right (by omega), hk, Nat.sub_self]; rfl, h⟩
/-- A specification's function tells these points; their limbs lie in blocks of integers. -/
def OutGz (w : World) (ps : List (Rat × Rat)) (e : Ending) (w' : World) : Prop := ∃ (a : Option Addr) (n c : Nat) (l : List (SV × SD)), e = .returned (.slice a n c) ∧ Below w.heap.size w w' ∧ RdC w' a n c l ps ∧ TypZ w' (zipPS l)

set_option maxHeartbeats 8000000 in
theorem mixRS (a : Option Addr) (n c : Nat) (l : List (SV × SD)) (ps : List (Rat × Rat)) (t : QV) (z : Rat) (M : Nat) (w : World) (h : RdC w a n c l ps) (hb : BdC ps M) (hM : M ≤ 4000) (h1 : 1 ≤ n) (h5 : n ≤ 6) (ht : IsR w t z) (kt : BdR z 40) :
    Calls Tryz.prog 93 #[.slice a n c, .agg #[.bool t.num.g, .slice t.num.a t.num.n t.num.c, .bool t.den.g, .slice t.den.a t.den.n t.den.c]] w (OutGz w (mxR z ps)) := by
  have RD0 := hide h
  have BD := hide hb
  have LP : Hid (ps.length = n) := hide h.len
  have IT00 := hide ht
  have KT := hide kt
  have KB : Hid (Below w.heap.size w (w.alloc (.cells #[.bool t.num.g, .slice t.num.a t.num.n t.num.c, .bool t.den.g, .slice t.den.a t.den.n t.den.c] 29))) := hide ((Below.refl _ _).alloc (Nat.le_refl _) _)
  have TC : Hid ((w.alloc (.cells #[.bool t.num.g, .slice t.num.a t.num.n t.num.c, .bool t.den.g, .slice t.den.a t.den.n t.den.c] 29)).cell? ⟨w.heap.size, 0, none⟩ = some (.bool t.num.g) ∧ (w.alloc (.cells #[.bool t.num.g, .slice t.num.a t.num.n t.num.c, .bool t.den.g, .slice t.den.a t.den.n t.den.c] 29)).cell? ⟨w.heap.size, 1, none⟩ = some (.slice t.num.a t.num.n t.num.c) ∧ (w.alloc (.cells #[.bool t.num.g, .slice t.num.a t.num.n t.num.c, .bool t.den.g, .slice t.den.a t.den.n t.den.c] 29)).cell? ⟨w.heap.size, 2, none⟩ = some (.bool t.den.g) ∧ (w.alloc (.cells #[.bool t.num.g, .slice t.num.a t.num.n t.num.c, .bool t.den.g, .slice t.den.a t.den.n t.den.c] 29)).cell? ⟨w.heap.size, 3, none⟩ = some (.slice t.den.a t.den.n t.den.c)) := hide (by refine ⟨?_, ?_, ?_, ?_⟩ <;> simp [go_sem])
  have sz0 : w.heap.size + 1 = (w.alloc (.cells #[.bool t.num.g, .slice t.num.a t.num.n t.num.c, .bool t.den.g, .slice t.den.a t.den.n t.den.c] 29)).heap.size := by simp
  clear h hb ht kt
  go_enter Tryz.func93, Tryz.ntmps93
  go_upto_region 1 with fail
  generalize (w.alloc (.cells #[.bool t.num.g, .slice t.num.a t.num.n t.num.c, .bool t.den.g, .slice t.den.a t.den.n t.den.c] 29)) = w0 at *
  have lt0 : w.heap.size < w0.heap.size := by omega
  have RD := hide ((unhide RD0).later (unhide KB))
  have IT0 := hide ((unhide IT00).later (unhide KB))
  have HS := hide (unhide RD).ar
  have HN := hide (unhide RD).ar.len
  clear RD0 IT00
  go_wp2
  go_loopw [5, 6] (fun x iv wr => ∃ (i : Nat) (us : List (SV × SD)), i + 1 ≤ n ∧ iv = .int .i64 i ∧ us.length = i ∧ Hid (∀ j p q, j < i → ps[j]? = some p → ps[j + 1]? = some q → AtZ us j (mxP z p q)) ∧ Hid (GwZ w0.heap.size wr x us) ∧ Hid (Below w0.heap.size w0 wr)) (fun _ iv _ => n - (intOf iv).toNat)
  case atStart => exact ⟨0, [], by omega, rfl, rfl, hide (fun j p q hj => absurd hj (Nat.not_lt_zero _)), hide (GwZ.nil _ _), hide (Below.refl _ _)⟩
  case round =>
    obtain ⟨i, us, hi', rfl, hu, AT, GW, HB⟩ := hrel
    by_cases hlt : i + 1 < n
    · have hlt' : (i : Int) + 1 < (n : Int) := by omega
      have hlx : i < n := by omega
      have hly : i + 1 < n := hlt
      rcases (unhide HS).at_ with e | ⟨b, off, rfl, hb, hcb⟩
      · exact absurd (unhide HN) (by rw [e]; simp <;> omega)
      have e0 := hcb i (by rw [unhide HN]; exact hlx)
      obtain ⟨y, hy⟩ : ∃ y, y = l[i]'(by rw [unhide HN]; exact hlx) := ⟨_, rfl⟩
      rw [← hy] at e0
      have My : Hid (l[i]? = some y) := hide (by rw [hy]; exact List.getElem?_eq_getElem _)
      clear hy
      have k0_0 : wr.cell? ⟨b, off + i * 8, none⟩ = some (.bool y.1.lo.num.g) := ((unhide HB).cell (p := ⟨b, off + i * 8, none⟩) hb).trans (e0.1)
      have k0_1 : wr.cell? ⟨b, off + i * 8 + 1, none⟩ = some (.slice y.1.lo.num.a y.1.lo.num.n y.1.lo.num.c) := ((unhide HB).cell (p := ⟨b, off + i * 8 + 1, none⟩) hb).trans (e0.2.1)
      have k0_2 : wr.cell? ⟨b, off + i * 8 + 2, none⟩ = some (.bool y.1.lo.den.g) := ((unhide HB).cell (p := ⟨b, off + i * 8 + 2, none⟩) hb).trans (e0.2.2.1)
      have k0_3 : wr.cell? ⟨b, off + i * 8 + 3, none⟩ = some (.slice y.1.lo.den.a y.1.lo.den.n y.1.lo.den.c) := ((unhide HB).cell (p := ⟨b, off + i * 8 + 3, none⟩) hb).trans (e0.2.2.2.1)
      have k0_4 : wr.cell? ⟨b, off + i * 8 + 4, none⟩ = some (.bool y.1.hi.num.g) := ((unhide HB).cell (p := ⟨b, off + i * 8 + 4, none⟩) hb).trans (e0.2.2.2.2.1)
      have k0_5 : wr.cell? ⟨b, off + i * 8 + 5, none⟩ = some (.slice y.1.hi.num.a y.1.hi.num.n y.1.hi.num.c) := ((unhide HB).cell (p := ⟨b, off + i * 8 + 5, none⟩) hb).trans (e0.2.2.2.2.2.1)
      have k0_6 : wr.cell? ⟨b, off + i * 8 + 6, none⟩ = some (.bool y.1.hi.den.g) := ((unhide HB).cell (p := ⟨b, off + i * 8 + 6, none⟩) hb).trans (e0.2.2.2.2.2.2.1)
      have k0_7 : wr.cell? ⟨b, off + i * 8 + 7, none⟩ = some (.slice y.1.hi.den.a y.1.hi.den.n y.1.hi.den.c) := ((unhide HB).cell (p := ⟨b, off + i * 8 + 7, none⟩) hb).trans (e0.2.2.2.2.2.2.2)
      have Y0 := hide e0
      clear e0
      have e0 := hcb (i + 1) (by rw [unhide HN]; exact hly)
      obtain ⟨v, hv⟩ : ∃ y, y = l[(i + 1)]'(by rw [unhide HN]; exact hly) := ⟨_, rfl⟩
      rw [← hv] at e0
      have Mv : Hid (l[(i + 1)]? = some v) := hide (by rw [hv]; exact List.getElem?_eq_getElem _)
      clear hv
      have k1_0 : wr.cell? ⟨b, off + (i + 1) * 8, none⟩ = some (.bool v.1.lo.num.g) := ((unhide HB).cell (p := ⟨b, off + (i + 1) * 8, none⟩) hb).trans (e0.1)
      have k1_1 : wr.cell? ⟨b, off + (i + 1) * 8 + 1, none⟩ = some (.slice v.1.lo.num.a v.1.lo.num.n v.1.lo.num.c) := ((unhide HB).cell (p := ⟨b, off + (i + 1) * 8 + 1, none⟩) hb).trans (e0.2.1)
      have k1_2 : wr.cell? ⟨b, off + (i + 1) * 8 + 2, none⟩ = some (.bool v.1.lo.den.g) := ((unhide HB).cell (p := ⟨b, off + (i + 1) * 8 + 2, none⟩) hb).trans (e0.2.2.1)
      have k1_3 : wr.cell? ⟨b, off + (i + 1) * 8 + 3, none⟩ = some (.slice v.1.lo.den.a v.1.lo.den.n v.1.lo.den.c) := ((unhide HB).cell (p := ⟨b, off + (i + 1) * 8 + 3, none⟩) hb).trans (e0.2.2.2.1)
      have k1_4 : wr.cell? ⟨b, off + (i + 1) * 8 + 4, none⟩ = some (.bool v.1.hi.num.g) := ((unhide HB).cell (p := ⟨b, off + (i + 1) * 8 + 4, none⟩) hb).trans (e0.2.2.2.2.1)
      have k1_5 : wr.cell? ⟨b, off + (i + 1) * 8 + 5, none⟩ = some (.slice v.1.hi.num.a v.1.hi.num.n v.1.hi.num.c) := ((unhide HB).cell (p := ⟨b, off + (i + 1) * 8 + 5, none⟩) hb).trans (e0.2.2.2.2.2.1)
      have k1_6 : wr.cell? ⟨b, off + (i + 1) * 8 + 6, none⟩ = some (.bool v.1.hi.den.g) := ((unhide HB).cell (p := ⟨b, off + (i + 1) * 8 + 6, none⟩) hb).trans (e0.2.2.2.2.2.2.1)
      have k1_7 : wr.cell? ⟨b, off + (i + 1) * 8 + 7, none⟩ = some (.slice v.1.hi.den.a v.1.hi.den.n v.1.hi.den.c) := ((unhide HB).cell (p := ⟨b, off + (i + 1) * 8 + 7, none⟩) hb).trans (e0.2.2.2.2.2.2.2)
      have V0 := hide e0
      clear e0
      clear hcb
      obtain ⟨p, hp1, hp2, hp3, hp4⟩ := (unhide RD).pt (unhide My)
      obtain ⟨q, hq1, hq2, hq3, hq4⟩ := (unhide RD).pt (unhide Mv)
      have IP := hide (hp4.later (unhide HB))
      have IQ := hide (hq4.later (unhide HB))
      have BP := hide ((unhide BD) p hp2)
      have BQ := hide ((unhide BD) q hq2)
      have PV := hide (And.intro hp1 hq1)
      clear hp1 hp2 hp3 hp4 hq1 hq2 hq3 hq4
      have IT := hide ((unhide IT0).later (unhide HB))
      have k2_0 := ((unhide HB).cell (p := ⟨w.heap.size, 0, none⟩) lt0).trans (unhide TC).1
      have k2_1 := ((unhide HB).cell (p := ⟨w.heap.size, 1, none⟩) lt0).trans (unhide TC).2.1
      have k2_2 := ((unhide HB).cell (p := ⟨w.heap.size, 2, none⟩) lt0).trans (unhide TC).2.2.1
      have k2_3 := ((unhide HB).cell (p := ⟨w.heap.size, 3, none⟩) lt0).trans (unhide TC).2.2.2
      have GW0 := GW
      have HBq := HB
      have szr := (unhide HB).size
      have iw : IntKind.i64.wrap ((i : Int) + 1) = (i : Int) + 1 := by rw [IntKind.wrap_i64]; omega
      have j1 : (0 : Int) ≤ (i : Int) + 1 := by omega
      have j2 : (i : Int) + 1 < (n : Int) := by omega
      have j2' : (i : Int) < (n : Int) := by omega
      have j3 : ((i : Int) + 1).toNat = i + 1 := by omega
      have j4 : (0 : Int) ≤ (i : Int) := by omega
      go_upto_region 5 with fail
      go_region_held3 (fun w' => w'.cell? ⟨b, off + i * 8, none⟩ = some (.bool y.1.lo.num.g) ∧ w'.cell? ⟨b, off + i * 8 + 1, none⟩ = some (.slice y.1.lo.num.a y.1.lo.num.n y.1.lo.num.c) ∧ w'.cell? ⟨b, off + i * 8 + 2, none⟩ = some (.bool y.1.lo.den.g) ∧ w'.cell? ⟨b, off + i * 8 + 3, none⟩ = some (.slice y.1.lo.den.a y.1.lo.den.n y.1.lo.den.c) ∧ w'.cell? ⟨b, off + i * 8 + 4, none⟩ = some (.bool y.1.hi.num.g) ∧ w'.cell? ⟨b, off + i * 8 + 5, none⟩ = some (.slice y.1.hi.num.a y.1.hi.num.n y.1.hi.num.c) ∧ w'.cell? ⟨b, off + i * 8 + 6, none⟩ = some (.bool y.1.hi.den.g) ∧ w'.cell? ⟨b, off + i * 8 + 7, none⟩ = some (.slice y.1.hi.den.a y.1.hi.den.n y.1.hi.den.c) ∧ w'.cell? ⟨b, off + (i + 1) * 8, none⟩ = some (.bool v.1.lo.num.g) ∧ w'.cell? ⟨b, off + (i + 1) * 8 + 1, none⟩ = some (.slice v.1.lo.num.a v.1.lo.num.n v.1.lo.num.c) ∧ w'.cell? ⟨b, off + (i + 1) * 8 + 2, none⟩ = some (.bool v.1.lo.den.g) ∧ w'.cell? ⟨b, off + (i + 1) * 8 + 3, none⟩ = some (.slice v.1.lo.den.a v.1.lo.den.n v.1.lo.den.c) ∧ w'.cell? ⟨b, off + (i + 1) * 8 + 4, none⟩ = some (.bool v.1.hi.num.g) ∧ w'.cell? ⟨b, off + (i + 1) * 8 + 5, none⟩ = some (.slice v.1.hi.num.a v.1.hi.num.n v.1.hi.num.c) ∧ w'.cell? ⟨b, off + (i + 1) * 8 + 6, none⟩ = some (.bool v.1.hi.den.g) ∧ w'.cell? ⟨b, off + (i + 1) * 8 + 7, none⟩ = some (.slice v.1.hi.den.a v.1.hi.den.n v.1.hi.den.c) ∧ w'.cell? ⟨w.heap.size, 0, none⟩ = some (.bool t.num.g) ∧ w'.cell? ⟨w.heap.size, 1, none⟩ = some (.slice t.num.a t.num.n t.num.c) ∧ w'.cell? ⟨w.heap.size, 2, none⟩ = some (.bool t.den.g) ∧ w'.cell? ⟨w.heap.size, 3, none⟩ = some (.slice t.den.a t.den.n t.den.c)) (with_reducible (first | exact ⟨k0_0, k0_1, k0_2, k0_3, k0_4, k0_5, k0_6, k0_7, k1_0, k1_1, k1_2, k1_3, k1_4, k1_5, k1_6, k1_7, k2_0, k2_1, k2_2, k2_3⟩ | exact ⟨cd_other k0_0, cd_other k0_1, cd_other k0_2, cd_other k0_3, cd_other k0_4, cd_other k0_5, cd_other k0_6, cd_other k0_7, cd_other k1_0, cd_other k1_1, cd_other k1_2, cd_other k1_3, cd_other k1_4, cd_other k1_5, cd_other k1_6, cd_other k1_7, cd_other k2_0, cd_other k2_1, cd_other k2_2, cd_other k2_3⟩ | exact ⟨ca_other k0_0, ca_other k0_1, ca_other k0_2, ca_other k0_3, ca_other k0_4, ca_other k0_5, ca_other k0_6, ca_other k0_7, ca_other k1_0, ca_other k1_1, ca_other k1_2, ca_other k1_3, ca_other k1_4, ca_other k1_5, ca_other k1_6, ca_other k1_7, ca_other k2_0, ca_other k2_1, ca_other k2_2, ca_other k2_3⟩ | fail))
        (first
        | (go_at_call 83; refine (mixPS y.1 v.1 t p q z _ ?_ ((unhide BP).mono (by omega)) ?_ ((unhide BQ).mono (by omega)) ?_ ((unhide KT).mono (by omega))).mono ?_; exact (unhide IP).later (Below.refl _ _).drew; exact (unhide IQ).later (Below.refl _ _).drew; exact (unhide IT).later (Below.refl _ _).drew; rintro e w2 ⟨u, rfl, hb, o1, o2⟩; have hbx : Below wr.heap.size wr w2 := below_of_drew hb; have szw2 := hbx.size; replace k0_0 := cell_later hbx k0_0; replace k0_1 := cell_later hbx k0_1; replace k0_2 := cell_later hbx k0_2; replace k0_3 := cell_later hbx k0_3; replace k0_4 := cell_later hbx k0_4; replace k0_5 := cell_later hbx k0_5; replace k0_6 := cell_later hbx k0_6; replace k0_7 := cell_later hbx k0_7; replace k1_0 := cell_later hbx k1_0; replace k1_1 := cell_later hbx k1_1; replace k1_2 := cell_later hbx k1_2; replace k1_3 := cell_later hbx k1_3; replace k1_4 := cell_later hbx k1_4; replace k1_5 := cell_later hbx k1_5; replace k1_6 := cell_later hbx k1_6; replace k1_7 := cell_later hbx k1_7; replace k2_0 := cell_later hbx k2_0; replace k2_1 := cell_later hbx k2_1; replace k2_2 := cell_later hbx k2_2; replace k2_3 := cell_later hbx k2_3; replace IP := hide ((unhide IP).later hbx); replace IQ := hide ((unhide IQ).later hbx); replace IT := hide ((unhide IT).later hbx); simp only [mx_eq] at o1 o2; obtain ⟨d, ty, ar, hd⟩ := owV_data (p := mxP z p q) o1 o2; have al : Below w2.heap.size w2 (w2.alloc (.cells #[.bool u.lo.num.g, .slice u.lo.num.a u.lo.num.n u.lo.num.c, .bool u.lo.den.g, .slice u.lo.den.a u.lo.den.n u.lo.den.c, .bool u.hi.num.g, .slice u.hi.num.a u.hi.num.n u.hi.num.c, .bool u.hi.den.g, .slice u.hi.den.a u.hi.den.n u.hi.den.c] 43)) := (Below.refl _ _).alloc (Nat.le_refl _) _; have GW3 := hide (((unhide GW0).later hbx).later al); have TY3 := hide (ty.later al); have AR3 := hide (ar.later al); have HB3 := hide (below_on (below_on (unhide HBq) hbx) al); have HD := hide hd; clear al ty ar hd; have HBr := hide hbx; clear hbx hb o1 o2)
        | (refine stepZ rfl (.tmp 14) (.tmp 26) rfl w0.heap.size _ us rfl (unhide GW3) w2.heap.size u d rfl (heap_alloc_new _ _) (unhide TY3) (unhide AR3) (by omega) (by simp; omega) ?_; intro g cap w3 hG hgrow; have HB4 := hide (GwZ.bel (unhide GW3) (unhide HB3) (Nat.le_refl _) hgrow); have GW4 := hide hG; replace k0_0 := ((unhide HB4).cell (p := ⟨b, off + i * 8, none⟩) hb).trans ((unhide Y0).1); replace k0_1 := ((unhide HB4).cell (p := ⟨b, off + i * 8 + 1, none⟩) hb).trans ((unhide Y0).2.1); replace k0_2 := ((unhide HB4).cell (p := ⟨b, off + i * 8 + 2, none⟩) hb).trans ((unhide Y0).2.2.1); replace k0_3 := ((unhide HB4).cell (p := ⟨b, off + i * 8 + 3, none⟩) hb).trans ((unhide Y0).2.2.2.1); replace k0_4 := ((unhide HB4).cell (p := ⟨b, off + i * 8 + 4, none⟩) hb).trans ((unhide Y0).2.2.2.2.1); replace k0_5 := ((unhide HB4).cell (p := ⟨b, off + i * 8 + 5, none⟩) hb).trans ((unhide Y0).2.2.2.2.2.1); replace k0_6 := ((unhide HB4).cell (p := ⟨b, off + i * 8 + 6, none⟩) hb).trans ((unhide Y0).2.2.2.2.2.2.1); replace k0_7 := ((unhide HB4).cell (p := ⟨b, off + i * 8 + 7, none⟩) hb).trans ((unhide Y0).2.2.2.2.2.2.2); replace k1_0 := ((unhide HB4).cell (p := ⟨b, off + (i + 1) * 8, none⟩) hb).trans ((unhide V0).1); replace k1_1 := ((unhide HB4).cell (p := ⟨b, off + (i + 1) * 8 + 1, none⟩) hb).trans ((unhide V0).2.1); replace k1_2 := ((unhide HB4).cell (p := ⟨b, off + (i + 1) * 8 + 2, none⟩) hb).trans ((unhide V0).2.2.1); replace k1_3 := ((unhide HB4).cell (p := ⟨b, off + (i + 1) * 8 + 3, none⟩) hb).trans ((unhide V0).2.2.2.1); replace k1_4 := ((unhide HB4).cell (p := ⟨b, off + (i + 1) * 8 + 4, none⟩) hb).trans ((unhide V0).2.2.2.2.1); replace k1_5 := ((unhide HB4).cell (p := ⟨b, off + (i + 1) * 8 + 5, none⟩) hb).trans ((unhide V0).2.2.2.2.2.1); replace k1_6 := ((unhide HB4).cell (p := ⟨b, off + (i + 1) * 8 + 6, none⟩) hb).trans ((unhide V0).2.2.2.2.2.2.1); replace k1_7 := ((unhide HB4).cell (p := ⟨b, off + (i + 1) * 8 + 7, none⟩) hb).trans ((unhide V0).2.2.2.2.2.2.2); replace k2_0 := ((unhide HB4).cell (p := ⟨w.heap.size, 0, none⟩) lt0).trans ((unhide TC).1); replace k2_1 := ((unhide HB4).cell (p := ⟨w.heap.size, 1, none⟩) lt0).trans ((unhide TC).2.1); replace k2_2 := ((unhide HB4).cell (p := ⟨w.heap.size, 2, none⟩) lt0).trans ((unhide TC).2.2.1); replace k2_3 := ((unhide HB4).cell (p := ⟨w.heap.size, 3, none⟩) lt0).trans ((unhide TC).2.2.2); clear hG hgrow))
      have AT2 : Hid (∀ j p q, j < i + 1 → ps[j]? = some p → ps[j + 1]? = some q → AtZ (us ++ [(u, d)]) j (mxP z p q)) := hide (fun j p' q' hj hp hq => by
        by_cases e : j = i
        · subst e
          rw [(unhide PV).1] at hp
          rw [(unhide PV).2] at hq
          obtain rfl := Option.some.inj hp
          obtain rfl := Option.some.inj hq
          exact atZ_new hu (unhide HD)
        · exact ((unhide AT) j p' q' (by omega) hp hq).left)
      clear k0_0 k0_1 k0_2 k0_3 k0_4 k0_5 k0_6 k0_7 k1_0 k1_1 k1_2 k1_3 k1_4 k1_5 k1_6 k1_7 k2_0 k2_1 k2_2 k2_3 HBr IP IQ IT GW0 GW3 HB3 HBq
      have hul : us.length + 1 = i + 1 := by omega
      rw [hul] at GW4 ⊢
      go_wp2
      go_roundw
      case rel => exact ⟨i + 1, us ++ [(u, d)], by omega, by go_num, by simp [hu], AT2, GW4, HB4⟩
      case measure => simp [intOf]; omega
    · obtain rfl : n = i + 1 := by omega
      have hlt' : ¬ ((i : Int) + 1 < ((i + 1 : Nat) : Int)) := by omega
      have iw : IntKind.i64.wrap ((i : Int) + 1) = (i : Int) + 1 := by rw [IntKind.wrap_i64]; omega
      have IC : Hid (IsC (mxR z ps) (us.map Prod.snd)) := hide (atZ_isC (by unfold mxR; rw [hu, zw_len, unhide LP]; omega) (fun k x hx => by
        have hk : k < i := by have := (List.getElem?_eq_some_iff.1 hx).1; unfold mxR at this; rw [zw_len, unhide LP] at this; omega
        obtain ⟨p, hp⟩ : ∃ p, ps[k]? = some p := ⟨_, List.getElem?_eq_getElem (by rw [unhide LP]; omega)⟩
        obtain ⟨q, hq⟩ : ∃ q, ps[k + 1]? = some q := ⟨_, List.getElem?_eq_getElem (by rw [unhide LP]; omega)⟩
        unfold mxR at hx
        rw [zw_get _ ps hp hq] at hx
        obtain rfl := Option.some.inj hx
        exact (unhide AT) k p q hk hp hq))
      have TY := hide (unhide GW).typ
      obtain ⟨a3, c3, e3, _, p3⟩ := (unhide GW).arg
      rw [hu] at e3 p3
      subst e3
      have P3 := hide p3
      clear p3 GW
      have HBe := hide (below_on (unhide KB) (unhide HB))
      go_wp2
      go_ret
      exact ⟨_, _, _, us, rfl, unhide HBe, ⟨unhide P3, unhide IC⟩, unhide TY⟩
end Go.Proofs.YthmpikagenodjaaGreat
