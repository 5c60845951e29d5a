/- Chapter 10 of the program: the set that rises: put, risingPts. No condition beyond those typed. No condition beyond those typed. Written by mkrs10.py. -/
import Derived.Test.YtgoiodhofbkkdaaBs10
namespace Go.Proofs.Ytgoiodhofbkkdaa
open Go.RowKit
set_option linter.unusedVariables false
set_option maxRecDepth 100000
set_option linter.unusedSimpArgs false

theorem RwP.other {B : Nat} {w w' : World} {v : Value} {L : List (Int × Int)} (h : RwP B w v L) (hb : ∀ g, B ≤ g → w'.heap[g]? = w.heap[g]?) : RwP B w' v L := by
  refine ⟨h.row.1, ?_⟩
  rcases h.row.2 with h' | ⟨g', cap, cur, hv, h1, hg, r⟩
  · exact .inl h'
  · exact .inr ⟨g', cap, cur, hv, h1, by rw [hb g' h1]; exact hg, r⟩
theorem set_other {w : World} {s k g : Nat} {x : Value} (hne : g ≠ s) : (w.setCell ⟨s, k, none⟩ x).heap[g]? = w.heap[g]? := by
  have hs : (w.setCell ⟨s, k, none⟩ x).heap.size = w.heap.size := by simp [World.setCell]
  have := (But.refl (s) (s + 1) w).set (p := ⟨s, k, none⟩) (Nat.le_refl s) (Nat.lt_succ_self s) x
  by_cases h : g < w.heap.size
  · exact this.block g h (by omega)
  · rw [Array.getElem?_eq_none (xs := w.heap) (by omega), Array.getElem?_eq_none (by omega)]
theorem ins_fnd {L : List (Int × Int)} {p : Int × Int} (h : fnd L p = true) : insP L p = L := by
  unfold fnd at h
  rw [Bool.and_eq_true, decide_eq_true_eq, decide_eq_true_eq] at h
  rw [ins_at, if_pos h]
theorem ins_put {L : List (Int × Int)} {p : Int × Int} (h : fnd L p = false) : insP L p = L.take (posP L p) ++ p :: L.drop (posP L p) := by
  rw [ins_at, if_neg]
  rintro ⟨h1, h2⟩
  unfold fnd at h
  rw [decide_eq_true h1, decide_eq_true h2] at h
  cases h
theorem pos_le (L : List (Int × Int)) (p : Int × Int) : posP L p ≤ L.length := by
  unfold posP
  exact (List.takeWhile_prefix _).length_le
theorem RwP.sl_at {B : Nat} {w : World} {a : Option Addr} {c n : Nat} {L : List (Int × Int)} (h : RwP B w (.slice a n c) L) : SlP w a L := by
  obtain ⟨a2, c2, e, hs⟩ := h.sl
  cases e
  exact hs
theorem sc_other {w : World} {s k j : Nat} {x v : Value} (h : w.cell? ⟨s, j, none⟩ = some v) (hne : k ≠ j) : (w.setCell ⟨s, k, none⟩ x).cell? ⟨s, j, none⟩ = some v := by
  rw [World.cell?_setCell_other]
  · exact h
  · intro e
    cases e
    exact hne rfl
theorem sc_same {w : World} {s k : Nat} {x v : Value} (h : w.cell? ⟨s, k, none⟩ = some v) : (w.setCell ⟨s, k, none⟩ x).cell? ⟨s, k, none⟩ = some x := by
  apply World.cell?_setCell_same
  exact h
theorem below_of_grown {B : Nat} {w0 w w' : World} {r : Option Nat} (h : Below w0.heap.size w0 w) (hg : w.grownBy w' r) (hr : ∀ k, r = some k → B ≤ k) (hB : B ≤ w0.heap.size) : Below B w0 w' :=
  ⟨hg.os.trans h.os, hg.tape.trans h.tape, hg.output.trans h.output, Nat.le_trans h.size hg.size, fun k hk => (hg.block k (by have := h.size; omega) (fun e => by have := hr k e.symm; omega)).trans (h.block k (by omega))⟩
theorem own_lt {B : Nat} {w : World} {v : Value} {L : List (Int × Int)} (h : RwP B w v L) : ∀ k, v.ownBlock = some k → B ≤ k ∧ k < w.heap.size := h.row.lt
set_option maxHeartbeats 4000000 in
theorem putI (B SB : Nat) (v : Value) (L : List (Int × Int)) (p : Int × Int) (w : World) (h : RwP B w v L) (hr : Rise L) (hl : L.length ≤ 99) (hSB : SB < B) (hB : B ≤ w.heap.size)
    (f0 : w.cell? ⟨SB, 0, none⟩ = some (.func (Fn.func 75) #[] #[])) (f1 : w.cell? ⟨SB, 1, none⟩ = some v) (ff : w.frozen? ⟨SB, 1, none⟩ = false) :
    Calls Try.prog 84 #[.pointer (some ⟨SB, 0, none⟩), .agg #[.int .i64 p.1, .int .i64 p.2]] w fun e w' => (∃ r, e = .returned r) ∧ ∃ v', RwP B w' v' (insP L p) ∧ w'.cell? ⟨SB, 0, none⟩ = some (.func (Fn.func 75) #[] #[]) ∧ w'.cell? ⟨SB, 1, none⟩ = some v' ∧ w'.frozen? ⟨SB, 1, none⟩ = false ∧ Below SB w w' := by
  obtain ⟨a, c, rfl, hsl⟩ := h.sl
  have al : Below w.heap.size w (w.alloc (.cells #[.int .i64 p.1, .int .i64 p.2] 31)) := (Below.refl _ _).alloc (Nat.le_refl _) _
  have KP : (w.alloc (.cells #[.int .i64 p.1, .int .i64 p.2] 31)).cell? ⟨w.heap.size, 0, none⟩ = some (.int .i64 p.1) ∧ (w.alloc (.cells #[.int .i64 p.1, .int .i64 p.2] 31)).cell? ⟨w.heap.size, 1, none⟩ = some (.int .i64 p.2) := by simp [go_sem]
  have e0 := KP.1
  have e1 := KP.2
  replace f0 := cell_later al f0
  replace f1 := cell_later al f1
  have sbw : SB < w.heap.size := by omega
  replace ff : (w.alloc (.cells #[.int .i64 p.1, .int .i64 p.2] 31)).frozen? ⟨SB, 1, none⟩ = false := (al.frozen (p := ⟨SB, 1, none⟩) sbw).trans ff
  have HB := hide al
  have RW := hide (h.later al)
  have CB := hide (fun w (k : SlP w a L) => bsI a L.length c L p w k rfl (by omega) hr)
  have PL := hide (pos_le L p)
  clear KP al h hsl hr
  have LL : Hid (L.length ≤ 99) := hide hl
  have BW : B ≤ (w.alloc (.cells #[.int .i64 p.1, .int .i64 p.2] 31)).heap.size := by simp; omega
  have ltX : w.heap.size < (w.alloc (.cells #[.int .i64 p.1, .int .i64 p.2] 31)).heap.size := by simp
  have sb2 : SB < (w.alloc (.cells #[.int .i64 p.1, .int .i64 p.2] 31)).heap.size := by simp; omega
  cases hf : fnd L p
  · rw [hf] at CB
    have EI := hide (ins_put hf)
    clear hf
    go_enter Try.func84, Try.ntmps84
    go_upto_region 1 with fail
    generalize hX : w.heap.size = PX at *
    generalize w.alloc (.cells #[.int .i64 p.1, .int .i64 p.2] 31) = w2 at *
    replace HB : Hid (Below w.heap.size w w2) := hide (by rw [hX]; exact unhide HB)
    have HX := hide hX
    clear hX
    have HX0 : Hid True := hide trivial
    go_region_held3 (fun w' => w'.cell? ⟨SB, 0, none⟩ = some (.func (Fn.func 75) #[] #[]) ∧ w'.cell? ⟨SB, 1, none⟩ = some (.slice a L.length c) ∧ w'.cell? ⟨PX, 0, none⟩ = some (.int .i64 p.1) ∧ w'.cell? ⟨PX, 1, none⟩ = some (.int .i64 p.2))
      (with_reducible (first | exact ⟨f0, f1, e0, e1⟩ | exact ⟨cdP f0, cdP f1, cdP e0, cdP e1⟩ | fail))
      (first
      | (have chk := HX0; go_at_call 98; refine (unhide CB _ ((unhide RW).sl_at.later (Below.refl _ _).drew)).mono ?_; rintro e w5 ⟨rfl, hb1⟩; have hbx := below_of_drew hb1; replace f0 := cell_later hbx f0; replace f1 := cell_later hbx f1; replace e0 := cell_later hbx e0; replace e1 := cell_later hbx e1; replace ff := (hbx.frozen (p := ⟨SB, 1, none⟩) sb2).trans ff; replace sb2 := Nat.lt_of_lt_of_le sb2 hbx.size; replace RW := hide ((unhide RW).later hbx); replace BW := Nat.le_trans BW hbx.size; replace ltX := Nat.lt_of_lt_of_le ltX hbx.size; replace HB := hide (below_on (unhide HB) hbx); clear hb1 hbx HX0 chk)
      | fail)
    generalize posP L p = k at *
    have al5 : Below w5.heap.size w5 ((w5.alloc (.cells #[.int .i64 p.1, .int .i64 p.2] 31)).drew) := ((Below.refl _ _).alloc (Nat.le_refl _) _).drew
    have RW6 := hide ((unhide RW).later al5)
    have V6 : Hid (((w5.alloc (.cells #[.int .i64 p.1, .int .i64 p.2] 31)).drew).heap[w5.heap.size]? = some (.cells #[.int .i64 p.1, .int .i64 p.2] 31 (0, 0))) := hide (heap_alloc_new w5 _)
    have NE : Hid ((Value.slice a L.length c).ownBlock ≠ some w5.heap.size) := hide (fun e => by have := (own_lt (unhide RW) _ e).2; omega)
    have NS : Hid (some SB ≠ (Value.slice a L.length c).ownBlock) := hide (fun e => by have := (own_lt (unhide RW) _ e.symm).1; omega)
    have CI := hide (insI B k w5.heap.size (.slice a L.length c) L p ((w5.alloc (.cells #[.int .i64 p.1, .int .i64 p.2] 31)).drew) (unhide RW6) (unhide PL) (by have := unhide LL; omega) (Nat.le_trans BW al5.size) (unhide V6) (unhide NE))
    have F6 : Hid (((w5.alloc (.cells #[.int .i64 p.1, .int .i64 p.2] 31)).drew).cell? ⟨SB, 0, none⟩ = some (.func (Fn.func 75) #[] #[]) ∧ ((w5.alloc (.cells #[.int .i64 p.1, .int .i64 p.2] 31)).drew).cell? ⟨SB, 1, none⟩ = some (.slice a L.length c) ∧ ((w5.alloc (.cells #[.int .i64 p.1, .int .i64 p.2] 31)).drew).frozen? ⟨SB, 1, none⟩ = false ∧ SB < ((w5.alloc (.cells #[.int .i64 p.1, .int .i64 p.2] 31)).drew).heap.size) := hide ⟨cell_later al5 f0, cell_later al5 f1, (al5.frozen (p := ⟨SB, 1, none⟩) sb2).trans ff, Nat.lt_of_lt_of_le sb2 al5.size⟩
    have HB6 := hide (below_on (unhide HB) al5)
    clear al5 V6 NE RW6
    go_upto_region 3 with fail
    go_region_with (first | (go_at_call 99; refine (unhide CI).mono ?_; rintro e w7 ⟨v', rfl, rn, gr⟩; rw [← unhide EI] at rn; obtain ⟨a', c', rfl, _⟩ := rn.sl; generalize (insP L p).length = n' at *; have RN := hide rn; have GR := hide gr; have t0 := gr.cell (unhide F6).1 (unhide NS); have t1 := gr.cell (unhide F6).2.1 (unhide NS); have t2 := (World.frozen?_of_block (a := ⟨SB, 1, none⟩) (gr.block SB (unhide F6).2.2.2 (unhide NS))).trans (unhide F6).2.2.1; clear rn gr) | fail)
    all_goals
      go_end0
      refine ⟨⟨_, rfl⟩, _, (unhide RN).other (fun g hg => set_other (by omega)), ?_, ?_, ?_, ?_⟩
      · exact sc_other t0 (by omega)
      · exact sc_same t1
      · rw [World.frozen?_setCell]; exact t2
      · exact ((below_of_grown (B := SB) (unhide HB6) (unhide GR) (fun k hk => by have := (own_lt (unhide RW) k hk).1; omega) (by rw [unhide HX]; omega)).setCell (Nat.le_refl _) _)
  · rw [hf] at CB
    have EI := hide (ins_fnd hf)
    clear hf
    go_enter Try.func84, Try.ntmps84
    go_upto_region 1 with fail
    generalize hX : w.heap.size = PX at *
    generalize w.alloc (.cells #[.int .i64 p.1, .int .i64 p.2] 31) = w2 at *
    replace HB : Hid (Below w.heap.size w w2) := hide (by rw [hX]; exact unhide HB)
    have HX := hide hX
    have HSB : Hid (SB < w.heap.size) := hide (by rw [hX]; exact sbw)
    clear hX
    have HX0 : Hid True := hide trivial
    go_region_held3 (fun w' => w'.cell? ⟨SB, 0, none⟩ = some (.func (Fn.func 75) #[] #[]) ∧ w'.cell? ⟨SB, 1, none⟩ = some (.slice a L.length c) ∧ w'.cell? ⟨PX, 0, none⟩ = some (.int .i64 p.1) ∧ w'.cell? ⟨PX, 1, none⟩ = some (.int .i64 p.2))
      (with_reducible (first | exact ⟨f0, f1, e0, e1⟩ | exact ⟨cdP f0, cdP f1, cdP e0, cdP e1⟩ | fail))
      (first
      | (have chk := HX0; go_at_call 98; refine (unhide CB _ ((unhide RW).sl_at.later (Below.refl _ _).drew)).mono ?_; rintro e w5 ⟨rfl, hb1⟩; have hbx := below_of_drew hb1; replace f0 := cell_later hbx f0; replace f1 := cell_later hbx f1; replace e0 := cell_later hbx e0; replace e1 := cell_later hbx e1; replace ff := (hbx.frozen (p := ⟨SB, 1, none⟩) sb2).trans ff; replace sb2 := Nat.lt_of_lt_of_le sb2 hbx.size; replace RW := hide ((unhide RW).later hbx); replace BW := Nat.le_trans BW hbx.size; replace ltX := Nat.lt_of_lt_of_le ltX hbx.size; replace HB := hide (below_on (unhide HB) hbx); clear hb1 hbx HX0 chk)
      | fail)
    have FF := hide (And.intro f0 (And.intro f1 ff))
    clear f0 f1 ff e0 e1
    go_wp2
    go_end0
    exact ⟨⟨_, rfl⟩, _, by rw [unhide EI]; exact unhide RW, (unhide FF).1, (unhide FF).2.1, (unhide FF).2.2, (unhide HB).mono (Nat.le_of_lt (unhide HSB))⟩
theorem fold_rise' (l : List (Int × Int)) : Rise (l.foldl insP []) := fold_rise (by simp [Rise])
theorem fold_len : ∀ (l m : List (Int × Int)), (l.foldl insP m).length ≤ m.length + l.length
  | [], m => by simp
  | p :: l, m => by
    have h1 := fold_len l (insP m p)
    have h2 := ins_len p m
    rw [List.foldl_cons]
    simp
    omega
theorem below_on' {w w1 w2 : World} {SB : Nat} (h : Below w.heap.size w w1) (e : w.heap.size = SB) (k : Below SB w1 w2) : Below w.heap.size w w2 := by
  subst e
  exact h.trans k
/-- The set in its block. -/
structure StP (SB : Nat) (w : World) (L : List (Int × Int)) : Prop where
  v : ∃ v, RwP (SB + 1) w v L ∧ w.cell? ⟨SB, 1, none⟩ = some v
  f : w.cell? ⟨SB, 0, none⟩ = some (.func (Fn.func 75) #[] #[])
  fr : w.frozen? ⟨SB, 1, none⟩ = false
  lt : SB < w.heap.size
theorem StP.later {SB : Nat} {w w' : World} {L : List (Int × Int)} (h : StP SB w L) (hb : Below w.heap.size w w') : StP SB w' L := by
  obtain ⟨v, h1, h2⟩ := h.v
  exact ⟨⟨v, h1.later hb, cell_later hb h2⟩, cell_later hb h.f, (hb.frozen (p := ⟨SB, 1, none⟩) h.lt).trans h.fr, Nat.lt_of_lt_of_le h.lt hb.size⟩
theorem putS (SB : Nat) (L : List (Int × Int)) (p : Int × Int) (w : World) (h : StP SB w L) (hr : Rise L) (hl : L.length ≤ 99) :
    Calls Try.prog 84 #[.pointer (some ⟨SB, 0, none⟩), .agg #[.int .i64 p.1, .int .i64 p.2]] w fun e w' => (∃ r, e = .returned r) ∧ StP SB w' (insP L p) ∧ Below SB w w' := by
  obtain ⟨v, h1, h2⟩ := h.v
  refine (putI (SB + 1) SB v L p w h1 hr hl (Nat.lt_succ_self _) h.lt h.f h2 h.fr).mono ?_
  rintro e w' ⟨he, v', r1, r2, r3, r4, r5⟩
  exact ⟨he, ⟨⟨v', r1, r3⟩, r2, r4, Nat.lt_of_lt_of_le h.lt r5.size⟩, r5⟩
set_option maxHeartbeats 4000000 in
theorem risingI (a : Option Addr) (n c : Nat) (l : List (Int × Int)) (w : World) (h : SlP w a l) (hn : l.length = n) (h1 : n ≤ 99) :
    Calls Try.prog 49 #[.slice a n c] w fun e w' => ∃ v, e = .returned v ∧ Below w.heap.size w w' ∧ RwP w.heap.size w' v (sortP l) := by
  have HS := hide h
  have HN := hide hn
  have hst : (store ⟨w.heap.size, 0, none⟩ (.func (Fn.func 75) #[] #[])).run Try.prog (w.alloc (.cells #[.nilFunc, .slice none 0 0] 88)) = .ok () ((w.alloc (.cells #[.nilFunc, .slice none 0 0] 88)).setCell ⟨w.heap.size, 0, none⟩ (.func (Fn.func 75) #[] #[])) := by
    rw [run_store Try.prog _ _ _ _ (by rfl)]
    simp [go_sem]
  have S0 : Hid (StP w.heap.size (w.alloc (.cells #[.func (Fn.func 75) #[] #[], .slice none 0 0] 88)) []) := hide ⟨⟨_, RwP.nil _ _, by simp [go_sem]⟩, by simp [go_sem], by simp [go_sem], by simp⟩
  have B0 : Hid (Below w.heap.size w (w.alloc (.cells #[.func (Fn.func 75) #[] #[], .slice none 0 0] 88))) := hide ((Below.refl _ _).alloc (Nat.le_refl _) _)
  clear h hn
  go_enter Try.func49, Try.ntmps49
  go_upto_region 2 with fail
  clear hst
  generalize w.alloc (.cells #[.func (Fn.func 75) #[] #[], .slice none 0 0] 88) = w1 at *
  generalize hSB : w.heap.size = SB at *
  have HSB := hide hSB
  replace B0 : Hid (Below w.heap.size w w1) := hide (by rw [hSB]; exact unhide B0)
  clear hSB
  go_wp2
  go_loopw [9] (fun iv wr => ∃ i : Nat, i ≤ n ∧ iv = .int .i64 i ∧ Hid (StP SB wr ((l.take i).foldl insP [])) ∧ Hid (Below SB w1 wr)) (fun iv _ => n - (intOf iv).toNat)
  case atStart => exact ⟨0, Nat.zero_le _, rfl, hide (by simpa using unhide S0), hide (Below.refl _ _)⟩
  case round =>
    clear S0
    obtain ⟨i, hi, rfl, HT, HB⟩ := hrel
    by_cases hlt : i < n
    · have hlt' : (i : Int) < (n : Int) := by omega
      rcases (unhide HS) with e | ⟨b, off, rfl, hb, hc⟩
      · exact absurd (unhide HN) (by rw [e]; simp; omega)
      have e0 := hc i (by rw [unhide HN]; exact hlt)
      have EC : Hid ((l.take (i + 1)).foldl insP [] = insP ((l.take i).foldl insP []) (l[i]'(by rw [unhide HN]; exact hlt))) := hide (by rw [List.take_succ_eq_append_getElem (by rw [unhide HN]; exact hlt), List.foldl_append]; rfl)
      have RS := hide (fold_rise' (l.take i))
      have LS : Hid (((l.take i).foldl insP []).length ≤ 99) := hide (by have := fold_len (l.take i) []; simp at this; omega)
      generalize l[i]'(by rw [unhide HN]; exact hlt) = p at *
      generalize (l.take i).foldl insP [] = S at *
      have bS : b < SB := by rw [← unhide HSB]; exact hb
      have E0 : wr.cell? ⟨b, off + i * 2, none⟩ = some (.int .i64 p.1) := ((unhide HB).cell (p := ⟨b, off + i * 2, none⟩) bS).trans (((unhide B0).cell (p := ⟨b, off + i * 2, none⟩) hb).trans e0.1)
      have E1 : wr.cell? ⟨b, off + i * 2 + 1, none⟩ = some (.int .i64 p.2) := ((unhide HB).cell (p := ⟨b, off + i * 2 + 1, none⟩) bS).trans (((unhide B0).cell (p := ⟨b, off + i * 2 + 1, none⟩) hb).trans e0.2)
      clear e0 hc
      have al : Below wr.heap.size wr (wr.alloc (.cells #[.int .i64 p.1, .int .i64 p.2] 31)) := (Below.refl _ _).alloc (Nat.le_refl _) _
      have HT2 := hide ((unhide HT).later al)
      have HB2 := hide ((unhide HB).trans (al.mono (Nat.le_of_lt (unhide HT).lt)))
      clear al HT HB
      have k0 : (wr.alloc (.cells #[.int .i64 p.1, .int .i64 p.2] 31)).cell? ⟨wr.heap.size, 0, none⟩ = some (.int .i64 p.1) := by simp [go_sem]
      have k1 : (wr.alloc (.cells #[.int .i64 p.1, .int .i64 p.2] 31)).cell? ⟨wr.heap.size, 1, none⟩ = some (.int .i64 p.2) := by simp [go_sem]
      go_upto_region 5 with fail
      clear E0 E1
      generalize wr.alloc (.cells #[.int .i64 p.1, .int .i64 p.2] 31) = w3 at *
      go_wp2_with fail
      refine (putS SB S p _ (unhide HT2) (unhide RS) (unhide LS)).mono ?_
      rintro e w4 ⟨⟨r, rfl⟩, ht, hb4⟩
      have HT3 := hide ht
      have HB3 := hide ((unhide HB2).trans hb4)
      clear ht hb4 k0 k1 HT2 HB2
      go_wp2
      go_roundw
      case rel => exact ⟨i + 1, by omega, by go_num, by rw [unhide EC]; exact HT3, HB3⟩
      case measure => simp [intOf]; omega
    · obtain rfl : i = n := by omega
      have EN : Hid ((l.take i).foldl insP [] = sortP l) := hide (by rw [← unhide HN, List.take_length]; rfl)
      rw [unhide EN] at HT
      obtain ⟨v, hv, hc⟩ := (unhide HT).v
      obtain ⟨a', c', rfl, _⟩ := hv.sl
      have HV := hide hv
      clear hv
      go_wp2
      go_ret
      exact ⟨_, rfl, below_on' (unhide B0) (unhide HSB) (unhide HB), by rw [unhide HSB]; exact (unhide HV).mono (Nat.le_succ _)⟩
end Go.Proofs.Ytgoiodhofbkkdaa
