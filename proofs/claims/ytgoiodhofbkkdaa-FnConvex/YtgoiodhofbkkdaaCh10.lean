/- Chapter 10 of the specification: rows of points that grow and are cut; chains. No condition beyond those typed. Written by mkch10.py. -/
import Derived.Test.YtgoiodhofbkkdaaSrt10
import Derived.Test.YtgoiodhofbkkdaaSpl9
import Derived.Test.YtgoiodhofbkkdaaSeg8
namespace Go.Proofs.Ytgoiodhofbkkdaa
open Go.RowKit
set_option linter.unusedVariables false
set_option maxRecDepth 100000
set_option linter.unusedSimpArgs false

/-- A row of points of one's own, in a block from B on (or the nil slice). -/
structure RwP (B : Nat) (w : World) (v : Value) (L : List (Int × Int)) : Prop where
  row : w.ownsRow B 31 2 v L.length (flatP L)
theorem RwP.later {B : Nat} {w w' : World} {v : Value} {L : List (Int × Int)} (h : RwP B w v L) (hb : Below w.heap.size w w') : RwP B w' v L := by
  refine ⟨h.row.1, ?_⟩
  rcases h.row.2 with h' | ⟨g', cap, cur, hv, h1, hg, r⟩
  · exact .inl h'
  · refine .inr ⟨g', cap, cur, hv, h1, ?_, r⟩
    rw [hb.block g' (Array.getElem?_eq_some_iff.1 hg).1]
    exact hg
theorem RwP.nil (B : Nat) (w : World) : RwP B w (.slice none 0 0) [] := ⟨rfl, .inl ⟨rfl, rfl⟩⟩
theorem RwP.open {B : Nat} {w : World} {v : Value} {L : List (Int × Int)} (h : RwP B w v L) :
    (v = .slice none 0 0 ∧ L = []) ∨ ∃ g c, v = .slice (some ⟨g, 0, none⟩) L.length c ∧ B ≤ g ∧ g < w.heap.size ∧ L.length ≤ c ∧ c ≤ maxLen ∧ ∀ i (h : i < L.length), w.cell? ⟨g, i * 2, none⟩ = some (.int .i64 L[i].1) ∧ w.cell? ⟨g, i * 2 + 1, none⟩ = some (.int .i64 L[i].2) := by
  rcases h.row.2 with h' | ⟨g, c, cur, hv, h1, hg, h2, h3, h4, h5⟩
  · exact .inl ⟨h'.1, List.length_eq_zero_iff.1 h'.2⟩
  · have ho := h.row
    rw [hv] at ho
    refine .inr ⟨g, c, hv, h1, (Array.getElem?_eq_some_iff.1 hg).1, h2, h3, fun i hi => ?_⟩
    have f := flatP_at L i hi
    have fl := flat_len L
    exact ⟨by rw [ho.cellAt _ (by omega)]; exact f.1, by rw [ho.cellAt _ (by omega)]; exact f.2⟩
theorem flat_take : ∀ (L : List (Int × Int)) (k : Nat), flatP (L.take k) = (flatP L).take (k * 2)
  | [], k => by simp [flatP]
  | p :: L, 0 => by simp [flatP]
  | p :: L, k + 1 => by
    rw [List.take_succ_cons, show flatP (p :: L.take k) = .int .i64 p.1 :: .int .i64 p.2 :: flatP (L.take k) by simp [flatP], flat_take L k, show flatP (p :: L) = .int .i64 p.1 :: .int .i64 p.2 :: flatP L by simp [flatP], show (k + 1) * 2 = k * 2 + 1 + 1 by omega, List.take_succ_cons, List.take_succ_cons]
theorem RwP.cut {B g n c : Nat} {w : World} {L : List (Int × Int)} (h : RwP B w (.slice (some ⟨g, 0, none⟩) n c) L) {k : Nat} (hk : k ≤ L.length) : RwP B w (.slice (some ⟨g, 0, none⟩) k c) (L.take k) := by
  have hl : (L.take k).length = k := by simp; omega
  refine ⟨?_⟩
  rw [hl, flat_take]
  rcases h.row.2 with h' | ⟨g', c', cur, hv, h1, hg, h2, h3, h4, h5⟩
  · simp at h'
  · simp only [Value.slice.injEq, Option.some.injEq, Addr.mk.injEq, and_true, true_and] at hv
    obtain ⟨rfl, rfl, rfl⟩ := hv
    refine ⟨by have := flat_len L; simp [this]; omega, .inr ⟨g, c, cur, rfl, h1, hg, by omega, h3, h4, ?_⟩⟩
    rw [← h5, List.take_take]
    congr 1
    omega
theorem RwP.sl {B : Nat} {w : World} {v : Value} {L : List (Int × Int)} (h : RwP B w v L) : ∃ a c, v = .slice a L.length c ∧ SlP w a L := by
  rcases h.open with ⟨rfl, rfl⟩ | ⟨g, c, rfl, h1, h2, h3, h4, h5⟩
  · exact ⟨none, 0, rfl, .inl rfl⟩
  · exact ⟨_, c, rfl, .inr ⟨g, 0, rfl, h2, fun i hi => by simpa using h5 i hi⟩⟩
def slLen : Value → Nat
  | .slice _ n _ => n
  | _ => 0
/-- The last ones go till the last two and the point turn left (the last one first). -/
def popP (p : Int × Int) : List (Int × Int) → List (Int × Int)
  | q :: r :: s => if sgZ (crs r q p) ≤ 0 then popP p (r :: s) else q :: r :: s
  | s => s
def chR (l : List (Int × Int)) : List (Int × Int) := l.foldl (fun s p => p :: popP p s) []
def chainP (l : List (Int × Int)) : List (Int × Int) := (chR l).reverse
theorem chR_snoc (l : List (Int × Int)) (p : Int × Int) : chR (l ++ [p]) = p :: popP p (chR l) := by unfold chR; rw [List.foldl_append]; rfl
theorem pop_mem {p x : Int × Int} : ∀ {s : List (Int × Int)}, x ∈ popP p s → x ∈ s
  | [], h => h
  | [_], h => h
  | q :: r :: s, h => by
    unfold popP at h
    split at h
    · exact List.mem_cons_of_mem _ (pop_mem h)
    · exact h
theorem chR_mem {x : Int × Int} : ∀ {l s : List (Int × Int)}, x ∈ l.foldl (fun s p => p :: popP p s) s → x ∈ s ∨ x ∈ l
  | [], s, h => .inl h
  | p :: l, s, h => by
    rcases chR_mem (l := l) h with h | h
    · rcases List.mem_cons.1 h with rfl | h
      · exact .inr (by simp)
      · exact .inl (pop_mem h)
    · exact .inr (by simp [h])
theorem pop_len (p : Int × Int) : ∀ s : List (Int × Int), (popP p s).length ≤ s.length
  | [] => by simp [popP]
  | [_] => by simp [popP]
  | q :: r :: s => by
    unfold popP
    split
    · have := pop_len p (r :: s); simp at this ⊢; omega
    · exact Nat.le_refl _
theorem rev_last {q r : Int × Int} {s : List (Int × Int)} : (q :: r :: s).reverse[s.length]'(by simp) = r ∧ (q :: r :: s).reverse[s.length + 1]'(by simp) = q := by
  constructor
  · rw [List.getElem_reverse]; simp
  · rw [List.getElem_reverse]; simp
theorem rev_take {q : Int × Int} {s : List (Int × Int)} : (q :: s).reverse.take s.length = s.reverse := by simp
set_option maxHeartbeats 8000000 in
theorem chainS (a : Option Addr) (n c : Nat) (l : List (Int × Int)) (w : World) (h : SlP w a l) (hn : l.length = n) (h1 : n ≤ 100) (hg : ∀ p ∈ l, Near p) :
    Calls Try.prog 83 #[.slice a n c] w fun e w' => ∃ v, e = .returned v ∧ Below w.heap.size w w' ∧ RwP w.heap.size w' v (chainP l) := by
  obtain ⟨i0, hi, hz0, hz1, hz2⟩ := info_parts infoPt
  have HS := hide h
  have HN := hide hn
  have HG := hide hg
  clear h hn hg
  go_enter Try.func83, Try.ntmps83
  go_wp2
  go_loopw [3, 8] (fun v iv wr => ∃ i : Nat, i ≤ n ∧ iv = .int .i64 i ∧ Hid (RwP w.heap.size wr v (chR (l.take i)).reverse ∧ (chR (l.take i)).length ≤ i) ∧ Hid (Below w.heap.size w wr)) (fun _ iv _ => n - (intOf iv).toNat)
  case atStart => exact ⟨0, Nat.zero_le _, rfl, hide ⟨by simp [chR]; exact RwP.nil _ _, by simp [chR]⟩, hide (Below.refl _ _)⟩
  case round =>
    obtain ⟨i, hi', rfl, HR, HB⟩ := hrel
    by_cases hlt : i < n
    · have hlt' : (i : Int) < (n : Int) := by omega
      rcases (unhide HS) with e | ⟨b, off, rfl, hb, hc⟩
      · exact absurd (unhide HN) (by rw [e]; simp; omega)
      have e0 := hc i (by rw [unhide HN]; exact hlt)
      have EC : Hid (chR (l.take (i + 1)) = l[i]'(by rw [unhide HN]; exact hlt) :: popP (l[i]'(by rw [unhide HN]; exact hlt)) (chR (l.take i))) := hide (by rw [List.take_succ_eq_append_getElem (by rw [unhide HN]; exact hlt), chR_snoc])
      have np := unhide HG _ (List.getElem_mem (l := l) (n := i) (by rw [unhide HN]; exact hlt))
      have HGS : Hid (∀ x ∈ chR (l.take i), Near x) := hide (fun x hx => by rcases chR_mem hx with h | h; exact absurd h (by simp); exact unhide HG x (List.mem_of_mem_take h))
      generalize l[i]'(by rw [unhide HN]; exact hlt) = p at *
      generalize chR (l.take i) = s0 at *
      have E0 : wr.cell? ⟨b, off + i * 2, none⟩ = some (.int .i64 p.1) := ((unhide HB).cell (p := ⟨b, off + i * 2, none⟩) hb).trans (e0.1)
      have E1 : wr.cell? ⟨b, off + i * 2 + 1, none⟩ = some (.int .i64 p.2) := ((unhide HB).cell (p := ⟨b, off + i * 2 + 1, none⟩) hb).trans (e0.2)
      clear e0 hc
      have NP := hide np
      clear np
      have al : Below wr.heap.size wr (wr.alloc (.cells #[.int .i64 p.1, .int .i64 p.2] 31)) := (Below.refl _ _).alloc (Nat.le_refl _) _
      have HR2 := hide (And.intro ((unhide HR).1.later al) (unhide HR).2)
      have HB2 := hide (below_on (unhide HB) al)
      have KP : Hid ((wr.alloc (.cells #[.int .i64 p.1, .int .i64 p.2] 31)).cell? ⟨wr.heap.size, 0, none⟩ = some (.int .i64 p.1) ∧ (wr.alloc (.cells #[.int .i64 p.1, .int .i64 p.2] 31)).cell? ⟨wr.heap.size, 1, none⟩ = some (.int .i64 p.2)) := hide (by simp [go_sem])
      have ltP : wr.heap.size < (wr.alloc (.cells #[.int .i64 p.1, .int .i64 p.2] 31)).heap.size := by simp
      have ltW : w.heap.size ≤ wr.heap.size := (unhide HB).size
      clear al HR HB
      have HLT : Hid (s0.length ≤ i) := hide (unhide HR2).2
      have HR3 := hide (unhide HR2).1
      clear HR2
      obtain ⟨wo, hwo⟩ : ∃ x, x = wr := ⟨_, rfl⟩
      subst hwo
      go_wp2
      clear E0 E1
      generalize wo.alloc (.cells #[.int .i64 p.1, .int .i64 p.2] 31) = w2 at *
      generalize wo.heap.size = PX at *
      go_loopw [3] (fun v wr => ∃ s, Hid (RwP w.heap.size wr v s.reverse) ∧ Hid (popP p s = popP p s0 ∧ (∀ x ∈ s, Near x) ∧ s.length ≤ s0.length) ∧ Hid (Below w2.heap.size w2 wr)) (fun v _ => slLen v)
      case atStart => exact ⟨s0, HR3, hide ⟨rfl, unhide HGS, Nat.le_refl _⟩, hide (Below.refl _ _)⟩
      case round =>
        clear HR3
        obtain ⟨s, RW, HP, HB⟩ := hrel
        have e0 : wr.cell? ⟨PX, 0, none⟩ = some (.int .i64 p.1) := ((unhide HB).cell (p := ⟨PX, 0, none⟩) ltP).trans (unhide KP).1
        have e1 : wr.cell? ⟨PX, 1, none⟩ = some (.int .i64 p.2) := ((unhide HB).cell (p := ⟨PX, 1, none⟩) ltP).trans (unhide KP).2
        match s, RW, HP with
        | q :: r :: t, RW, HP =>
          rcases (unhide RW).open with ⟨_, h⟩ | ⟨g, cp, rfl, hB, hg, hcp, hcm, hce⟩
          · simp at h
          · have f0 := hce t.length (by simp)
            have f1 := hce (t.length + 1) (by simp)
            rw [rev_last.1] at f0
            rw [rev_last.2] at f1
            have len : (q :: r :: t).reverse.length = t.length + 2 := by simp
            rw [len] at hcp ⊢
            have RW2 : Hid (RwP w.heap.size wr (.slice (some ⟨g, 0, none⟩) (t.length + 2) cp) (q :: r :: t).reverse) := hide (by have := unhide RW; rw [len] at this; exact this)
            have CO := hide (fun w => orientS8 r q p w ((unhide HP).2.1 r (by simp)) ((unhide HP).2.1 q (by simp)) (unhide NP))
            have EP : Hid (popP p (q :: r :: t) = if sgZ (crs r q p) ≤ 0 then popP p (r :: t) else q :: r :: t) := hide (by rw [popP])
            generalize sgZ (crs r q p) = sg at *
            have RC := hide ((unhide RW2).cut (k := t.length + 1) (by simp))
            rw [show ((q :: r :: t).reverse.take (t.length + 1)) = (r :: t).reverse from rev_take (q := q) (s := r :: t)] at RC
            have kb : t.length + 2 ≤ 100 := by have h3 := (unhide HP).2.2; rw [show (q :: r :: t).length = t.length + 2 from rfl] at h3; have h4 := unhide HLT; omega
            have m2 : 2 ≤ t.length + 2 := by omega
            have km : t.length < t.length + 2 := by omega
            have k1m : t.length + 1 < t.length + 2 := by omega
            have i1 : IntKind.i64.wrap (((t.length + 2 : Nat) : Int) - 2) = ((t.length : Nat) : Int) := by rw [IntKind.wrap_i64]; omega
            have i2 : IntKind.i64.wrap (((t.length + 2 : Nat) : Int) - 1) = ((t.length + 1 : Nat) : Int) := by rw [IntKind.wrap_i64]; omega
            clear hce len RW
            have c0 := f0.1
            have c1 := f0.2
            have c2 := f1.1
            have c3 := f1.2
            clear f0 f1
            generalize t.length + 2 = m at *
            generalize t.length + 1 = k1 at *
            generalize t.length = k at *
            have d2 : decide ((2 : Int) ≤ (m : Int)) = true := decide_eq_true (by omega)
            have d3 : decide (2 ≤ m) = true := decide_eq_true m2
            have ltk : (k : Int) < (m : Int) := by omega
            have ltk2 : (k1 : Int) < (m : Int) := by omega
            have lcp : (k1 : Int) ≤ (cp : Int) := by omega
            by_cases hs : sg ≤ 0
            · have ds : decide (sg ≤ 0) = true := decide_eq_true hs
              have EP2 : Hid (popP p (q :: r :: t) = popP p (r :: t)) := hide (by rw [unhide EP, if_pos hs])
              clear EP hs
              go_upto_region 5 with fail
              have HX0 : Hid True := hide trivial
              go_region_held3 (fun w' => w'.cell? ⟨g, k * 2, none⟩ = some (.int .i64 r.1) ∧ w'.cell? ⟨g, k * 2 + 1, none⟩ = some (.int .i64 r.2) ∧ w'.cell? ⟨g, k1 * 2, none⟩ = some (.int .i64 q.1) ∧ w'.cell? ⟨g, k1 * 2 + 1, none⟩ = some (.int .i64 q.2) ∧ w'.cell? ⟨PX, 0, none⟩ = some (.int .i64 p.1) ∧ w'.cell? ⟨PX, 1, none⟩ = some (.int .i64 p.2))
                (with_reducible (first | exact ⟨c0, c1, c2, c3, e0, e1⟩ | exact ⟨cdP c0, cdP c1, cdP c2, cdP c3, cdP e0, cdP e1⟩ | fail))
                (first
                | (have chk := HX0; go_at_call 90; refine (unhide CO _).mono ?_; rintro e w5 ⟨rfl, hb1⟩; have hbx := below_of_drew hb1; replace c0 := cell_later hbx c0; replace c1 := cell_later hbx c1; replace c2 := cell_later hbx c2; replace c3 := cell_later hbx c3; replace e0 := cell_later hbx e0; replace e1 := cell_later hbx e1; replace RW2 := hide ((unhide RW2).later hbx); replace RC := hide ((unhide RC).later hbx); replace HB := hide (below_on (unhide HB) hbx); clear hb1 hbx; clear HX0 chk)
                | fail)
              clear c0 c1 c2 c3 e0 e1 CO
              go_wp2
              go_roundw
              case rel => exact ⟨r :: t, hide (unhide RC), hide ⟨by rw [← unhide EP2]; exact (unhide HP).1, fun x hx => (unhide HP).2.1 x (List.mem_cons_of_mem _ hx), by have := (unhide HP).2.2; simp at *; omega⟩, HB⟩
              case measure => simp only [slLen]; omega
            · have ds : decide (sg ≤ 0) = false := decide_eq_false hs
              replace EP : Hid (popP p (q :: r :: t) = q :: r :: t) := hide (by rw [unhide EP, if_neg hs])
              clear hs
              go_upto_region 5 with fail
              have HX0 : Hid True := hide trivial
              go_region_held3 (fun w' => w'.cell? ⟨g, k * 2, none⟩ = some (.int .i64 r.1) ∧ w'.cell? ⟨g, k * 2 + 1, none⟩ = some (.int .i64 r.2) ∧ w'.cell? ⟨g, k1 * 2, none⟩ = some (.int .i64 q.1) ∧ w'.cell? ⟨g, k1 * 2 + 1, none⟩ = some (.int .i64 q.2) ∧ w'.cell? ⟨PX, 0, none⟩ = some (.int .i64 p.1) ∧ w'.cell? ⟨PX, 1, none⟩ = some (.int .i64 p.2))
                (with_reducible (first | exact ⟨c0, c1, c2, c3, e0, e1⟩ | exact ⟨cdP c0, cdP c1, cdP c2, cdP c3, cdP e0, cdP e1⟩ | fail))
                (first
                | (have chk := HX0; go_at_call 90; refine (unhide CO _).mono ?_; rintro e w5 ⟨rfl, hb1⟩; have hbx := below_of_drew hb1; replace c0 := cell_later hbx c0; replace c1 := cell_later hbx c1; replace c2 := cell_later hbx c2; replace c3 := cell_later hbx c3; replace e0 := cell_later hbx e0; replace e1 := cell_later hbx e1; replace RW2 := hide ((unhide RW2).later hbx); replace RC := hide ((unhide RC).later hbx); replace HB := hide (below_on (unhide HB) hbx); clear hb1 hbx; clear HX0 chk)
                | fail)
              clear c0 c1 c2 c3 CO RC
              have LB : (q :: r :: t).reverse.length ≤ 100 := by have := (unhide HP).2.2; have := unhide HLT; simp at *; try omega
              have HBO := hide (below_on (unhide HB2) (unhide HB))
              have EL : Hid ((chR (l.take (i + 1))).reverse = (q :: r :: t).reverse ++ [p]) := hide (by rw [unhide EC, ← (unhide HP).1, unhide EP]; simp)
              have LL : Hid ((chR (l.take (i + 1))).length ≤ i + 1) := hide (by rw [unhide EC, ← (unhide HP).1, unhide EP]; have := (unhide HP).2.2; have := unhide HLT; simp at *; try omega)
              clear HP EP HB
              generalize (q :: r :: t).reverse = L at *
              go_wp2_with (at_builtin; refine wpList_append_own _ rfl (.tmp 37) (.tmp 39) 23 rfl w.heap.size 31 i0 (.agg #[.int .i64 0, .int .i64 0]) 2 16 Try.underlying23 hi hz0 hz1 hz2 rfl (by decide) _ _ _ rfl ((unhide RW2).row.alloc _) ⟨_, 0, none⟩ 1 1 [.int .i64 p.1, .int .i64 p.2] rfl rfl (new_cellP _ _ _) (fun u hu => by simp at hu; rcases hu with rfl | rfl <;> rfl) (by unfold maxLen; omega) (by omega) (by have := (unhide HBO).size; simp; omega) ?_)
              intro v' w6 hown hgr _
              have RN : Hid (RwP w.heap.size w6 v' (L ++ [p])) := hide ⟨by rw [flatP_append, show flatP [p] = [.int .i64 p.1, .int .i64 p.2] from flatP_one p.1 p.2, List.length_append]; exact hown⟩
              have HBN := hide (push_belowP (unhide HBO) (unhide HBO).size (unhide RW2).row hgr)
              clear hown hgr
              go_wp2
              go_roundw
              case rel => exact ⟨i + 1, by omega, by go_num, hide ⟨by rw [unhide EL]; exact unhide RN, unhide LL⟩, HBN⟩
              case measure => simp [intOf]; omega
        | [], RW, HP =>
          have EP : Hid (popP p [] = []) := hide (by rw [popP]; simp)
          rcases (unhide RW).open with ⟨rfl, h⟩ | ⟨g, cp, rfl, hB, hg, hcp, hcm, hce⟩
          · have RW2 := RW
            clear RW h
            go_upto_region 5 with fail
            refine wp_region_held_drew (S := fun w' => w'.cell? ⟨PX, 0, none⟩ = some (.int .i64 p.1) ∧ w'.cell? ⟨PX, 1, none⟩ = some (.int .i64 p.2)) (by kernel_rfl) ⟨e0, e1⟩ (fun hHeld => ?_)
            simp only [List.size_toArray, List.length_cons, List.length_nil, Nat.reduceAdd, Array.replicate_succ, Array.replicate_zero, List.push_toArray, List.nil_append, List.cons_append]
            refine wpAnyH_take (i := 0) (v := .slice none 0 0) rfl (by kernel_rfl) (by kernel_rfl) (by kernel_rfl) (fun _ _ _ h => h) (Or.inl ⟨by rfl, by intro w hSw; (try dsimp only at hSw); go_simp⟩) hHeld ?_
            simp only [List.getElem_toArray, List.getElem_cons_zero, List.getElem_cons_succ, Act.put, List.setIfInBounds_toArray, List.set_cons_zero, List.set_cons_succ]
            refine wpAnyH_take (i := 1) (v := .int .i64 0) rfl (by kernel_rfl) (by kernel_rfl) (by kernel_rfl) (fun _ _ _ h => h) (Or.inl ⟨by rfl, by intro w hSw; (try dsimp only at hSw); go_simp⟩) hHeld ?_
            simp only [List.getElem_toArray, List.getElem_cons_zero, List.getElem_cons_succ, Act.put, List.setIfInBounds_toArray, List.set_cons_zero, List.set_cons_succ]
            refine wpAnyH_take (i := 2) (v := .bool false) rfl (by kernel_rfl) (by kernel_rfl) (by kernel_rfl) (fun _ _ _ h => h) (Or.inl ⟨by rfl, by intro w hSw; (try dsimp only at hSw); go_simp⟩) hHeld ?_
            simp only [List.getElem_toArray, List.getElem_cons_zero, List.getElem_cons_succ, Act.put, List.setIfInBounds_toArray, List.set_cons_zero, List.set_cons_succ]
            refine wpAnyH_take (i := 3) (v := .bool false) rfl (by kernel_rfl) (by kernel_rfl) (by kernel_rfl) (fun _ _ _ h => h) (Or.inl ⟨by rfl, by intro w hSw; (try dsimp only at hSw); go_simp⟩) hHeld ?_
            simp only [List.getElem_toArray, List.getElem_cons_zero, List.getElem_cons_succ, Act.put, List.setIfInBounds_toArray, List.set_cons_zero, List.set_cons_succ]
            refine wpAnyH_take (i := 4) (v := undef) rfl (by kernel_rfl) (by kernel_rfl) (by kernel_rfl) (fun _ _ _ h => h) (Or.inr ⟨by kernel_rfl, rfl⟩) hHeld ?_
            simp only [List.getElem_toArray, List.getElem_cons_zero, List.getElem_cons_succ, Act.put, List.setIfInBounds_toArray, List.set_cons_zero, List.set_cons_succ]
            refine wpAnyH_take (i := 5) (v := undef) rfl (by kernel_rfl) (by kernel_rfl) (by kernel_rfl) (fun _ _ _ h => h) (Or.inr ⟨by kernel_rfl, rfl⟩) hHeld ?_
            simp only [List.getElem_toArray, List.getElem_cons_zero, List.getElem_cons_succ, Act.put, List.setIfInBounds_toArray, List.set_cons_zero, List.set_cons_succ]
            refine wpAnyH_take (i := 6) (v := undef) rfl (by kernel_rfl) (by kernel_rfl) (by kernel_rfl) (fun _ _ _ h => h) (Or.inr ⟨by kernel_rfl, rfl⟩) hHeld ?_
            simp only [List.getElem_toArray, List.getElem_cons_zero, List.getElem_cons_succ, Act.put, List.setIfInBounds_toArray, List.set_cons_zero, List.set_cons_succ]
            refine wpAnyH_take (i := 7) (v := undef) rfl (by kernel_rfl) (by kernel_rfl) (by kernel_rfl) (fun _ _ _ h => h) (Or.inr ⟨by kernel_rfl, rfl⟩) hHeld ?_
            simp only [List.getElem_toArray, List.getElem_cons_zero, List.getElem_cons_succ, Act.put, List.setIfInBounds_toArray, List.set_cons_zero, List.set_cons_succ]
            refine wpAnyH_take (i := 8) (v := undef) rfl (by kernel_rfl) (by kernel_rfl) (by kernel_rfl) (fun _ _ _ h => h) (Or.inr ⟨by kernel_rfl, rfl⟩) hHeld ?_
            simp only [List.getElem_toArray, List.getElem_cons_zero, List.getElem_cons_succ, Act.put, List.setIfInBounds_toArray, List.set_cons_zero, List.set_cons_succ]
            refine wpAnyH_take (i := 9) (v := undef) rfl (by kernel_rfl) (by kernel_rfl) (by kernel_rfl) (fun _ _ _ h => h) (Or.inr ⟨by kernel_rfl, rfl⟩) hHeld ?_
            simp only [List.getElem_toArray, List.getElem_cons_zero, List.getElem_cons_succ, Act.put, List.setIfInBounds_toArray, List.set_cons_zero, List.set_cons_succ]
            refine wpAnyH_take (i := 10) (v := undef) rfl (by kernel_rfl) (by kernel_rfl) (by kernel_rfl) (fun _ _ _ h => h) (Or.inr ⟨by kernel_rfl, rfl⟩) hHeld ?_
            simp only [List.getElem_toArray, List.getElem_cons_zero, List.getElem_cons_succ, Act.put, List.setIfInBounds_toArray, List.set_cons_zero, List.set_cons_succ]
            refine wpAnyH_take (i := 11) (v := undef) rfl (by kernel_rfl) (by kernel_rfl) (by kernel_rfl) (fun _ _ _ h => h) (Or.inr ⟨by kernel_rfl, rfl⟩) hHeld ?_
            simp only [List.getElem_toArray, List.getElem_cons_zero, List.getElem_cons_succ, Act.put, List.setIfInBounds_toArray, List.set_cons_zero, List.set_cons_succ]
            refine wpAnyH_take (i := 12) (v := undef) rfl (by kernel_rfl) (by kernel_rfl) (by kernel_rfl) (fun _ _ _ h => h) (Or.inr ⟨by kernel_rfl, rfl⟩) hHeld ?_
            simp only [List.getElem_toArray, List.getElem_cons_zero, List.getElem_cons_succ, Act.put, List.setIfInBounds_toArray, List.set_cons_zero, List.set_cons_succ]
            refine wpAnyH_take (i := 13) (v := undef) rfl (by kernel_rfl) (by kernel_rfl) (by kernel_rfl) (fun _ _ _ h => h) (Or.inr ⟨by kernel_rfl, rfl⟩) hHeld ?_
            simp only [List.getElem_toArray, List.getElem_cons_zero, List.getElem_cons_succ, Act.put, List.setIfInBounds_toArray, List.set_cons_zero, List.set_cons_succ]
            refine wpAnyH_take (i := 14) (v := undef) rfl (by kernel_rfl) (by kernel_rfl) (by kernel_rfl) (fun _ _ _ h => h) (Or.inr ⟨by kernel_rfl, rfl⟩) hHeld ?_
            simp only [List.getElem_toArray, List.getElem_cons_zero, List.getElem_cons_succ, Act.put, List.setIfInBounds_toArray, List.set_cons_zero, List.set_cons_succ]
            refine wpAnyH_take (i := 15) (v := undef) rfl (by kernel_rfl) (by kernel_rfl) (by kernel_rfl) (fun _ _ _ h => h) (Or.inr ⟨by kernel_rfl, rfl⟩) hHeld ?_
            simp only [List.getElem_toArray, List.getElem_cons_zero, List.getElem_cons_succ, Act.put, List.setIfInBounds_toArray, List.set_cons_zero, List.set_cons_succ]
            refine wpAnyH_take (i := 16) (v := undef) rfl (by kernel_rfl) (by kernel_rfl) (by kernel_rfl) (fun _ _ _ h => h) (Or.inr ⟨by kernel_rfl, rfl⟩) hHeld ?_
            simp only [List.getElem_toArray, List.getElem_cons_zero, List.getElem_cons_succ, Act.put, List.setIfInBounds_toArray, List.set_cons_zero, List.set_cons_succ]
            refine wpAnyH_take (i := 17) (v := undef) rfl (by kernel_rfl) (by kernel_rfl) (by kernel_rfl) (fun _ _ _ h => h) (Or.inr ⟨by kernel_rfl, rfl⟩) hHeld ?_
            simp only [List.getElem_toArray, List.getElem_cons_zero, List.getElem_cons_succ, Act.put, List.setIfInBounds_toArray, List.set_cons_zero, List.set_cons_succ]
            refine wpAnyH_take (i := 18) (v := undef) rfl (by kernel_rfl) (by kernel_rfl) (by kernel_rfl) (fun _ _ _ h => h) (Or.inr ⟨by kernel_rfl, rfl⟩) hHeld ?_
            simp only [List.getElem_toArray, List.getElem_cons_zero, List.getElem_cons_succ, Act.put, List.setIfInBounds_toArray, List.set_cons_zero, List.set_cons_succ]
            refine wpAnyH_take (i := 19) (v := .bool false) rfl (by kernel_rfl) (by kernel_rfl) (by kernel_rfl) (fun _ _ _ h => h) (Or.inl ⟨by rfl, by intro w hSw; (try dsimp only at hSw); go_simp⟩) hHeld ?_
            simp only [List.getElem_toArray, List.getElem_cons_zero, List.getElem_cons_succ, Act.put, List.setIfInBounds_toArray, List.set_cons_zero, List.set_cons_succ]
            refine wpAnyH_done (by kernel_rfl) ?_ _
            clear hHeld
            replace RW2 := hide ((unhide RW2).later (Below.refl _ _).drew)
            replace HB := hide (unhide HB).drew
            replace e0 := cdP e0
            replace e1 := cdP e1
            generalize wr.drew = w5 at *
            have LB : (([] : List (Int × Int))).reverse.length ≤ 100 := by have := (unhide HP).2.2; have := unhide HLT; simp at *; try omega
            have HBO := hide (below_on (unhide HB2) (unhide HB))
            have EL : Hid ((chR (l.take (i + 1))).reverse = (([] : List (Int × Int))).reverse ++ [p]) := hide (by rw [unhide EC, ← (unhide HP).1, unhide EP]; simp)
            have LL : Hid ((chR (l.take (i + 1))).length ≤ i + 1) := hide (by rw [unhide EC, ← (unhide HP).1, unhide EP]; have := (unhide HP).2.2; have := unhide HLT; simp at *; try omega)
            clear HP EP HB
            generalize (([] : List (Int × Int))).reverse = L at *
            go_wp2_with (at_builtin; refine wpList_append_own _ rfl (.tmp 37) (.tmp 39) 23 rfl w.heap.size 31 i0 (.agg #[.int .i64 0, .int .i64 0]) 2 16 Try.underlying23 hi hz0 hz1 hz2 rfl (by decide) _ _ _ rfl ((unhide RW2).row.alloc _) ⟨_, 0, none⟩ 1 1 [.int .i64 p.1, .int .i64 p.2] rfl rfl (new_cellP _ _ _) (fun u hu => by simp at hu; rcases hu with rfl | rfl <;> rfl) (by unfold maxLen; omega) (by omega) (by have := (unhide HBO).size; simp; omega) ?_)
            intro v' w6 hown hgr _
            have RN : Hid (RwP w.heap.size w6 v' (L ++ [p])) := hide ⟨by rw [flatP_append, show flatP [p] = [.int .i64 p.1, .int .i64 p.2] from flatP_one p.1 p.2, List.length_append]; exact hown⟩
            have HBN := hide (push_belowP (unhide HBO) (unhide HBO).size (unhide RW2).row hgr)
            clear hown hgr
            go_wp2
            go_roundw
            case rel => exact ⟨i + 1, by omega, by go_num, hide ⟨by rw [unhide EL]; exact unhide RN, unhide LL⟩, HBN⟩
            case measure => simp [intOf]; omega
          · have ln : ([] : List (Int × Int)).reverse.length = 0 := rfl
            have RW2 := RW
            rw [ln] at RW2 ⊢
            clear RW hce ln
            go_upto_region 5 with fail
            refine wp_region_held_drew (S := fun w' => w'.cell? ⟨PX, 0, none⟩ = some (.int .i64 p.1) ∧ w'.cell? ⟨PX, 1, none⟩ = some (.int .i64 p.2)) (by kernel_rfl) ⟨e0, e1⟩ (fun hHeld => ?_)
            simp only [List.size_toArray, List.length_cons, List.length_nil, Nat.reduceAdd, Array.replicate_succ, Array.replicate_zero, List.push_toArray, List.nil_append, List.cons_append]
            refine wpAnyH_take (i := 0) (v := .slice (some ⟨g, 0, none⟩) 0 cp) rfl (by kernel_rfl) (by kernel_rfl) (by kernel_rfl) (fun _ _ _ h => h) (Or.inl ⟨by rfl, by intro w hSw; (try dsimp only at hSw); go_simp⟩) hHeld ?_
            simp only [List.getElem_toArray, List.getElem_cons_zero, List.getElem_cons_succ, Act.put, List.setIfInBounds_toArray, List.set_cons_zero, List.set_cons_succ]
            refine wpAnyH_take (i := 1) (v := .int .i64 0) rfl (by kernel_rfl) (by kernel_rfl) (by kernel_rfl) (fun _ _ _ h => h) (Or.inl ⟨by rfl, by intro w hSw; (try dsimp only at hSw); go_simp⟩) hHeld ?_
            simp only [List.getElem_toArray, List.getElem_cons_zero, List.getElem_cons_succ, Act.put, List.setIfInBounds_toArray, List.set_cons_zero, List.set_cons_succ]
            refine wpAnyH_take (i := 2) (v := .bool false) rfl (by kernel_rfl) (by kernel_rfl) (by kernel_rfl) (fun _ _ _ h => h) (Or.inl ⟨by rfl, by intro w hSw; (try dsimp only at hSw); go_simp⟩) hHeld ?_
            simp only [List.getElem_toArray, List.getElem_cons_zero, List.getElem_cons_succ, Act.put, List.setIfInBounds_toArray, List.set_cons_zero, List.set_cons_succ]
            refine wpAnyH_take (i := 3) (v := .bool false) rfl (by kernel_rfl) (by kernel_rfl) (by kernel_rfl) (fun _ _ _ h => h) (Or.inl ⟨by rfl, by intro w hSw; (try dsimp only at hSw); go_simp⟩) hHeld ?_
            simp only [List.getElem_toArray, List.getElem_cons_zero, List.getElem_cons_succ, Act.put, List.setIfInBounds_toArray, List.set_cons_zero, List.set_cons_succ]
            refine wpAnyH_take (i := 4) (v := undef) rfl (by kernel_rfl) (by kernel_rfl) (by kernel_rfl) (fun _ _ _ h => h) (Or.inr ⟨by kernel_rfl, rfl⟩) hHeld ?_
            simp only [List.getElem_toArray, List.getElem_cons_zero, List.getElem_cons_succ, Act.put, List.setIfInBounds_toArray, List.set_cons_zero, List.set_cons_succ]
            refine wpAnyH_take (i := 5) (v := undef) rfl (by kernel_rfl) (by kernel_rfl) (by kernel_rfl) (fun _ _ _ h => h) (Or.inr ⟨by kernel_rfl, rfl⟩) hHeld ?_
            simp only [List.getElem_toArray, List.getElem_cons_zero, List.getElem_cons_succ, Act.put, List.setIfInBounds_toArray, List.set_cons_zero, List.set_cons_succ]
            refine wpAnyH_take (i := 6) (v := undef) rfl (by kernel_rfl) (by kernel_rfl) (by kernel_rfl) (fun _ _ _ h => h) (Or.inr ⟨by kernel_rfl, rfl⟩) hHeld ?_
            simp only [List.getElem_toArray, List.getElem_cons_zero, List.getElem_cons_succ, Act.put, List.setIfInBounds_toArray, List.set_cons_zero, List.set_cons_succ]
            refine wpAnyH_take (i := 7) (v := undef) rfl (by kernel_rfl) (by kernel_rfl) (by kernel_rfl) (fun _ _ _ h => h) (Or.inr ⟨by kernel_rfl, rfl⟩) hHeld ?_
            simp only [List.getElem_toArray, List.getElem_cons_zero, List.getElem_cons_succ, Act.put, List.setIfInBounds_toArray, List.set_cons_zero, List.set_cons_succ]
            refine wpAnyH_take (i := 8) (v := undef) rfl (by kernel_rfl) (by kernel_rfl) (by kernel_rfl) (fun _ _ _ h => h) (Or.inr ⟨by kernel_rfl, rfl⟩) hHeld ?_
            simp only [List.getElem_toArray, List.getElem_cons_zero, List.getElem_cons_succ, Act.put, List.setIfInBounds_toArray, List.set_cons_zero, List.set_cons_succ]
            refine wpAnyH_take (i := 9) (v := undef) rfl (by kernel_rfl) (by kernel_rfl) (by kernel_rfl) (fun _ _ _ h => h) (Or.inr ⟨by kernel_rfl, rfl⟩) hHeld ?_
            simp only [List.getElem_toArray, List.getElem_cons_zero, List.getElem_cons_succ, Act.put, List.setIfInBounds_toArray, List.set_cons_zero, List.set_cons_succ]
            refine wpAnyH_take (i := 10) (v := undef) rfl (by kernel_rfl) (by kernel_rfl) (by kernel_rfl) (fun _ _ _ h => h) (Or.inr ⟨by kernel_rfl, rfl⟩) hHeld ?_
            simp only [List.getElem_toArray, List.getElem_cons_zero, List.getElem_cons_succ, Act.put, List.setIfInBounds_toArray, List.set_cons_zero, List.set_cons_succ]
            refine wpAnyH_take (i := 11) (v := undef) rfl (by kernel_rfl) (by kernel_rfl) (by kernel_rfl) (fun _ _ _ h => h) (Or.inr ⟨by kernel_rfl, rfl⟩) hHeld ?_
            simp only [List.getElem_toArray, List.getElem_cons_zero, List.getElem_cons_succ, Act.put, List.setIfInBounds_toArray, List.set_cons_zero, List.set_cons_succ]
            refine wpAnyH_take (i := 12) (v := undef) rfl (by kernel_rfl) (by kernel_rfl) (by kernel_rfl) (fun _ _ _ h => h) (Or.inr ⟨by kernel_rfl, rfl⟩) hHeld ?_
            simp only [List.getElem_toArray, List.getElem_cons_zero, List.getElem_cons_succ, Act.put, List.setIfInBounds_toArray, List.set_cons_zero, List.set_cons_succ]
            refine wpAnyH_take (i := 13) (v := undef) rfl (by kernel_rfl) (by kernel_rfl) (by kernel_rfl) (fun _ _ _ h => h) (Or.inr ⟨by kernel_rfl, rfl⟩) hHeld ?_
            simp only [List.getElem_toArray, List.getElem_cons_zero, List.getElem_cons_succ, Act.put, List.setIfInBounds_toArray, List.set_cons_zero, List.set_cons_succ]
            refine wpAnyH_take (i := 14) (v := undef) rfl (by kernel_rfl) (by kernel_rfl) (by kernel_rfl) (fun _ _ _ h => h) (Or.inr ⟨by kernel_rfl, rfl⟩) hHeld ?_
            simp only [List.getElem_toArray, List.getElem_cons_zero, List.getElem_cons_succ, Act.put, List.setIfInBounds_toArray, List.set_cons_zero, List.set_cons_succ]
            refine wpAnyH_take (i := 15) (v := undef) rfl (by kernel_rfl) (by kernel_rfl) (by kernel_rfl) (fun _ _ _ h => h) (Or.inr ⟨by kernel_rfl, rfl⟩) hHeld ?_
            simp only [List.getElem_toArray, List.getElem_cons_zero, List.getElem_cons_succ, Act.put, List.setIfInBounds_toArray, List.set_cons_zero, List.set_cons_succ]
            refine wpAnyH_take (i := 16) (v := undef) rfl (by kernel_rfl) (by kernel_rfl) (by kernel_rfl) (fun _ _ _ h => h) (Or.inr ⟨by kernel_rfl, rfl⟩) hHeld ?_
            simp only [List.getElem_toArray, List.getElem_cons_zero, List.getElem_cons_succ, Act.put, List.setIfInBounds_toArray, List.set_cons_zero, List.set_cons_succ]
            refine wpAnyH_take (i := 17) (v := undef) rfl (by kernel_rfl) (by kernel_rfl) (by kernel_rfl) (fun _ _ _ h => h) (Or.inr ⟨by kernel_rfl, rfl⟩) hHeld ?_
            simp only [List.getElem_toArray, List.getElem_cons_zero, List.getElem_cons_succ, Act.put, List.setIfInBounds_toArray, List.set_cons_zero, List.set_cons_succ]
            refine wpAnyH_take (i := 18) (v := undef) rfl (by kernel_rfl) (by kernel_rfl) (by kernel_rfl) (fun _ _ _ h => h) (Or.inr ⟨by kernel_rfl, rfl⟩) hHeld ?_
            simp only [List.getElem_toArray, List.getElem_cons_zero, List.getElem_cons_succ, Act.put, List.setIfInBounds_toArray, List.set_cons_zero, List.set_cons_succ]
            refine wpAnyH_take (i := 19) (v := .bool false) rfl (by kernel_rfl) (by kernel_rfl) (by kernel_rfl) (fun _ _ _ h => h) (Or.inl ⟨by rfl, by intro w hSw; (try dsimp only at hSw); go_simp⟩) hHeld ?_
            simp only [List.getElem_toArray, List.getElem_cons_zero, List.getElem_cons_succ, Act.put, List.setIfInBounds_toArray, List.set_cons_zero, List.set_cons_succ]
            refine wpAnyH_done (by kernel_rfl) ?_ _
            clear hHeld
            replace RW2 := hide ((unhide RW2).later (Below.refl _ _).drew)
            replace HB := hide (unhide HB).drew
            replace e0 := cdP e0
            replace e1 := cdP e1
            generalize wr.drew = w5 at *
            have LB : (([] : List (Int × Int))).reverse.length ≤ 100 := by have := (unhide HP).2.2; have := unhide HLT; simp at *; try omega
            have HBO := hide (below_on (unhide HB2) (unhide HB))
            have EL : Hid ((chR (l.take (i + 1))).reverse = (([] : List (Int × Int))).reverse ++ [p]) := hide (by rw [unhide EC, ← (unhide HP).1, unhide EP]; simp)
            have LL : Hid ((chR (l.take (i + 1))).length ≤ i + 1) := hide (by rw [unhide EC, ← (unhide HP).1, unhide EP]; have := (unhide HP).2.2; have := unhide HLT; simp at *; try omega)
            clear HP EP HB
            generalize (([] : List (Int × Int))).reverse = L at *
            go_wp2_with (at_builtin; refine wpList_append_own _ rfl (.tmp 37) (.tmp 39) 23 rfl w.heap.size 31 i0 (.agg #[.int .i64 0, .int .i64 0]) 2 16 Try.underlying23 hi hz0 hz1 hz2 rfl (by decide) _ _ _ rfl ((unhide RW2).row.alloc _) ⟨_, 0, none⟩ 1 1 [.int .i64 p.1, .int .i64 p.2] rfl rfl (new_cellP _ _ _) (fun u hu => by simp at hu; rcases hu with rfl | rfl <;> rfl) (by unfold maxLen; omega) (by omega) (by have := (unhide HBO).size; simp; omega) ?_)
            intro v' w6 hown hgr _
            have RN : Hid (RwP w.heap.size w6 v' (L ++ [p])) := hide ⟨by rw [flatP_append, show flatP [p] = [.int .i64 p.1, .int .i64 p.2] from flatP_one p.1 p.2, List.length_append]; exact hown⟩
            have HBN := hide (push_belowP (unhide HBO) (unhide HBO).size (unhide RW2).row hgr)
            clear hown hgr
            go_wp2
            go_roundw
            case rel => exact ⟨i + 1, by omega, by go_num, hide ⟨by rw [unhide EL]; exact unhide RN, unhide LL⟩, HBN⟩
            case measure => simp [intOf]; omega
        | [q], RW, HP =>
          have EP : Hid (popP p [q] = [q]) := hide (by rw [popP]; simp)
          rcases (unhide RW).open with ⟨rfl, h⟩ | ⟨g, cp, rfl, hB, hg, hcp, hcm, hce⟩
          · simp at h
          · have ln : [q].reverse.length = 1 := rfl
            have RW2 := RW
            rw [ln] at RW2 ⊢
            clear RW hce ln
            go_upto_region 5 with fail
            refine wp_region_held_drew (S := fun w' => w'.cell? ⟨PX, 0, none⟩ = some (.int .i64 p.1) ∧ w'.cell? ⟨PX, 1, none⟩ = some (.int .i64 p.2)) (by kernel_rfl) ⟨e0, e1⟩ (fun hHeld => ?_)
            simp only [List.size_toArray, List.length_cons, List.length_nil, Nat.reduceAdd, Array.replicate_succ, Array.replicate_zero, List.push_toArray, List.nil_append, List.cons_append]
            refine wpAnyH_take (i := 0) (v := .slice (some ⟨g, 0, none⟩) 1 cp) rfl (by kernel_rfl) (by kernel_rfl) (by kernel_rfl) (fun _ _ _ h => h) (Or.inl ⟨by rfl, by intro w hSw; (try dsimp only at hSw); go_simp⟩) hHeld ?_
            simp only [List.getElem_toArray, List.getElem_cons_zero, List.getElem_cons_succ, Act.put, List.setIfInBounds_toArray, List.set_cons_zero, List.set_cons_succ]
            refine wpAnyH_take (i := 1) (v := .int .i64 1) rfl (by kernel_rfl) (by kernel_rfl) (by kernel_rfl) (fun _ _ _ h => h) (Or.inl ⟨by rfl, by intro w hSw; (try dsimp only at hSw); go_simp⟩) hHeld ?_
            simp only [List.getElem_toArray, List.getElem_cons_zero, List.getElem_cons_succ, Act.put, List.setIfInBounds_toArray, List.set_cons_zero, List.set_cons_succ]
            refine wpAnyH_take (i := 2) (v := .bool false) rfl (by kernel_rfl) (by kernel_rfl) (by kernel_rfl) (fun _ _ _ h => h) (Or.inl ⟨by rfl, by intro w hSw; (try dsimp only at hSw); go_simp⟩) hHeld ?_
            simp only [List.getElem_toArray, List.getElem_cons_zero, List.getElem_cons_succ, Act.put, List.setIfInBounds_toArray, List.set_cons_zero, List.set_cons_succ]
            refine wpAnyH_take (i := 3) (v := .bool false) rfl (by kernel_rfl) (by kernel_rfl) (by kernel_rfl) (fun _ _ _ h => h) (Or.inl ⟨by rfl, by intro w hSw; (try dsimp only at hSw); go_simp⟩) hHeld ?_
            simp only [List.getElem_toArray, List.getElem_cons_zero, List.getElem_cons_succ, Act.put, List.setIfInBounds_toArray, List.set_cons_zero, List.set_cons_succ]
            refine wpAnyH_take (i := 4) (v := undef) rfl (by kernel_rfl) (by kernel_rfl) (by kernel_rfl) (fun _ _ _ h => h) (Or.inr ⟨by kernel_rfl, rfl⟩) hHeld ?_
            simp only [List.getElem_toArray, List.getElem_cons_zero, List.getElem_cons_succ, Act.put, List.setIfInBounds_toArray, List.set_cons_zero, List.set_cons_succ]
            refine wpAnyH_take (i := 5) (v := undef) rfl (by kernel_rfl) (by kernel_rfl) (by kernel_rfl) (fun _ _ _ h => h) (Or.inr ⟨by kernel_rfl, rfl⟩) hHeld ?_
            simp only [List.getElem_toArray, List.getElem_cons_zero, List.getElem_cons_succ, Act.put, List.setIfInBounds_toArray, List.set_cons_zero, List.set_cons_succ]
            refine wpAnyH_take (i := 6) (v := undef) rfl (by kernel_rfl) (by kernel_rfl) (by kernel_rfl) (fun _ _ _ h => h) (Or.inr ⟨by kernel_rfl, rfl⟩) hHeld ?_
            simp only [List.getElem_toArray, List.getElem_cons_zero, List.getElem_cons_succ, Act.put, List.setIfInBounds_toArray, List.set_cons_zero, List.set_cons_succ]
            refine wpAnyH_take (i := 7) (v := undef) rfl (by kernel_rfl) (by kernel_rfl) (by kernel_rfl) (fun _ _ _ h => h) (Or.inr ⟨by kernel_rfl, rfl⟩) hHeld ?_
            simp only [List.getElem_toArray, List.getElem_cons_zero, List.getElem_cons_succ, Act.put, List.setIfInBounds_toArray, List.set_cons_zero, List.set_cons_succ]
            refine wpAnyH_take (i := 8) (v := undef) rfl (by kernel_rfl) (by kernel_rfl) (by kernel_rfl) (fun _ _ _ h => h) (Or.inr ⟨by kernel_rfl, rfl⟩) hHeld ?_
            simp only [List.getElem_toArray, List.getElem_cons_zero, List.getElem_cons_succ, Act.put, List.setIfInBounds_toArray, List.set_cons_zero, List.set_cons_succ]
            refine wpAnyH_take (i := 9) (v := undef) rfl (by kernel_rfl) (by kernel_rfl) (by kernel_rfl) (fun _ _ _ h => h) (Or.inr ⟨by kernel_rfl, rfl⟩) hHeld ?_
            simp only [List.getElem_toArray, List.getElem_cons_zero, List.getElem_cons_succ, Act.put, List.setIfInBounds_toArray, List.set_cons_zero, List.set_cons_succ]
            refine wpAnyH_take (i := 10) (v := undef) rfl (by kernel_rfl) (by kernel_rfl) (by kernel_rfl) (fun _ _ _ h => h) (Or.inr ⟨by kernel_rfl, rfl⟩) hHeld ?_
            simp only [List.getElem_toArray, List.getElem_cons_zero, List.getElem_cons_succ, Act.put, List.setIfInBounds_toArray, List.set_cons_zero, List.set_cons_succ]
            refine wpAnyH_take (i := 11) (v := undef) rfl (by kernel_rfl) (by kernel_rfl) (by kernel_rfl) (fun _ _ _ h => h) (Or.inr ⟨by kernel_rfl, rfl⟩) hHeld ?_
            simp only [List.getElem_toArray, List.getElem_cons_zero, List.getElem_cons_succ, Act.put, List.setIfInBounds_toArray, List.set_cons_zero, List.set_cons_succ]
            refine wpAnyH_take (i := 12) (v := undef) rfl (by kernel_rfl) (by kernel_rfl) (by kernel_rfl) (fun _ _ _ h => h) (Or.inr ⟨by kernel_rfl, rfl⟩) hHeld ?_
            simp only [List.getElem_toArray, List.getElem_cons_zero, List.getElem_cons_succ, Act.put, List.setIfInBounds_toArray, List.set_cons_zero, List.set_cons_succ]
            refine wpAnyH_take (i := 13) (v := undef) rfl (by kernel_rfl) (by kernel_rfl) (by kernel_rfl) (fun _ _ _ h => h) (Or.inr ⟨by kernel_rfl, rfl⟩) hHeld ?_
            simp only [List.getElem_toArray, List.getElem_cons_zero, List.getElem_cons_succ, Act.put, List.setIfInBounds_toArray, List.set_cons_zero, List.set_cons_succ]
            refine wpAnyH_take (i := 14) (v := undef) rfl (by kernel_rfl) (by kernel_rfl) (by kernel_rfl) (fun _ _ _ h => h) (Or.inr ⟨by kernel_rfl, rfl⟩) hHeld ?_
            simp only [List.getElem_toArray, List.getElem_cons_zero, List.getElem_cons_succ, Act.put, List.setIfInBounds_toArray, List.set_cons_zero, List.set_cons_succ]
            refine wpAnyH_take (i := 15) (v := undef) rfl (by kernel_rfl) (by kernel_rfl) (by kernel_rfl) (fun _ _ _ h => h) (Or.inr ⟨by kernel_rfl, rfl⟩) hHeld ?_
            simp only [List.getElem_toArray, List.getElem_cons_zero, List.getElem_cons_succ, Act.put, List.setIfInBounds_toArray, List.set_cons_zero, List.set_cons_succ]
            refine wpAnyH_take (i := 16) (v := undef) rfl (by kernel_rfl) (by kernel_rfl) (by kernel_rfl) (fun _ _ _ h => h) (Or.inr ⟨by kernel_rfl, rfl⟩) hHeld ?_
            simp only [List.getElem_toArray, List.getElem_cons_zero, List.getElem_cons_succ, Act.put, List.setIfInBounds_toArray, List.set_cons_zero, List.set_cons_succ]
            refine wpAnyH_take (i := 17) (v := undef) rfl (by kernel_rfl) (by kernel_rfl) (by kernel_rfl) (fun _ _ _ h => h) (Or.inr ⟨by kernel_rfl, rfl⟩) hHeld ?_
            simp only [List.getElem_toArray, List.getElem_cons_zero, List.getElem_cons_succ, Act.put, List.setIfInBounds_toArray, List.set_cons_zero, List.set_cons_succ]
            refine wpAnyH_take (i := 18) (v := undef) rfl (by kernel_rfl) (by kernel_rfl) (by kernel_rfl) (fun _ _ _ h => h) (Or.inr ⟨by kernel_rfl, rfl⟩) hHeld ?_
            simp only [List.getElem_toArray, List.getElem_cons_zero, List.getElem_cons_succ, Act.put, List.setIfInBounds_toArray, List.set_cons_zero, List.set_cons_succ]
            refine wpAnyH_take (i := 19) (v := .bool false) rfl (by kernel_rfl) (by kernel_rfl) (by kernel_rfl) (fun _ _ _ h => h) (Or.inl ⟨by rfl, by intro w hSw; (try dsimp only at hSw); go_simp⟩) hHeld ?_
            simp only [List.getElem_toArray, List.getElem_cons_zero, List.getElem_cons_succ, Act.put, List.setIfInBounds_toArray, List.set_cons_zero, List.set_cons_succ]
            refine wpAnyH_done (by kernel_rfl) ?_ _
            clear hHeld
            replace RW2 := hide ((unhide RW2).later (Below.refl _ _).drew)
            replace HB := hide (unhide HB).drew
            replace e0 := cdP e0
            replace e1 := cdP e1
            generalize wr.drew = w5 at *
            have LB : ([q]).reverse.length ≤ 100 := by have := (unhide HP).2.2; have := unhide HLT; simp at *; try omega
            have HBO := hide (below_on (unhide HB2) (unhide HB))
            have EL : Hid ((chR (l.take (i + 1))).reverse = ([q]).reverse ++ [p]) := hide (by rw [unhide EC, ← (unhide HP).1, unhide EP]; simp)
            have LL : Hid ((chR (l.take (i + 1))).length ≤ i + 1) := hide (by rw [unhide EC, ← (unhide HP).1, unhide EP]; have := (unhide HP).2.2; have := unhide HLT; simp at *; try omega)
            clear HP EP HB
            generalize ([q]).reverse = L at *
            go_wp2_with (at_builtin; refine wpList_append_own _ rfl (.tmp 37) (.tmp 39) 23 rfl w.heap.size 31 i0 (.agg #[.int .i64 0, .int .i64 0]) 2 16 Try.underlying23 hi hz0 hz1 hz2 rfl (by decide) _ _ _ rfl ((unhide RW2).row.alloc _) ⟨_, 0, none⟩ 1 1 [.int .i64 p.1, .int .i64 p.2] rfl rfl (new_cellP _ _ _) (fun u hu => by simp at hu; rcases hu with rfl | rfl <;> rfl) (by unfold maxLen; omega) (by omega) (by have := (unhide HBO).size; simp; omega) ?_)
            intro v' w6 hown hgr _
            have RN : Hid (RwP w.heap.size w6 v' (L ++ [p])) := hide ⟨by rw [flatP_append, show flatP [p] = [.int .i64 p.1, .int .i64 p.2] from flatP_one p.1 p.2, List.length_append]; exact hown⟩
            have HBN := hide (push_belowP (unhide HBO) (unhide HBO).size (unhide RW2).row hgr)
            clear hown hgr
            go_wp2
            go_roundw
            case rel => exact ⟨i + 1, by omega, by go_num, hide ⟨by rw [unhide EL]; exact unhide RN, unhide LL⟩, HBN⟩
            case measure => simp [intOf]; omega
    · obtain rfl : i = n := by omega
      have EN : Hid (chR (l.take i) = chR l) := hide (by rw [← unhide HN, List.take_length])
      go_wp2
      go_ret
      exact ⟨_, rfl, unhide HB, by unfold chainP; rw [← unhide EN]; exact (unhide HR).1⟩
end Go.Proofs.Ytgoiodhofbkkdaa
