/- EarsOf of the program; which way round a simple way turns. No condition beyond those typed. -/
import Derived.Test.YtblhjeepelgdaaaPkA12
import Derived.Test.YtblhjeepelgdaaaPkZ12
import Derived.BigRegion
import Derived.Test.YtblhjeepelgdaaaPkJ12
import Derived.Test.YtblhjeepelgdaaaSeg8
import Derived.Maps.AppendAt
namespace Go.Proofs.Ytblhjeepelgdaaa
open Go.RowKit Go.ChangeMaps
set_option linter.unusedVariables false
set_option maxRecDepth 100000
set_option linter.unusedSimpArgs false

/-- The map of the corners left lies at B. -/
structure MpC (w : World) (B : Nat) (l : List (Int × Int)) (L : List Nat) (clock : Nat) : Prop where
  at_ : w.heap[B]? = some (.map (mpL l L).toArray clock)
  lt : B < w.heap.size
  up : L.Pairwise (· < ·)
  clk : ∀ k ∈ L, k < clock
  top : ∀ k ∈ L, k < l.length
  n12 : l.length ≤ 12
  near : ∀ p ∈ l, Near p
theorem MpC.later {w w' : World} {B : Nat} {l : List (Int × Int)} {L : List Nat} {clock : Nat} (h : MpC w B l L clock) (hb : Below w.heap.size w w') : MpC w' B l L clock :=
  ⟨(hb.block _ h.lt).trans h.at_, Nat.lt_of_lt_of_le h.lt hb.size, h.up, h.clk, h.top, h.n12, h.near⟩
theorem MpC.look {w : World} {B : Nat} {l : List (Int × Int)} {L : List Nat} {clock : Nat} (h : MpC w B l L clock) {k : Nat} (hk : k ∈ L) :
    (Instr.lookup 81 (.map (some B)) (.int .i64 (k : Int)) false).run Try.prog w = .ok (.agg #[.int .i64 (l.getD k (0, 0)).1, .int .i64 (l.getD k (0, 0)).2]) w :=
  look11 h.at_ (fun k hk => by have := h.top k hk; have := h.n12; omega) hk
theorem MpC.nr {w : World} {B : Nat} {l : List (Int × Int)} {L : List Nat} {clock : Nat} (h : MpC w B l L clock) {k : Nat} (hk : k ∈ L) : Near (l.getD k (0, 0)) := near_at h.near (h.top k hk)
set_option maxHeartbeats 4000000 in
theorem turnAtI (B clock : Nat) (l : List (Int × Int)) (L : List Nat) (a b c : Nat) (w : World) (h : MpC w B l L clock) (ha : a ∈ L) (hb : b ∈ L) (hc : c ∈ L) :
    Calls Try.prog 96 #[.map (some B), .agg #[.int .i64 (a : Int), .int .i64 (b : Int), .int .i64 (c : Int)]] w fun e w' => e = .returned (.int .i64 (sgZ (crs (l.getD a (0, 0)) (l.getD b (0, 0)) (l.getD c (0, 0))))) ∧ Below w.heap.size w w' := by
  have CT := hide (fun w => turnI (l.getD a (0, 0)) (l.getD b (0, 0)) (l.getD c (0, 0)) w (h.nr ha) (h.nr hb) (h.nr hc))
  have al : Below w.heap.size w (w.alloc (.cells #[.int .i64 (a : Int), .int .i64 (b : Int), .int .i64 (c : Int)] 33)) := (Below.refl _ _).alloc (Nat.le_refl _) _
  have h1 := h.later al
  have la := h1.look ha
  have lb := h1.look hb
  have lc := h1.look hc
  have AL := hide al
  clear al h1 h ha hb hc
  generalize l.getD a (0, 0) = pa at *
  generalize l.getD b (0, 0) = pb at *
  generalize l.getD c (0, 0) = pc at *
  go_enter Try.func96, Try.ntmps96
  go_wp2_with fail
  refine (unhide CT _).mono ?_
  rintro e w1 ⟨rfl, hb⟩
  go_wp2
  go_ret
  exact ⟨rfl, below_on (unhide AL) hb⟩
set_option maxHeartbeats 8000000 in
theorem otherI (B clock : Nat) (l : List (Int × Int)) (L : List Nat) (a b c : Nat) (ai : Option Addr) (d : Nat) (w : World) (h : MpC w B l L clock) (ha : a ∈ L) (hb : b ∈ L) (hc : c ∈ L) (ht : sgZ (crs (l.getD a (0, 0)) (l.getD b (0, 0)) (l.getD c (0, 0))) ≠ 0) (hs : Sl w ai (cI L)) :
    Calls Try.prog 97 #[.map (some B), .agg #[.int .i64 (a : Int), .int .i64 (b : Int), .int .i64 (c : Int)], .slice ai L.length d] w fun e w' => e = .returned (.bool (!L.all (okE l a b c))) ∧ Below w.heap.size w w' := by
  have CH := hide (fun (k : Nat) w => hasI11 ((a : Int), (b : Int), (c : Int)) (k : Int) w)
  have CI := hide (fun (k : Nat) (hk : k ∈ L) w => inI11 (l.getD a (0, 0)) (l.getD b (0, 0)) (l.getD c (0, 0)) (l.getD k (0, 0)) w (h.nr ha) (h.nr hb) (h.nr hc) (h.nr hk) ht)
  have OK : Hid (∀ k : Nat, okE l a b c k = (hsB (k : Int) ((a : Int), (b : Int), (c : Int)) || !inT (l.getD a (0, 0)) (l.getD b (0, 0)) (l.getD c (0, 0)) (l.getD k (0, 0)))) := hide (fun k => by
    have e : ∀ x : Nat, (k == x) = ((k : Int) == (x : Int)) := fun x => by rw [Bool.eq_iff_iff]; simp; omega
    unfold okE hsB
    rw [e, e, e])
  have al : Below w.heap.size w (w.alloc (.cells #[.int .i64 (a : Int), .int .i64 (b : Int), .int .i64 (c : Int)] 33)) := (Below.refl _ _).alloc (Nat.le_refl _) _
  have n12 := h.n12
  have L12 : L.length ≤ 12 := by
    have nd : L.Nodup := h.up.imp (fun h => by omega)
    have := subl11 nd (List.nodup_range (n := l.length)) (fun k hk => List.mem_range.2 (h.top k hk))
    simp at this; omega
  have H1 := hide (h.later al)
  have S1 := hide (hs.later (Nat.le_refl _) al)
  have AL := hide al
  have BX : Hid (∀ w2, Below (w.heap.size + 1) (w.alloc (.cells #[.int .i64 (a : Int), .int .i64 (b : Int), .int .i64 (c : Int)] 33)) w2 → w2.cell? ⟨w.heap.size, 0, none⟩ = some (.int .i64 (a : Int)) ∧ w2.cell? ⟨w.heap.size, 1, none⟩ = some (.int .i64 (b : Int)) ∧ w2.cell? ⟨w.heap.size, 2, none⟩ = some (.int .i64 (c : Int))) := hide (fun w2 hb2 => by
    refine ⟨(hb2.cell (p := ⟨w.heap.size, 0, none⟩) (by simp)).trans ?_, (hb2.cell (p := ⟨w.heap.size, 1, none⟩) (by simp)).trans ?_, (hb2.cell (p := ⟨w.heap.size, 2, none⟩) (by simp)).trans ?_⟩ <;> simp [go_sem])
  have sz : (w.alloc (.cells #[.int .i64 (a : Int), .int .i64 (b : Int), .int .i64 (c : Int)] 33)).heap.size = w.heap.size + 1 := by simp
  have AM := hide (show a ∈ L ∧ b ∈ L ∧ c ∈ L from ⟨ha, hb, hc⟩)
  clear al h hs ha hb hc ht
  generalize hok : okE l a b c = ok at *
  clear hok
  go_enter Try.func97, Try.ntmps97
  go_wp2
  generalize hw1 : w.alloc (.cells #[.int .i64 (a : Int), .int .i64 (b : Int), .int .i64 (c : Int)] 33) = w1 at *
  clear hw1
  have SZ := hide sz
  clear sz
  go_loopw [11] (fun iv wr => ∃ i : Nat, i ≤ L.length ∧ iv = .int .i64 i ∧ Hid ((L.take i).all ok = true) ∧ Hid (Below w1.heap.size w1 wr)) (fun iv _ => L.length - (intOf iv).toNat)
  case atStart => exact ⟨0, Nat.zero_le _, rfl, hide (by simp), hide (Below.refl _ _)⟩
  case round =>
    obtain ⟨i, hi, rfl, HA, HB⟩ := hrel
    by_cases hlt : i < L.length
    · have hlt' : (i : Int) < (L.length : Int) := by omega
      have kL := mem_at hlt
      have tk : L.take (i + 1) = L.take i ++ [L.getD i 0] := by rw [List.getD_eq_getElem?_getD, List.getElem?_eq_getElem hlt, Option.getD_some]; exact (List.take_append_getElem hlt).symm
      obtain ⟨q, off, rfl, c0⟩ := ((unhide S1).later (Nat.le_refl _) (unhide HB)).at (k := i) (by rw [cI_len]; exact hlt)
      rw [cI_at] at c0
      have OKk := hide (unhide OK (L.getD i 0))
      have bx := unhide BX wr (by rw [← unhide SZ]; exact unhide HB)
      obtain ⟨b0, b1, b2⟩ := bx
      have LK : Hid (∀ w', Below wr.heap.size wr w' → MpC w' B l L clock) := hide (fun w' hb' => ((unhide H1).later (unhide HB)).later hb')
      have CIk := hide (unhide CI _ kL)
      have CHk := hide (unhide CH (L.getD i 0))
      have KL := hide kL
      have TK := hide tk
      clear tk kL
      generalize L.getD i 0 = k at *
      cases hh : hsB (k : Int) ((a : Int), (b : Int), (c : Int))
      · rw [hh] at CHk OKk
        cases hv : inT (l.getD a (0, 0)) (l.getD b (0, 0)) (l.getD c (0, 0)) (l.getD k (0, 0))
        · rw [hv] at CIk OKk
          have AN : Hid ((L.take (i + 1)).all ok = true) := hide (by rw [unhide TK, List.all_append, unhide HA]; simp [unhide OKk])
          clear HA OKk hh hv
          go_wp2_with fail
          refine (unhide CHk _).mono ?_
          rintro e w2 ⟨rfl, hb⟩
          have m2 := unhide LK w2 hb
          have la := m2.look (unhide AM).1
          have lb := m2.look (unhide AM).2.1
          have lc := m2.look (unhide AM).2.2
          have lk := m2.look (unhide KL)
          replace b0 := (hb.cell (p := ⟨w.heap.size, 0, none⟩) (World.block_lt_of_cell? _ _ b0)).trans b0
          replace b1 := (hb.cell (p := ⟨w.heap.size, 1, none⟩) (World.block_lt_of_cell? _ _ b1)).trans b1
          replace b2 := (hb.cell (p := ⟨w.heap.size, 2, none⟩) (World.block_lt_of_cell? _ _ b2)).trans b2
          replace HB := hide (below_on (unhide HB) hb)
          clear hb m2
          generalize l.getD a (0, 0) = pa at *
          generalize l.getD b (0, 0) = pb at *
          generalize l.getD c (0, 0) = pc at *
          generalize l.getD k (0, 0) = pk at *
          go_wp2_with fail
          refine (unhide CIk _).mono ?_
          rintro e w3 ⟨rfl, hb⟩
          replace HB := hide (below_on (unhide HB) hb)
          clear hb la lb lc lk b0 b1 b2
          go_wp2
          go_roundw
          case rel => exact ⟨i + 1, by omega, by go_num, AN, HB⟩
          case measure => simp [intOf]; omega
        · rw [hv] at CIk OKk
          have AN : Hid (L.all ok = false) := hide (by
            rw [List.all_eq_false]
            exact ⟨k, unhide KL, by rw [unhide OKk]; simp⟩)
          clear HA OKk hh hv
          go_wp2_with fail
          refine (unhide CHk _).mono ?_
          rintro e w2 ⟨rfl, hb⟩
          have m2 := unhide LK w2 hb
          have la := m2.look (unhide AM).1
          have lb := m2.look (unhide AM).2.1
          have lc := m2.look (unhide AM).2.2
          have lk := m2.look (unhide KL)
          replace b0 := (hb.cell (p := ⟨w.heap.size, 0, none⟩) (World.block_lt_of_cell? _ _ b0)).trans b0
          replace b1 := (hb.cell (p := ⟨w.heap.size, 1, none⟩) (World.block_lt_of_cell? _ _ b1)).trans b1
          replace b2 := (hb.cell (p := ⟨w.heap.size, 2, none⟩) (World.block_lt_of_cell? _ _ b2)).trans b2
          replace HB := hide (below_on (unhide HB) hb)
          clear hb m2
          generalize l.getD a (0, 0) = pa at *
          generalize l.getD b (0, 0) = pb at *
          generalize l.getD c (0, 0) = pc at *
          generalize l.getD k (0, 0) = pk at *
          go_wp2_with fail
          refine (unhide CIk _).mono ?_
          rintro e w3 ⟨rfl, hb⟩
          replace HB := hide (below_on (unhide HB) hb)
          clear hb la lb lc lk b0 b1 b2
          go_wp2
          go_ret
          exact ⟨by rw [unhide AN]; rfl, below_on (unhide AL) (unhide HB)⟩
      · rw [hh] at CHk OKk
        have AN : Hid ((L.take (i + 1)).all ok = true) := hide (by rw [unhide TK, List.all_append, unhide HA]; simp [unhide OKk])
        clear HA OKk hh
        go_wp2_with fail
        refine (unhide CHk _).mono ?_
        rintro e w2 ⟨rfl, hb⟩
        replace HB := hide (below_on (unhide HB) hb)
        clear hb b0 b1 b2
        go_wp2
        go_roundw
        case rel => exact ⟨i + 1, by omega, by go_num, AN, HB⟩
        case measure => simp [intOf]; omega
    · obtain rfl : i = L.length := by omega
      have E : Hid (L.all ok = true) := hide (by have := unhide HA; rwa [List.take_length] at this)
      go_wp2
      go_ret
      exact ⟨by rw [unhide E]; rfl, below_on (unhide AL) (unhide HB)⟩
end Go.Proofs.Ytblhjeepelgdaaa
namespace Go.Proofs.Ytblhjeepelgdaaa
open Go.RowKit
set_option linter.unusedVariables false
set_option maxRecDepth 100000
set_option linter.unusedSimpArgs false

def earL (l : List (Int × Int)) (L : List Nat) (t : Int) : List Nat := (List.range L.length).filter (fun i => earB l L i t)
/-- The ears of a good simple way. -/
noncomputable def eaV (l : List (Int × Int)) : List Int := if ipB l then cI (earL l (List.range l.length) (sgZ (arS l l.length))) else []
theorem filt_yes {f : Nat → Bool} {i : Nat} (h : f i = true) : cI ((List.range (i + 1)).filter f) = cI ((List.range i).filter f) ++ [(i : Int)] := by
  rw [List.range_succ, List.filter_append]
  simp [cI, h]
theorem filt_no {f : Nat → Bool} {i : Nat} (h : f i = false) : (List.range (i + 1)).filter f = (List.range i).filter f := by
  rw [List.range_succ, List.filter_append]
  simp [h]
theorem filt_len {f : Nat → Bool} (i : Nat) : (cI ((List.range i).filter f)).length ≤ i := by
  rw [cI_len]
  exact Nat.le_trans (List.length_filter_le _ _) (by simp)
theorem up_cI (n : Nat) : upI n = cI (List.range n) := rfl
set_option maxHeartbeats 8000000 in
theorem EarsOfS (a : Option Addr) (n c : Nat) (l : List (Int × Int)) (w : World) (h : ArP w a n c l) (h1 : n ≤ 1048576) :
    Calls Try.prog 23 #[.slice a n c] w fun e w' => ∃ a' n' c', e = .returned (.tuple #[.slice a' n' c', .bool (ipB l)]) ∧ Below w.heap.size w w' ∧ RtI w.heap.size w' a' n' c' (eaV l) ∧ n' ≤ 1048576 := by
  have hn := h.len
  have CG := hide (fun w (k : SlP w a l) => gswS a n c l w k hn h1)
  have HS := hide h.sl
  cases hp : ipB l
  · rw [hp] at CG
    have EV : eaV l = [] := by unfold eaV; rw [hp]; rfl
    rw [EV]
    clear hp h hn EV
    go_enter Try.func23, Try.ntmps23
    go_wp2_with fail
    refine (unhide CG _ (unhide HS)).mono ?_
    rintro e w1 ⟨rfl, hb⟩
    go_wp2_with fail
    go_ret2
    exact ⟨none, 0, 0, rfl, hb, ⟨rfl, .inl rfl⟩, by omega⟩
  · rw [hp] at CG
    have wp := way_parts (ip_parts hp).1
    have n12 : n ≤ 12 := by omega
    have CA := hide (fun w (k : SlP w a l) => areaS a n c l w k hn n12 wp.2)
    have CE := hide (fun w ai d (k : SlP w a l) (k' : Sl w ai (cI (List.range n))) (i : Nat) (hi : i < n) => earS a ai n c n d l (List.range n) i (sgZ (arS l l.length)) w k hn k' (by simp) hi h1 h1 wp.2 (fun k hk => List.mem_range.1 hk))
    have EV : eaV l = cI ((List.range n).filter (fun i => earB l (List.range n) i (sgZ (arS l l.length)))) := by unfold eaV earL; rw [hp, hn, List.length_range]; rfl
    rw [EV]
    generalize arS l l.length = A at *
    obtain ⟨f, hf⟩ : ∃ f : Nat → Bool, f = fun i => earB l (List.range n) i (sgZ A) := ⟨_, rfl⟩
    have fe : ∀ i, earB l (List.range n) i (sgZ A) = f i := fun i => by rw [hf]
    simp only [fe] at CE
    rw [← hf]
    clear hp h hn wp EV hf fe
    obtain ⟨i0, hi, hz0, hz1, hz2⟩ := info_parts Try.info3
    go_enter Try.func23, Try.ntmps23
    go_wp2_with fail
    refine (unhide CG _ (unhide HS)).mono ?_
    rintro e w1 ⟨rfl, hb⟩
    replace HS := hide ((unhide HS).later hb)
    have HB := hide hb
    clear hb CG
    go_wp2_with fail
    refine (allS a n c _ h1).mono ?_
    rintro e w2 ⟨v4, rfl, hb, rw4⟩
    obtain ⟨ai, d, rfl, sl4⟩ := rw4.sl
    rw [upI_len]
    rw [up_cI] at sl4
    replace HS := hide ((unhide HS).later hb)
    replace HB := hide (below_on (unhide HB) hb)
    have H4 := hide sl4
    clear hb rw4 sl4
    go_wp2_with fail
    go_loopw [5, 14] (fun v iv wr => ∃ i : Nat, i ≤ n ∧ iv = .int .i64 i ∧ Hid (RwI w2.heap.size wr v (cI ((List.range i).filter f))) ∧ Hid (Below w2.heap.size w2 wr)) (fun _ iv _ => n - (intOf iv).toNat)
    case atStart => exact ⟨0, Nat.zero_le _, rfl, hide (RwI.nil _ _), hide (Below.refl _ _)⟩
    case round =>
      obtain ⟨i, hi', rfl, HR, HW⟩ := hrel
      by_cases hlt : i < n
      · have hlt' : (i : Int) < (n : Int) := by omega
        have k1 := (unhide HS).later (unhide HW)
        have k4 := (unhide H4).later (Nat.le_refl _) (unhide HW)
        have K1 := hide k1
        have K4 := hide k4
        clear k1 k4
        go_wp2_with fail
        refine (unhide CA _ (unhide K1)).mono ?_
        rintro e w3 ⟨rfl, hb⟩
        replace K1 := hide ((unhide K1).later hb)
        replace K4 := hide ((unhide K4).later (Nat.le_refl _) hb)
        replace HR := hide ((unhide HR).later hb)
        replace HW := hide (below_on (unhide HW) hb)
        clear hb
        go_wp2_with fail
        refine (signS8 A _).mono ?_
        rintro e w4 ⟨rfl, rfl⟩
        go_wp2_with fail
        refine (unhide CE _ ai d (unhide K1) (unhide K4) i hlt).mono ?_
        rintro e w5 ⟨rfl, hb⟩
        replace HR := hide ((unhide HR).later hb)
        replace HW := hide (below_on (unhide HW) hb)
        clear hb K1 K4
        have LI := filt_len (f := f) i
        cases hfi : f i
        · have RN : Hid (RwI w2.heap.size w5 _ (cI ((List.range (i + 1)).filter f))) := hide (by rw [filt_no hfi]; exact unhide HR)
          clear HR
          go_wp2
          go_roundw
          case rel => exact ⟨i + 1, by omega, by go_num, RN, HW⟩
          case measure => simp [intOf]; omega
        · go_wp2_with (at_builtin; refine wpList_append_own _ rfl (.tmp 24) (.tmp 26) 25 rfl w2.heap.size 3 i0 (.int .i64 0) 1 8 Try.underlying25 hi hz0 hz1 hz2 rfl (by decide) _ _ _ rfl ((unhide HR).row.alloc _) ⟨_, 0, none⟩ 1 1 [.int .i64 (i : Int)] rfl rfl (new_cellI _ _) (fun u hu => by simp at hu; subst hu; rfl) (by unfold maxLen; omega) (by omega) (by have := (unhide HW).size; simp; omega) ?_)
          intro v' w6 hown hgr _
          have RN : Hid (RwI w2.heap.size w6 v' (cI ((List.range (i + 1)).filter f))) := hide (by rw [filt_yes hfi]; exact RwI.snoc hown)
          have HWN := hide (owns_belowR (unhide HW) (unhide HW).size (unhide HR).row hgr)
          clear hown hgr HR
          go_wp2
          go_roundw
          case rel => exact ⟨i + 1, by omega, by go_num, RN, HWN⟩
          case measure => simp [intOf]; omega
      · obtain rfl : i = n := by omega
        obtain ⟨a', c', rfl, rt⟩ := (unhide HR).rt
        have R1 := hide rt
        have LI := filt_len (f := f) i
        clear rt HR
        go_wp2
        go_ret2
        exact ⟨a', _, c', rfl, below_on (unhide HB) (unhide HW), (unhide R1).mono (unhide HB).size, by omega⟩
end Go.Proofs.Ytblhjeepelgdaaa
namespace Go.Proofs.Ytblhjeepelgdaaa
open Go.RowKit Go.ChangeMaps
set_option linter.unusedVariables false
set_option maxRecDepth 100000
set_option linter.unusedSimpArgs false

/-- An ear's triangle. -/
def triE (L : List Nat) (i : Nat) : Int × Int × Int := ((bef L i : Nat), (L.getD i 0 : Nat), (aft L i : Nat))
def earT (l : List (Int × Int)) (L : List Nat) (t : Int) : List (Int × Int × Int) := (earL l L t).map (triE L)
theorem emptyT (w : World) : RwT w.heap.size (w.alloc (.cells #[] 33)) (.slice (some ⟨w.heap.size, 0, none⟩) 0 0) [] := by
  refine ⟨⟨rfl, .inr ⟨w.heap.size, 0, #[], rfl, Nat.le_refl _, ?_, by simp, by simp, by simp, rfl⟩⟩⟩
  show (w.heap.push _)[w.heap.size]? = _
  simp
theorem filtT_yes {f : Nat → Bool} {g : Nat → Int × Int × Int} {i : Nat} (h : f i = true) : ((List.range (i + 1)).filter f).map g = ((List.range i).filter f).map g ++ [g i] := by
  rw [List.range_succ, List.filter_append]
  simp [h]
theorem filtT_len {f : Nat → Bool} {g : Nat → Int × Int × Int} (i : Nat) : (((List.range i).filter f).map g).length ≤ i := by
  rw [List.length_map]
  exact Nat.le_trans (List.length_filter_le _ _) (by simp)
set_option maxHeartbeats 8000000 in
theorem earsI (B clock : Nat) (l : List (Int × Int)) (L : List Nat) (t : Int) (w : World) (h : MpC w B l L clock) (h3 : 3 ≤ L.length) (ht : t ≠ 0) :
    Calls Try.prog 67 #[.map (some B), .int .i64 t] w fun e w' => ∃ v, e = .returned v ∧ Below w.heap.size w w' ∧ RwT w.heap.size w' v (earT l L t) := by
  obtain ⟨i0, hi0, hz0, hz1, hz2⟩ := info_parts infoTri
  have L12 : L.length ≤ 12 := by
    have nd : L.Nodup := h.up.imp (fun h => by omega)
    have := subl11 nd (List.nodup_range (n := l.length)) (fun k hk => List.mem_range.2 (h.top k hk))
    have := h.n12
    simp at *; omega
  have C1 := hide (orderI B clock l L w h.at_ h.up h.clk (by omega) L12)
  have EV : earT l L t = ((List.range L.length).filter (fun i => earB l L i t)).map (triE L) := rfl
  rw [EV]
  obtain ⟨n, hn⟩ : ∃ n, n = L.length := ⟨_, rfl⟩
  have HM := hide h
  clear h EV
  go_enter Try.func67, Try.ntmps67
  go_wp2_with fail
  refine (unhide C1).mono ?_
  rintro e w1 ⟨v5, rfl, hb, rw5⟩
  obtain ⟨ai, d, rfl, sl5⟩ := rw5.sl
  rw [cI_len]
  replace HM := hide ((unhide HM).later hb)
  have HB := hide hb
  have S5 := hide sl5
  clear hb rw5 sl5 C1
  rw [← hn]
  have n3 : 3 ≤ n := by omega
  have n12 : n ≤ 12 := by omega
  have HN := hide hn
  clear hn h3 L12
  have E2 := hide (emptyT w1)
  go_wp2
  go_loopw [7, 18] (fun v iv wr => ∃ i : Nat, i ≤ n ∧ iv = .int .i64 i ∧ Hid (RwT w1.heap.size wr v (((List.range i).filter (fun i => earB l L i t)).map (triE L))) ∧ Hid (Below w1.heap.size w1 wr)) (fun _ iv _ => n - (intOf iv).toNat)
  case atStart => exact ⟨0, Nat.zero_le _, rfl, E2, hide ((Below.refl _ _).alloc (Nat.le_refl _) _)⟩
  case round =>
    obtain ⟨i, hi, rfl, HR, HW⟩ := hrel
    by_cases hlt : i < n
    · have hn := unhide HN
      have hlt' : (i : Int) < (n : Int) := by omega
      have hlL : i < L.length := by omega
      obtain ⟨j, hj⟩ : ∃ j, j = (i + n - 1) % n := ⟨_, rfl⟩
      obtain ⟨k, hk⟩ : ∃ k, k = (i + 1) % n := ⟨_, rfl⟩
      have jl : j < n := by rw [hj]; exact Nat.mod_lt _ (by omega)
      have kl : k < n := by rw [hk]; exact Nat.mod_lt _ (by omega)
      have SW := (unhide S5).later (Nat.le_refl _) (unhide HW)
      rcases SW with e | ⟨q, off, rfl, hq, hc⟩
      · have := cI_len L; rw [e] at this; simp at this; omega
      have c0 := hc i (by rw [cI_len]; omega)
      have c1 := hc j (by rw [cI_len]; omega)
      have c2 := hc k (by rw [cI_len]; omega)
      rw [cI_at] at c0 c1 c2
      have ex : L.getD j 0 = bef L i := by unfold bef; rw [← hn, hj]
      have ez : L.getD k 0 = aft L i := by unfold aft; rw [← hn, hk]
      rw [ex] at c1
      rw [ez] at c2
      have mx := bef_mem hlL
      have my := mem_at hlL
      have mz := aft_mem hlL
      have HMr := (unhide HM).later (unhide HW)
      have CT := hide (fun w' (k : MpC w' B l L clock) => turnAtI B clock l L (bef L i) (L.getD i 0) (aft L i) w' k mx my mz)
      have CO := hide (fun w' (k : MpC w' B l L clock) (s : Sl w' (some ⟨q, off, none⟩) (cI L)) hne => otherI B clock l L (bef L i) (L.getD i 0) (aft L i) (some ⟨q, off, none⟩) d w' k mx my mz hne s)
      have FI : Hid (earB l L i t = ((sgZ (crs (l.getD (bef L i) (0, 0)) (l.getD (L.getD i 0) (0, 0)) (l.getD (aft L i) (0, 0))) == t) && L.all (okE l (bef L i) (L.getD i 0) (aft L i)))) := hide rfl
      have TE : Hid (triE L i = ((bef L i : Int), (L.getD i 0 : Int), (aft L i : Int))) := hide rfl
      have SS := hide ((unhide S5).later (Nat.le_refl _) (unhide HW))
      have MM := hide HMr
      clear HMr hc ex ez mx my mz
      rw [← hn] at CO
      generalize L.all (okE l (bef L i) (L.getD i 0) (aft L i)) = al at *
      generalize sgZ (crs (l.getD (bef L i) (0, 0)) (l.getD (L.getD i 0) (0, 0)) (l.getD (aft L i) (0, 0))) = sg at *
      generalize bef L i = x at *
      generalize L.getD i 0 = y at *
      generalize aft L i = z at *
      have d1 : IntKind.i64.wrap ((i : Int) + (n : Int)) = (i : Int) + (n : Int) := by rw [IntKind.wrap_i64]; omega
      have d2 : IntKind.i64.wrap ((i : Int) + (n : Int) - 1) = (i : Int) + (n : Int) - 1 := by rw [IntKind.wrap_i64]; omega
      have d3 : IntKind.i64.wrap ((i : Int) + 1) = (i : Int) + 1 := by rw [IntKind.wrap_i64]; omega
      have j1 : ((i : Int) + (n : Int) - 1).tmod (n : Int) = (j : Int) := by rw [hj, show (i : Int) + (n : Int) - 1 = ((i + n - 1 : Nat) : Int) by omega]; rfl
      have j2 : ((i : Int) + (n : Int) - 1) % (n : Int) = (j : Int) := by rw [hj, show (i : Int) + (n : Int) - 1 = ((i + n - 1 : Nat) : Int) by omega]; rfl
      have k1 : ((i : Int) + 1).tmod (n : Int) = (k : Int) := by rw [hk, ← Int.natCast_one, ← Int.natCast_add]; rfl
      have k2 : ((i : Int) + 1) % (n : Int) = (k : Int) := by rw [hk, ← Int.natCast_one, ← Int.natCast_add]; rfl
      have wj : IntKind.i64.wrap (j : Int) = (j : Int) := by rw [IntKind.wrap_i64]; omega
      have wk : IntKind.i64.wrap (k : Int) = (k : Int) := by rw [IntKind.wrap_i64]; omega
      have jl' : (j : Int) < (n : Int) := by omega
      have kl' : (k : Int) < (n : Int) := by omega
      have j0 : (0 : Int) ≤ (j : Int) := by omega
      have k0 : (0 : Int) ≤ (k : Int) := by omega
      have nz2 : (n : Int) ≠ 0 := by omega
      have nz3 : ¬ (n = 0) := by omega
      have nz4 : ¬ ((n : Int) = -1) := by omega
      clear hj hk hn hlL
      go_upto_region 7 with fail
      go_region
      have bl : Below wr.heap.size wr ((wr.alloc (.cells #[.int .i64 (x : Int), .int .i64 (y : Int), .int .i64 (z : Int)] 33)).drew) := ((Below.refl _ _).alloc (Nat.le_refl _) _).drew
      have t0 : ((wr.alloc (.cells #[.int .i64 (x : Int), .int .i64 (y : Int), .int .i64 (z : Int)] 33)).drew).cell? ⟨wr.heap.size, 0, none⟩ = some (.int .i64 (x : Int)) := by simp [go_sem]
      have t1 : ((wr.alloc (.cells #[.int .i64 (x : Int), .int .i64 (y : Int), .int .i64 (z : Int)] 33)).drew).cell? ⟨wr.heap.size, 1, none⟩ = some (.int .i64 (y : Int)) := by simp [go_sem]
      have t2 : ((wr.alloc (.cells #[.int .i64 (x : Int), .int .i64 (y : Int), .int .i64 (z : Int)] 33)).drew).cell? ⟨wr.heap.size, 2, none⟩ = some (.int .i64 (z : Int)) := by simp [go_sem]
      replace MM := hide ((unhide MM).later bl)
      replace SS := hide ((unhide SS).later (Nat.le_refl _) bl)
      replace HR := hide ((unhide HR).later bl)
      replace HW := hide (below_on (unhide HW) bl)
      clear bl c0 c1 c2 d1 d2 d3 j1 j2 k1 k2 wj wk jl' kl' j0 k0 nz2 nz3 nz4 hq
      generalize ((wr.alloc (.cells #[.int .i64 (x : Int), .int .i64 (y : Int), .int .i64 (z : Int)] 33)).drew) = w4 at *
      generalize wr.heap.size = G at *
      have LF := filtT_len (f := fun i => earB l L i t) (g := triE L) i
      cases hs : (sg == t)
      · have FN : Hid (earB l L i t = false) := hide (by rw [unhide FI, hs]; rfl)
        have FE : Hid ((List.range (i + 1)).filter (fun i => earB l L i t) = (List.range i).filter (fun i => earB l L i t)) := hide (filt_no (f := fun i => earB l L i t) (unhide FN))
        clear FI FN
        · skip
          go_wp2_with fail
          refine (unhide CT _ (unhide MM)).mono ?_
          rintro e w5 ⟨rfl, hb⟩
          replace t0 := (hb.cell (p := ⟨G, 0, none⟩) (World.block_lt_of_cell? _ _ t0)).trans t0
          replace t1 := (hb.cell (p := ⟨G, 1, none⟩) (World.block_lt_of_cell? _ _ t1)).trans t1
          replace t2 := (hb.cell (p := ⟨G, 2, none⟩) (World.block_lt_of_cell? _ _ t2)).trans t2
          replace MM := hide ((unhide MM).later hb)
          replace SS := hide ((unhide SS).later (Nat.le_refl _) hb)
          replace HR := hide ((unhide HR).later hb)
          replace HW := hide (below_on (unhide HW) hb)
          clear hb
          clear MM SS t0 t1 t2
          have RN := HR
          rw [← unhide FE] at RN
          go_wp2
          go_roundw
          case rel => exact ⟨i + 1, by omega, by go_num, RN, HW⟩
          case measure => simp [intOf]; omega
      · have st : sg = t := by simpa using hs
        have NE : Hid (sg ≠ 0) := hide (by rw [st]; exact ht)
        clear st
        cases al
        · have FN : Hid (earB l L i t = false) := hide (by rw [unhide FI, hs]; rfl)
          have FE : Hid ((List.range (i + 1)).filter (fun i => earB l L i t) = (List.range i).filter (fun i => earB l L i t)) := hide (filt_no (f := fun i => earB l L i t) (unhide FN))
          clear FI FN
          go_wp2_with fail
          refine (unhide CT _ (unhide MM)).mono ?_
          rintro e w5 ⟨rfl, hb⟩
          replace t0 := (hb.cell (p := ⟨G, 0, none⟩) (World.block_lt_of_cell? _ _ t0)).trans t0
          replace t1 := (hb.cell (p := ⟨G, 1, none⟩) (World.block_lt_of_cell? _ _ t1)).trans t1
          replace t2 := (hb.cell (p := ⟨G, 2, none⟩) (World.block_lt_of_cell? _ _ t2)).trans t2
          replace MM := hide ((unhide MM).later hb)
          replace SS := hide ((unhide SS).later (Nat.le_refl _) hb)
          replace HR := hide ((unhide HR).later hb)
          replace HW := hide (below_on (unhide HW) hb)
          clear hb
          go_wp2_with fail
          refine (unhide CO _ (unhide MM) (unhide SS) (unhide NE)).mono ?_
          rintro e w6 ⟨rfl, hb⟩
          replace t0 := (hb.cell (p := ⟨G, 0, none⟩) (World.block_lt_of_cell? _ _ t0)).trans t0
          replace t1 := (hb.cell (p := ⟨G, 1, none⟩) (World.block_lt_of_cell? _ _ t1)).trans t1
          replace t2 := (hb.cell (p := ⟨G, 2, none⟩) (World.block_lt_of_cell? _ _ t2)).trans t2
          replace HR := hide ((unhide HR).later hb)
          replace HW := hide (below_on (unhide HW) hb)
          clear hb MM SS
          clear t0 t1 t2
          have RN := HR
          rw [← unhide FE] at RN
          go_wp2
          go_roundw
          case rel => exact ⟨i + 1, by omega, by go_num, RN, HW⟩
          case measure => simp [intOf]; omega
        · have FN : Hid (earB l L i t = true) := hide (by rw [unhide FI, hs]; rfl)
          have FE : Hid (((List.range (i + 1)).filter (fun i => earB l L i t)).map (triE L) = ((List.range i).filter (fun i => earB l L i t)).map (triE L) ++ [triE L i]) := hide (filtT_yes (f := fun i => earB l L i t) (unhide FN))
          rw [unhide TE] at FE
          clear FI FN
          go_wp2_with fail
          refine (unhide CT _ (unhide MM)).mono ?_
          rintro e w5 ⟨rfl, hb⟩
          replace t0 := (hb.cell (p := ⟨G, 0, none⟩) (World.block_lt_of_cell? _ _ t0)).trans t0
          replace t1 := (hb.cell (p := ⟨G, 1, none⟩) (World.block_lt_of_cell? _ _ t1)).trans t1
          replace t2 := (hb.cell (p := ⟨G, 2, none⟩) (World.block_lt_of_cell? _ _ t2)).trans t2
          replace MM := hide ((unhide MM).later hb)
          replace SS := hide ((unhide SS).later (Nat.le_refl _) hb)
          replace HR := hide ((unhide HR).later hb)
          replace HW := hide (below_on (unhide HW) hb)
          clear hb
          go_wp2_with fail
          refine (unhide CO _ (unhide MM) (unhide SS) (unhide NE)).mono ?_
          rintro e w6 ⟨rfl, hb⟩
          replace t0 := (hb.cell (p := ⟨G, 0, none⟩) (World.block_lt_of_cell? _ _ t0)).trans t0
          replace t1 := (hb.cell (p := ⟨G, 1, none⟩) (World.block_lt_of_cell? _ _ t1)).trans t1
          replace t2 := (hb.cell (p := ⟨G, 2, none⟩) (World.block_lt_of_cell? _ _ t2)).trans t2
          replace HR := hide ((unhide HR).later hb)
          replace HW := hide (below_on (unhide HW) hb)
          clear hb MM SS
          go_wp2_with (at_builtin; refine wpList_append_own _ rfl (.tmp 53) (.tmp 55) 29 rfl w1.heap.size 33 i0 (.agg #[.int .i64 0, .int .i64 0, .int .i64 0]) 3 24 Try.underlying29 hi0 hz0 hz1 hz2 rfl (by decide) _ _ _ rfl ((unhide HR).row.alloc _) ⟨_, 0, none⟩ 1 1 [.int .i64 (x : Int), .int .i64 (y : Int), .int .i64 (z : Int)] rfl rfl (new_cellT _ _ _ _) (fun u hu => by simp at hu; rcases hu with rfl | rfl | rfl <;> rfl) (by unfold maxLen; omega) (by omega) (by have := (unhide HW).size; simp; omega) ?_)
          intro v' w7 hown hgr _
          have RN : Hid (RwT w1.heap.size w7 v' (((List.range (i + 1)).filter (fun i => earB l L i t)).map (triE L))) := hide (by rw [unhide FE]; refine RwT.snoc ?_; rw [List.length_map]; exact hown)
          replace HW := hide (owns_belowR (unhide HW) (unhide HW).size (unhide HR).row hgr)
          clear hown hgr HR t0 t1 t2
          go_wp2
          go_roundw
          case rel => exact ⟨i + 1, by omega, by go_num, RN, HW⟩
          case measure => simp [intOf]; omega
    · obtain rfl : i = n := by omega
      have RE := hide ((unhide HR).mono (unhide HB).size)
      clear HR
      go_wp2
      go_ret
      exact ⟨_, rfl, below_on (unhide HB) (unhide HW), by rw [← unhide HN]; exact unhide RE⟩
end Go.Proofs.Ytblhjeepelgdaaa
namespace Go.Proofs.Ytblhjeepelgdaaa
open Go.RowKit Go.ChangeMaps
set_option linter.unusedVariables false
set_option maxRecDepth 100000
set_option linter.unusedSimpArgs false

theorem turnWI (a : Option Addr) (n c : Nat) (l : List (Int × Int)) (w : World) (h : SlP w a l) (hn : l.length = n) (h0 : 0 < n) (h12 : n ≤ 12) (hg : ∀ p ∈ l, Near p) (hz : arS l l.length ≠ 0) :
    Calls Try.prog 68 #[.slice a n c] w fun e w' => e = .returned (.int .i64 (sgZ (arS l l.length))) ∧ Below w.heap.size w w' := by
  have CA := hide (areaI a n c l w h hn h0 h12 hg)
  clear h hn hg
  generalize arS l l.length = A at *
  rcases sg_cases A with ⟨k, e⟩ | ⟨k, e⟩ | ⟨k, e⟩
  · rw [e]
    have d : decide (0 < A) = true := decide_eq_true k
    clear e hz
    go_enter Try.func68, Try.ntmps68
    go_wp2_with fail
    refine (unhide CA).mono ?_
    rintro e w1 ⟨rfl, hb⟩
    go_wp2_with fail
    go_ret
    exact ⟨rfl, hb⟩
  · exact absurd k hz
  · rw [e]
    have d : decide (0 < A) = false := decide_eq_false (by omega)
    have d2 : ¬ (0 < A) := by omega
    clear e hz
    go_enter Try.func68, Try.ntmps68
    go_wp2_with fail
    refine (unhide CA).mono ?_
    rintro e w1 ⟨rfl, hb⟩
    go_wp2_with fail
    go_ret
    exact ⟨rfl, hb⟩
theorem emptyI (w : World) : RwI w.heap.size (w.alloc (.cells #[] 3)) (.slice (some ⟨w.heap.size, 0, none⟩) 0 0) [] := by
  refine ⟨⟨rfl, .inr ⟨w.heap.size, 0, #[], rfl, Nat.le_refl _, ?_, by simp, by simp, by simp, rfl⟩⟩⟩
  show (w.heap.push _)[w.heap.size]? = _
  simp
/-- A good simple way turns. -/
theorem ip_turn {l : List (Int × Int)} (h : ipB l = true) : arS l l.length ≠ 0 ∧ (sgZ (arS l l.length) = 1 ∨ sgZ (arS l l.length) = -1) := by
  have p := ip_parts h
  have w3 := (way_parts p.1).1.1
  have G := goodL_of w3 p.2
  have t : sgZ (arS l l.length) = 1 ∨ sgZ (arS l l.length) = -1 := by
    rcases G.2 with ⟨k, _⟩ | ⟨k, _⟩
    · exact .inl k
    · exact .inr k
  refine ⟨fun e => ?_, t⟩
  rw [e] at t
  rcases t with k | k <;> exact absurd k (by decide)
theorem range_up (n : Nat) : (List.range n).Pairwise (· < ·) := List.pairwise_lt_range
theorem mpC_of {w w' : World} {B n : Nat} {l : List (Int × Int)} (hm : w'.heap[B]? = some (.map (mpL l (List.range n)).toArray n)) (hn : l.length = n) (h12 : n ≤ 12) (hg : ∀ p ∈ l, Near p) : MpC w' B l (List.range n) n :=
  ⟨hm, (Array.getElem?_eq_some_iff.1 hm).1, range_up n, fun k hk => List.mem_range.1 hk, fun k hk => by have := List.mem_range.1 hk; omega, by omega, hg⟩
/-- The ears' own numbers. -/
theorem ear_nums (l : List (Int × Int)) (n : Nat) (t : Int) : (earT l (List.range n) t).map (fun q => q.2.1) = cI (earL l (List.range n) t) := by
  unfold earT earL cI triE
  rw [List.map_map, List.length_range]
  apply List.map_congr_left
  intro i hi
  have := List.mem_range.1 (List.mem_filter.1 hi).1
  simp only [Function.comp, range_at this]
theorem take_snocT {T : List (Int × Int × Int)} {i : Nat} (h : i < T.length) : (T.take (i + 1)).map (fun q => q.2.1) = (T.take i).map (fun q => q.2.1) ++ [T[i].2.1] := by
  have e := (List.take_append_getElem h).symm
  rw [e, List.map_append]
  rfl
set_option maxHeartbeats 8000000 in
theorem EarsOfI (a : Option Addr) (n c : Nat) (l : List (Int × Int)) (w : World) (h : ArP w a n c l) (h1 : n ≤ 1048576) :
    Calls Try.prog 25 #[.slice a n c] w fun e w' => ∃ a' n' c', e = .returned (.tuple #[.slice a' n' c', .bool (ipB l)]) ∧ Below w.heap.size w w' ∧ RtI w.heap.size w' a' n' c' (eaV l) ∧ n' ≤ 1048576 := by
  have hn := h.len
  have CG := hide (fun w (k : SlP w a l) => gswI a n c l w k hn h1)
  have HS := hide h.sl
  cases hp : ipB l
  · rw [hp] at CG
    have EV : eaV l = [] := by unfold eaV; rw [hp]; rfl
    rw [EV]
    clear hp h hn EV
    go_enter Try.func25, Try.ntmps25
    go_wp2_with fail
    refine (unhide CG _ (unhide HS)).mono ?_
    rintro e w1 ⟨rfl, hb⟩
    go_wp2_with fail
    go_ret2
    exact ⟨none, 0, 0, rfl, hb, ⟨rfl, .inl rfl⟩, by omega⟩
  · rw [hp] at CG
    have wp := way_parts (ip_parts hp).1
    have tn := ip_turn hp
    have n12 : n ≤ 12 := by omega
    have n3 : 3 ≤ n := by omega
    have CL := hide (fun w (k : SlP w a l) => leftI a n c l w k hn (by omega) n12)
    have CT := hide (fun w (k : SlP w a l) => turnWI a n c l w k hn (by omega) n12 wp.2 tn.1)
    have CE := hide (fun w B (k : MpC w B l (List.range n) n) => earsI B n l (List.range n) (sgZ (arS l l.length)) w k (by simpa using n3) (by rcases tn.2 with e | e <;> rw [e] <;> decide))
    have CM := hide (fun (w : World) (B : Nat) (k : w.heap[B]? = some (Obj.map (mpL l (List.range n)).toArray n)) => mpC_of (w := w) (w' := w) k hn n12 wp.2)
    have EV : eaV l = (earT l (List.range n) (sgZ (arS l l.length))).map (fun q => q.2.1) := by unfold eaV; rw [hp, ear_nums, hn]; rfl
    have LE : (earT l (List.range n) (sgZ (arS l l.length))).length ≤ n := by unfold earT; rw [List.length_map]; unfold earL; exact Nat.le_trans (List.length_filter_le _ _) (by simp)
    rw [EV]
    generalize earT l (List.range n) (sgZ (arS l l.length)) = T at *
    generalize sgZ (arS l l.length) = t at *
    clear hp h hn wp EV tn
    obtain ⟨i0, hi0, hz0, hz1, hz2⟩ := info_parts Try.info3
    go_enter Try.func25, Try.ntmps25
    go_wp2_with fail
    refine (unhide CG _ (unhide HS)).mono ?_
    rintro e w1 ⟨rfl, hb⟩
    have bl : Below w1.heap.size w1 (w1.alloc (.cells #[] 3)) := (Below.refl _ _).alloc (Nat.le_refl _) _
    replace HS := hide (((unhide HS).later hb).later bl)
    have HB := hide (below_on hb bl)
    have B1 := hide hb
    have E2 := hide (emptyI w1)
    have lt2 : w1.heap.size < (w1.alloc (.cells #[] 3)).heap.size := by simp
    clear hb CG bl
    go_wp2_with fail
    generalize hw2 : w1.alloc (.cells #[] 3) = w2 at *
    clear hw2
    refine (unhide CL _ (unhide HS)).mono ?_
    rintro e w3 ⟨rfl, m3, hb⟩
    have M3 := hide (unhide CM w3 _ m3)
    replace HS := hide ((unhide HS).later hb)
    replace E2 := hide ((unhide E2).later hb)
    replace HB := hide (below_on (unhide HB) hb)
    have lt3 : w1.heap.size < w3.heap.size := Nat.lt_of_lt_of_le lt2 hb.size
    clear hb m3 CL CM lt2
    generalize w2.heap.size = BM at *
    go_wp2_with fail
    refine (unhide CT _ (unhide HS)).mono ?_
    rintro e w4 ⟨rfl, hb⟩
    replace M3 := hide ((unhide M3).later hb)
    replace E2 := hide ((unhide E2).later hb)
    replace HB := hide (below_on (unhide HB) hb)
    have lt4 : w1.heap.size < w4.heap.size := Nat.lt_of_lt_of_le lt3 hb.size
    clear hb CT lt3 HS
    go_wp2_with fail
    refine (unhide CE _ _ (unhide M3)).mono ?_
    rintro e w5 ⟨v15, rfl, hb, rt⟩
    obtain ⟨at_, ct, rfl, hT⟩ : ∃ a c, v15 = .slice a T.length c ∧ (T = [] ∨ ∃ g, a = some ⟨g, 0, none⟩ ∧ w4.heap.size ≤ g ∧ g < w5.heap.size ∧ ∀ i (h : i < T.length), w5.cell? ⟨g, i * 3, none⟩ = some (.int .i64 T[i].1) ∧ w5.cell? ⟨g, i * 3 + 1, none⟩ = some (.int .i64 T[i].2.1) ∧ w5.cell? ⟨g, i * 3 + 2, none⟩ = some (.int .i64 T[i].2.2)) := by
      rcases rt.open with ⟨e1, e2⟩ | ⟨g, c', e1, h2, h3, _, _, h6⟩
      · exact ⟨none, 0, by rw [e1, e2]; rfl, .inl e2⟩
      · exact ⟨_, c', e1, .inr ⟨g, rfl, h2, h3, h6⟩⟩
    have HT := hide hT
    replace E2 := hide ((unhide E2).later hb)
    replace HB := hide (below_on (unhide HB) hb)
    have lt5 : w1.heap.size < w5.heap.size := Nat.lt_of_lt_of_le lt4 hb.size
    clear hb CE M3 rt hT
    go_wp2_with fail
    go_loopw [4, 17] (fun v iv wr => ∃ i : Nat, i ≤ T.length ∧ iv = .int .i64 i ∧ Hid (RwI w1.heap.size wr v ((T.take i).map (fun q => q.2.1))) ∧ Hid (∀ k, v.ownBlock = some k → k = w1.heap.size ∨ w5.heap.size ≤ k) ∧ Hid (But w1.heap.size (w1.heap.size + 1) w5 wr)) (fun _ iv _ => T.length - (intOf iv).toNat)
    case atStart => exact ⟨0, Nat.zero_le _, rfl, E2, hide (fun k hk => by simp [Value.ownBlock] at hk; exact .inl hk.symm), hide (But.refl _ _ _)⟩
    case round =>
      obtain ⟨i, hi, rfl, HR, HO, HU⟩ := hrel
      by_cases hlt : i < T.length
      · have hlt' : (i : Int) < (T.length : Int) := by omega
        rcases (unhide HT) with e | ⟨g, rfl, hg4, hg5, hc⟩
        · rw [e] at hlt; simp at hlt
        obtain ⟨c0, c1, c2⟩ := hc i hlt
        replace c0 := (unhide HU).cell c0 (.inr (by omega))
        replace c1 := (unhide HU).cell c1 (.inr (by omega))
        replace c2 := (unhide HU).cell c2 (.inr (by omega))
        have TS : Hid ((T.take (i + 1)).map (fun q => q.2.1) = (T.take i).map (fun q => q.2.1) ++ [T[i].2.1]) := hide (take_snocT hlt)
        have LI : ((T.take i).map (fun q => q.2.1)).length = i := by simp; omega
        generalize T[i] = q at *
        generalize (T.take i).map (fun q => q.2.1) = LS at *
        have us := (unhide HU).size
        have al : Below wr.heap.size wr (wr.alloc (.cells #[.int .i64 q.1, .int .i64 q.2.1, .int .i64 q.2.2] 33)) := (Below.refl _ _).alloc (Nat.le_refl _) _
        have RA := hide ((unhide HR).later al)
        have UA := hide ((unhide HU).trans (But.of_below al))
        have sa : wr.heap.size ≤ (wr.alloc (.cells #[.int .i64 q.1, .int .i64 q.2.1, .int .i64 q.2.2] 33)).heap.size := al.size
        have b1 : (wr.alloc (.cells #[.int .i64 q.1, .int .i64 q.2.1, .int .i64 q.2.2] 33)).cell? ⟨wr.heap.size, 1, none⟩ = some (.int .i64 q.2.1) := by simp [go_sem]
        have AB := hide al
        clear al hc
        go_upto_region 7 with fail
        generalize wr.alloc (.cells #[.int .i64 q.1, .int .i64 q.2.1, .int .i64 q.2.2] 33) = wA at *
        go_wp2_with (at_builtin; refine wpList_append_own_at _ rfl (.tmp 21) (.tmp 24) 25 rfl w1.heap.size 3 i0 (.int .i64 0) 1 8 Try.underlying25 hi0 hz0 hz1 hz2 rfl (by decide) _ _ _ rfl ((unhide RA).row.alloc _) ⟨_, 0, none⟩ 1 1 [.int .i64 q.2.1] rfl rfl (new_cellI _ _) (fun u hu => by simp at hu; subst hu; rfl) (by unfold maxLen; omega) (by omega) (by simp; omega) ?_)
        intro v' w6 hown hgr _ hob
        have RN : Hid (RwI w1.heap.size w6 v' ((T.take (i + 1)).map (fun q => q.2.1))) := hide (by rw [unhide TS]; refine RwI.snoc ?_; first | exact hown | (rw [LI]; exact hown))
        have ON : Hid (∀ k, v'.ownBlock = some k → k = w1.heap.size ∨ w5.heap.size ≤ k) := hide (fun k hk => by
          rcases hob with e | e
          · exact unhide HO k (by rw [← e]; exact hk)
          · rw [e] at hk
            simp only [Option.some.injEq] at hk
            have := (unhide UA).size
            right
            rw [← hk]
            simp at *
            omega)
        have UN : Hid (But w1.heap.size (w1.heap.size + 1) w5 w6) := hide (by
          have ab : Below wr.heap.size wr (wA.alloc (.cells #[.int .i64 q.2.1] 3)) := (unhide AB).alloc sa _
          have u := unhide HU
          refine ⟨hgr.os.trans (ab.os.trans u.os), hgr.tape.trans (ab.tape.trans u.tape), hgr.output.trans (ab.output.trans u.output), Nat.le_trans u.size (Nat.le_trans ab.size hgr.size), fun k hk hj => ?_⟩
          rw [hgr.block k (Nat.lt_of_lt_of_le hk (Nat.le_trans u.size ab.size)) (fun e => by have := unhide HO k e.symm; omega), ab.block k (Nat.lt_of_lt_of_le hk u.size)]
          exact u.block k hk hj)
        clear hown hgr hob HR HO HU RA UA
        go_wp2
        go_roundw
        case rel => exact ⟨i + 1, by omega, by go_num, RN, ON, UN⟩
        case measure => simp [intOf]; omega
      · obtain rfl : i = T.length := by omega
        obtain ⟨a', c', rfl, rr⟩ := (unhide HR).rt
        rw [List.take_length] at rr
        have R1 := hide rr
        have BE := hide ((unhide HU).below (unhide HB) (unhide B1).size (unhide HB).size)
        clear rr HR HO HU
        go_wp2
        go_ret2
        exact ⟨a', _, c', rfl, unhide BE, ⟨by simp, (unhide R1).own.mono (unhide B1).size⟩, by simp; omega⟩
end Go.Proofs.Ytblhjeepelgdaaa
