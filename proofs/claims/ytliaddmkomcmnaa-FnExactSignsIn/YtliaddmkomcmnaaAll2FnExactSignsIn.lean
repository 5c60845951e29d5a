/- The law FnExactSignsIn returns true for every argument and leaves it as it was: the given statement FnExactSignsInSaid. No condition. -/
import Derived.Test.YtliaddmkomcmnaaPackSW
import Derived.Lib.SliceRun
import Derived.Lib.LazyBuf
import Derived.Test.YtliaddmkomcmnaaPackM
import Derived.Test.YtliaddmkomcmnaaOpenQ
import Derived.Deep.Slices
import Derived.Test.YtliaddmkomcmnaaIo
namespace Go.Proofs.Ytliaddmkomcmnaa
open Go.RowKit
set_option linter.unusedVariables false
set_option maxRecDepth 100000
set_option linter.unusedSimpArgs false

/-- The signs of those that are not 0. -/
def negs (ds : List QD) : List Bool := (ds.filter (fun d => !nz d)).map (fun d => d.num.g)
def cnt (l : List Bool) : Nat → Nat
  | 0 => 0
  | 1 => 0
  | k + 2 => cnt l (k + 1) + (if l[k]? = l[k + 1]? then 0 else 1)
theorem cnt_app (F : List Bool) (b : Bool) : ∀ k, k ≤ F.length → cnt (F ++ [b]) k = cnt F k
  | 0, _ => rfl
  | 1, _ => rfl
  | k + 2, h => by
    show cnt (F ++ [b]) (k + 1) + _ = cnt F (k + 1) + _
    rw [cnt_app F b (k + 1) (by omega), List.getElem?_append_left (by omega), List.getElem?_append_left (by omega)]
def lastS (F : List Bool) : Int := match F.getLast? with
  | none => 0
  | some true => -1
  | some false => 1
theorem cnt_snoc (F : List Bool) (b : Bool) : cnt (F ++ [b]) (F ++ [b]).length = cnt F F.length + (match F.getLast? with | none => 0 | some c => if c = b then 0 else 1) := by
  rw [List.length_append, List.length_singleton]
  rcases Nat.eq_zero_or_pos F.length with h | h
  · have : F = [] := List.length_eq_zero_iff.1 h
    subst this
    rfl
  · obtain ⟨m, hm⟩ : ∃ m, F.length = m + 1 := ⟨F.length - 1, by omega⟩
    rw [hm]
    show cnt (F ++ [b]) (m + 1) + _ = _
    rw [cnt_app F b (m + 1) (by omega), List.getElem?_append_left (by omega), List.getElem?_append_right (by omega), List.getLast?_eq_getElem?, hm]
    simp only [Nat.add_sub_cancel]
    rw [List.getElem?_eq_getElem (by omega)]
    simp
theorem lastS_snoc (F : List Bool) (b : Bool) : lastS (F ++ [b]) = if b then -1 else 1 := by
  unfold lastS
  rw [List.getLast?_concat]
  cases b <;> rfl
theorem lastS_cases (F : List Bool) : (F.getLast? = none ∧ lastS F = 0) ∨ (F.getLast? = some true ∧ lastS F = -1) ∨ (F.getLast? = some false ∧ lastS F = 1) := by
  unfold lastS
  cases h : F.getLast? with
  | none => exact .inl ⟨rfl, rfl⟩
  | some b => cases b with
    | true => exact .inr (.inl ⟨rfl, rfl⟩)
    | false => exact .inr (.inr ⟨rfl, rfl⟩)
theorem negs_snoc (ds : List QD) (d : QD) : negs (ds ++ [d]) = if nz d then negs ds else negs ds ++ [d.num.g] := by
  unfold negs
  rw [List.filter_append, List.map_append]
  cases h : nz d <;> simp [h]
theorem negs_len (ds : List QD) : (negs ds).length ≤ ds.length := by unfold negs; rw [List.length_map]; exact List.length_filter_le _ _
theorem cnt_le (F : List Bool) : ∀ k, cnt F k ≤ k
  | 0 => Nat.le_refl _
  | 1 => Nat.zero_le _
  | k + 2 => by
    show cnt F (k + 1) + (if F[k]? = F[k + 1]? then 0 else 1) ≤ k + 2
    have := cnt_le F (k + 1)
    split <;> omega
theorem good_sg {w : World} {q : QV} {d : QD} (h : AllAr w [(q.num, d.num), (q.den, d.den)]) (g : IsGood w q d) : (nz d = true ∧ nQ d = 0) ∨ (nz d = false ∧ d.num.g = true ∧ nQ d < 0) ∨ (nz d = false ∧ d.num.g = false ∧ 0 < nQ d) := by
  obtain ⟨xs, a1, n1⟩ := g.is.1
  have e1 := a1.ar.len
  have e3 := h.head.ar.len
  have s1 := a1.sg
  have s2 := h.head.sg
  simp only at e1 e3 s1 s2
  unfold nz
  by_cases h0 : d.num.xs.length = 0
  · left
    have : xs = [] := List.length_eq_zero_iff.1 (by omega)
    have := n1.nil_iff.1 this
    exact ⟨by simp [h0], by omega⟩
  · right
    have hne : nQ d ≠ 0 := fun e => by
      have := n1.nil_iff.2 (by omega)
      rw [this] at e1
      simp at e1
      omega
    have sg : d.num.g = decide (nQ d < 0) := by rw [← s2, s1]
    by_cases hn : nQ d < 0
    · left; exact ⟨by simp [h0], by rw [sg]; simp [hn], hn⟩
    · right; exact ⟨by simp [h0], by rw [sg]; simp [hn], by omega⟩
set_option maxRecDepth 100000 in
set_option maxHeartbeats 8000000 in
theorem signsS (a : Option Addr) (n c : Nat) (l : List (QV × QD)) (w : World) (h : PArQ w a n c l) (hg : ∀ y ∈ l, IsGood w y.1 y.2) :
    Calls Try.prog 90 #[.slice a n c] w fun e w' => e = .returned (.int .i64 (cnt (negs (l.map Prod.snd)) (negs (l.map Prod.snd)).length : Nat)) ∧ Below w.heap.size w w' := by
  have HS := hide h
  have HN := hide h.len
  have HG := hide hg
  have hm : n ≤ maxLen := Nat.le_trans h.cap h.top
  clear h hg
  unfold maxLen at hm
  go_enter Try.func90, Try.ntmps90
  go_wp2
  go_loopw [3, 4, 10] (fun nv lv iv wr => ∃ (i k : Nat) (t : Int), i ≤ n ∧ iv = .int .i64 i ∧ nv = .int .i64 k ∧ lv = .int .i64 t ∧ k ≤ i ∧ Hid (k = cnt (negs ((l.take i).map Prod.snd)) (negs ((l.take i).map Prod.snd)).length) ∧ Hid (t = lastS (negs ((l.take i).map Prod.snd))) ∧ Hid (Below w.heap.size w wr)) (fun _ _ iv _ => n - (intOf iv).toNat)
  case atStart => exact ⟨0, 0, 0, Nat.zero_le _, rfl, rfl, rfl, Nat.le_refl _, hide rfl, hide rfl, hide (Below.refl _ _)⟩
  case round =>
    obtain ⟨i, k, t, hi, rfl, rfl, rfl, hk, EC, EL, HB⟩ := hrel
    by_cases hlt : i < n
    · have hlt' : (i : Int) < (n : Int) := by omega
      rcases (unhide HS).at_ with e | ⟨b, off, rfl, hb, hc⟩
      · exact absurd (unhide HN) (by rw [e]; simp; omega)
      have e0 := hc i (by rw [unhide HN]; exact hlt)
      obtain ⟨y, hy⟩ : ∃ y, y = l[i]'(by rw [unhide HN]; exact hlt) := ⟨_, rfl⟩
      rw [← hy] at e0
      have MY : Hid (y ∈ l) := hide (by rw [hy]; exact List.getElem_mem _)
      have EY := hide hy
      clear hy
      have E0 : wr.cell? ⟨b, off + i * 4, none⟩ = some (.bool y.1.num.g) := ((unhide HB).cell (p := ⟨b, off + i * 4, none⟩) hb).trans (e0.1)
      have E1 : wr.cell? ⟨b, off + i * 4 + 1, none⟩ = some (.slice y.1.num.a y.1.num.n y.1.num.c) := ((unhide HB).cell (p := ⟨b, off + i * 4 + 1, none⟩) hb).trans (e0.2.1)
      have E2 : wr.cell? ⟨b, off + i * 4 + 2, none⟩ = some (.bool y.1.den.g) := ((unhide HB).cell (p := ⟨b, off + i * 4 + 2, none⟩) hb).trans (e0.2.2.1)
      have E3 : wr.cell? ⟨b, off + i * 4 + 3, none⟩ = some (.slice y.1.den.a y.1.den.n y.1.den.c) := ((unhide HB).cell (p := ⟨b, off + i * 4 + 3, none⟩) hb).trans (e0.2.2.2)
      clear e0 hc
      have TK : Hid (l.take (i + 1) = l.take i ++ [y]) := hide (by have h := take_succQ (l := l) (i := i) (by rw [unhide HN]; exact hlt); rw [← unhide EY] at h; exact h)
      have JA := hide (((unhide HS).rd y (unhide MY)).later (unhide HB))
      have JY := hide (((unhide HG) y (unhide MY)).later (unhide HB))
      have CS := hide (good_sg (unhide JA) (unhide JY))
      go_upto_region 6 with fail
      have al : Below wr.heap.size wr (wr.alloc (.cells #[.bool y.1.num.g, .slice y.1.num.a y.1.num.n y.1.num.c, .bool y.1.den.g, .slice y.1.den.a y.1.den.n y.1.den.c] 33)) := (Below.refl _ _).alloc (Nat.le_refl _) _
      have T0 : (wr.alloc (.cells #[.bool y.1.num.g, .slice y.1.num.a y.1.num.n y.1.num.c, .bool y.1.den.g, .slice y.1.den.a y.1.den.n y.1.den.c] 33)).cell? ⟨wr.heap.size, 0, none⟩ = some (.bool y.1.num.g) := by simp [go_sem]
      have T1 : (wr.alloc (.cells #[.bool y.1.num.g, .slice y.1.num.a y.1.num.n y.1.num.c, .bool y.1.den.g, .slice y.1.den.a y.1.den.n y.1.den.c] 33)).cell? ⟨wr.heap.size, 1, none⟩ = some (.slice y.1.num.a y.1.num.n y.1.num.c) := by simp [go_sem]
      have T2 : (wr.alloc (.cells #[.bool y.1.num.g, .slice y.1.num.a y.1.num.n y.1.num.c, .bool y.1.den.g, .slice y.1.den.a y.1.den.n y.1.den.c] 33)).cell? ⟨wr.heap.size, 2, none⟩ = some (.bool y.1.den.g) := by simp [go_sem]
      have T3 : (wr.alloc (.cells #[.bool y.1.num.g, .slice y.1.num.a y.1.num.n y.1.num.c, .bool y.1.den.g, .slice y.1.den.a y.1.den.n y.1.den.c] 33)).cell? ⟨wr.heap.size, 3, none⟩ = some (.slice y.1.den.a y.1.den.n y.1.den.c) := by simp [go_sem]
      replace HB := hide (below_on (unhide HB) al)
      replace JY := hide ((unhide JY).later al)
      clear al E0 E1 E2 E3 JA
      generalize (wr.alloc (.cells #[.bool y.1.num.g, .slice y.1.num.a y.1.num.n y.1.num.c, .bool y.1.den.g, .slice y.1.den.a y.1.den.n y.1.den.c] 33)) = w1 at *
      go_region_held3 (fun w' => w'.cell? ⟨wr.heap.size, 0, none⟩ = some (.bool y.1.num.g) ∧ w'.cell? ⟨wr.heap.size, 1, none⟩ = some (.slice y.1.num.a y.1.num.n y.1.num.c) ∧ w'.cell? ⟨wr.heap.size, 2, none⟩ = some (.bool y.1.den.g) ∧ w'.cell? ⟨wr.heap.size, 3, none⟩ = some (.slice y.1.den.a y.1.den.n y.1.den.c)) (with_reducible (first | exact ⟨T0, T1, T2, T3⟩ | exact ⟨cd_other T0, cd_other T1, cd_other T2, cd_other T3⟩ | fail))
        (first
        | (go_at_call 54; refine (wholeS 0 _ (by omega) (by omega)).mono ?_; rintro e w2 ⟨q0, zs, us, rfl, hb1, o1, a1, m1, m2⟩; have hbx := below_of_drew hb1; replace T0 := cell_later hbx T0; replace T1 := cell_later hbx T1; replace T2 := cell_later hbx T2; replace T3 := cell_later hbx T3; replace HB := hide (below_on (unhide HB) hbx); replace JY := hide ((unhide JY).later hbx); have IO : Hid (IsQ w2 q0 0 1) := hide (isQ_of a1 m1 m2); clear hbx hb1 o1 a1 m1 m2)
        | (go_at_call 121; refine (cmpQS y.1 q0 (nQ y.2) (dQ y.2) 0 1 _ (unhide JY).is (unhide IO) ((unhide JY).kn.mono (by omega)) ((unhide JY).kd.mono (by omega)) ((Bd.small (by decide)).mono (by omega)) ((Bd.small (by decide)).mono (by omega))).mono ?_; rintro e w3 ⟨rfl, hb2⟩; replace T0 := cell_later hb2 T0; replace T1 := cell_later hb2 T1; replace T2 := cell_later hb2 T2; replace T3 := cell_later hb2 T3; replace HB := hide (below_on (unhide HB) hb2); clear hb2))
      clear IO JY T0 T1 T2 T3
      rcases unhide CS with ⟨hz, hq⟩ | ⟨hz, hs, hq⟩ | ⟨hz, hs, hq⟩
      · have cz : cmpZ (nQ y.2) 0 = 0 := by unfold cmpZ; rw [hq]; rfl
        rw [cz]
        clear cz hq
        rcases lastS_cases (negs ((l.take i).map Prod.snd)) with ⟨hl1, hl2⟩ | ⟨hl1, hl2⟩ | ⟨hl1, hl2⟩
        · have te : t = 0 := (unhide EL).trans hl2
          subst te
          have NS : Hid (negs ((l.take (i + 1)).map Prod.snd) = negs ((l.take i).map Prod.snd)) := hide (by rw [unhide TK, List.map_append]; simp only [List.map_cons, List.map_nil]; rw [negs_snoc, hz, if_pos rfl])
          clear CS
          go_wp2
          go_roundw
          case rel => exact ⟨i + 1, k, 0, by omega, by go_num, rfl, rfl, by omega, hide (by rw [unhide NS]; exact unhide EC), hide (by rw [unhide NS]; exact unhide EL), HB⟩
          case measure => simp [intOf]; omega
        · have te : t = -1 := (unhide EL).trans hl2
          subst te
          have NS : Hid (negs ((l.take (i + 1)).map Prod.snd) = negs ((l.take i).map Prod.snd)) := hide (by rw [unhide TK, List.map_append]; simp only [List.map_cons, List.map_nil]; rw [negs_snoc, hz, if_pos rfl])
          clear CS
          go_wp2
          go_roundw
          case rel => exact ⟨i + 1, k, -1, by omega, by go_num, rfl, rfl, by omega, hide (by rw [unhide NS]; exact unhide EC), hide (by rw [unhide NS]; exact unhide EL), HB⟩
          case measure => simp [intOf]; omega
        · have te : t = 1 := (unhide EL).trans hl2
          subst te
          have NS : Hid (negs ((l.take (i + 1)).map Prod.snd) = negs ((l.take i).map Prod.snd)) := hide (by rw [unhide TK, List.map_append]; simp only [List.map_cons, List.map_nil]; rw [negs_snoc, hz, if_pos rfl])
          clear CS
          go_wp2
          go_roundw
          case rel => exact ⟨i + 1, k, 1, by omega, by go_num, rfl, rfl, by omega, hide (by rw [unhide NS]; exact unhide EC), hide (by rw [unhide NS]; exact unhide EL), HB⟩
          case measure => simp [intOf]; omega
      · have cz : cmpZ (nQ y.2) 0 = -1 := by unfold cmpZ; rw [if_pos hq]
        rw [cz]
        clear cz hq
        rcases lastS_cases (negs ((l.take i).map Prod.snd)) with ⟨hl1, hl2⟩ | ⟨hl1, hl2⟩ | ⟨hl1, hl2⟩
        · have te : t = 0 := (unhide EL).trans hl2
          subst te
          have NS : Hid (negs ((l.take (i + 1)).map Prod.snd) = negs ((l.take i).map Prod.snd) ++ [true]) := hide (by rw [unhide TK, List.map_append]; simp only [List.map_cons, List.map_nil]; rw [negs_snoc, hz, if_neg (by simp), hs])
          clear CS
          go_wp2
          go_roundw
          case rel => exact ⟨i + 1, k, -1, by omega, by go_num, rfl, rfl, by omega, hide (by rw [unhide NS, cnt_snoc, hl1, ← unhide EC]; rfl), hide (by rw [unhide NS, lastS_snoc]; rfl), HB⟩
          case measure => simp [intOf]; omega
        · have te : t = -1 := (unhide EL).trans hl2
          subst te
          have NS : Hid (negs ((l.take (i + 1)).map Prod.snd) = negs ((l.take i).map Prod.snd) ++ [true]) := hide (by rw [unhide TK, List.map_append]; simp only [List.map_cons, List.map_nil]; rw [negs_snoc, hz, if_neg (by simp), hs])
          clear CS
          go_wp2
          go_roundw
          case rel => exact ⟨i + 1, k, -1, by omega, by go_num, rfl, rfl, by omega, hide (by rw [unhide NS, cnt_snoc, hl1, ← unhide EC]; rfl), hide (by rw [unhide NS, lastS_snoc]; rfl), HB⟩
          case measure => simp [intOf]; omega
        · have te : t = 1 := (unhide EL).trans hl2
          subst te
          have NS : Hid (negs ((l.take (i + 1)).map Prod.snd) = negs ((l.take i).map Prod.snd) ++ [true]) := hide (by rw [unhide TK, List.map_append]; simp only [List.map_cons, List.map_nil]; rw [negs_snoc, hz, if_neg (by simp), hs])
          clear CS
          go_wp2
          go_roundw
          case rel => exact ⟨i + 1, k + 1, -1, by omega, by go_num, by go_num, rfl, by omega, hide (by rw [unhide NS, cnt_snoc, hl1, ← unhide EC]; rfl), hide (by rw [unhide NS, lastS_snoc]; rfl), HB⟩
          case measure => simp [intOf]; omega
      · have cz : cmpZ (nQ y.2) 0 = 1 := by unfold cmpZ; rw [if_neg (by omega), if_pos hq]
        rw [cz]
        clear cz hq
        rcases lastS_cases (negs ((l.take i).map Prod.snd)) with ⟨hl1, hl2⟩ | ⟨hl1, hl2⟩ | ⟨hl1, hl2⟩
        · have te : t = 0 := (unhide EL).trans hl2
          subst te
          have NS : Hid (negs ((l.take (i + 1)).map Prod.snd) = negs ((l.take i).map Prod.snd) ++ [false]) := hide (by rw [unhide TK, List.map_append]; simp only [List.map_cons, List.map_nil]; rw [negs_snoc, hz, if_neg (by simp), hs])
          clear CS
          go_wp2
          go_roundw
          case rel => exact ⟨i + 1, k, 1, by omega, by go_num, rfl, rfl, by omega, hide (by rw [unhide NS, cnt_snoc, hl1, ← unhide EC]; rfl), hide (by rw [unhide NS, lastS_snoc]; rfl), HB⟩
          case measure => simp [intOf]; omega
        · have te : t = -1 := (unhide EL).trans hl2
          subst te
          have NS : Hid (negs ((l.take (i + 1)).map Prod.snd) = negs ((l.take i).map Prod.snd) ++ [false]) := hide (by rw [unhide TK, List.map_append]; simp only [List.map_cons, List.map_nil]; rw [negs_snoc, hz, if_neg (by simp), hs])
          clear CS
          go_wp2
          go_roundw
          case rel => exact ⟨i + 1, k + 1, 1, by omega, by go_num, by go_num, rfl, by omega, hide (by rw [unhide NS, cnt_snoc, hl1, ← unhide EC]; rfl), hide (by rw [unhide NS, lastS_snoc]; rfl), HB⟩
          case measure => simp [intOf]; omega
        · have te : t = 1 := (unhide EL).trans hl2
          subst te
          have NS : Hid (negs ((l.take (i + 1)).map Prod.snd) = negs ((l.take i).map Prod.snd) ++ [false]) := hide (by rw [unhide TK, List.map_append]; simp only [List.map_cons, List.map_nil]; rw [negs_snoc, hz, if_neg (by simp), hs])
          clear CS
          go_wp2
          go_roundw
          case rel => exact ⟨i + 1, k, 1, by omega, by go_num, rfl, rfl, by omega, hide (by rw [unhide NS, cnt_snoc, hl1, ← unhide EC]; rfl), hide (by rw [unhide NS, lastS_snoc]; rfl), HB⟩
          case measure => simp [intOf]; omega
    · obtain rfl : n = i := by omega
      have EE : Hid (k = cnt (negs (l.map Prod.snd)) (negs (l.map Prod.snd)).length) := hide (by have := unhide EC; rw [List.take_of_length_le (by rw [unhide HN]; exact Nat.le_refl _)] at this; exact this)
      go_wp2
      go_ret
      exact ⟨by rw [← unhide EE]; rfl, unhide HB⟩
end Go.Proofs.Ytliaddmkomcmnaa
namespace Go.Proofs.Ytliaddmkomcmnaa
open Go.RowKit
set_option linter.unusedVariables false
set_option maxRecDepth 100000
set_option linter.unusedSimpArgs false

set_option maxHeartbeats 2000000 in
theorem indexNz (a : Option Addr) (n c : Nat) (l : List (QV × QD)) (w : World) (h : PArQ w a n c l) :
    Calls Try.prog 138 #[.slice a n c, .func (Fn.func 97) #[] #[]] w fun e w' => Below w.heap.size w w' ∧ ((e = .returned (.int .i64 (-1)) ∧ ∀ y ∈ l, nz y.2 = false) ∨ (∃ k : Nat, ∃ h : k < l.length, e = .returned (.int .i64 k) ∧ (∀ y ∈ l.take k, nz y.2 = false) ∧ nz l[k].2 = true)) := by
  have HS := hide h
  have HN := hide h.len
  have hm : n ≤ maxLen := Nat.le_trans h.cap h.top
  clear h
  unfold maxLen at hm
  go_enter Try.func138, Try.ntmps138
  go_wp2
  go_loopw [8] (fun iv wr => ∃ (i : Nat), i ≤ n ∧ iv = .int .i64 i ∧ Hid (∀ y ∈ l.take i, nz y.2 = false) ∧ Hid (Below w.heap.size w wr)) (fun iv _ => n - (intOf iv).toNat)
  case atStart => exact ⟨0, Nat.zero_le _, rfl, hide (fun y hy => by simp at hy), hide (Below.refl _ _)⟩
  case round =>
    obtain ⟨i, hi, rfl, EA, HB⟩ := hrel
    by_cases hlt : i < n
    · have hlt' : (i : Int) < (n : Int) := by omega
      rcases (unhide HS).at_ with e | ⟨b, off, rfl, hb, hc⟩
      · exact absurd (unhide HN) (by rw [e]; simp; omega)
      have e0 := hc i (by rw [unhide HN]; exact hlt)
      obtain ⟨y, hy⟩ : ∃ y, y = l[i]'(by rw [unhide HN]; exact hlt) := ⟨_, rfl⟩
      rw [← hy] at e0
      have MY : Hid (y ∈ l) := hide (by rw [hy]; exact List.getElem_mem _)
      have EY := hide hy
      clear hy
      have E0 : wr.cell? ⟨b, off + i * 4, none⟩ = some (.bool y.1.num.g) := ((unhide HB).cell (p := ⟨b, off + i * 4, none⟩) hb).trans (e0.1)
      have E1 : wr.cell? ⟨b, off + i * 4 + 1, none⟩ = some (.slice y.1.num.a y.1.num.n y.1.num.c) := ((unhide HB).cell (p := ⟨b, off + i * 4 + 1, none⟩) hb).trans (e0.2.1)
      have E2 : wr.cell? ⟨b, off + i * 4 + 2, none⟩ = some (.bool y.1.den.g) := ((unhide HB).cell (p := ⟨b, off + i * 4 + 2, none⟩) hb).trans (e0.2.2.1)
      have E3 : wr.cell? ⟨b, off + i * 4 + 3, none⟩ = some (.slice y.1.den.a y.1.den.n y.1.den.c) := ((unhide HB).cell (p := ⟨b, off + i * 4 + 3, none⟩) hb).trans (e0.2.2.2)
      clear e0 hc
      have TK : Hid (l.take (i + 1) = l.take i ++ [y]) := hide (by have h := take_succQ (l := l) (i := i) (by rw [unhide HN]; exact hlt); rw [← unhide EY] at h; exact h)
      have R1 := hide (((unhide HS).rd y (unhide MY)).later (unhide HB))
      have CC := hide (fun w1 (k : AllAr w1 [(y.1.num, y.2.num), (y.1.den, y.2.den)]) => noughtI y.1 y.2 w1 k)
      cases hp : nz y.2
      · rw [hp] at CC
        go_wp2_with fail
        refine (unhide CC _ (unhide R1)).mono ?_
        rintro e w1 ⟨rfl, hb1⟩
        have HB1 := hide (below_on (unhide HB) hb1)
        clear hb1 E0 E1 E2 E3 CC
        go_wp2
        go_roundw
        case rel => exact ⟨i + 1, by omega, by go_num, hide (fun q hq => by rw [unhide TK] at hq; rcases List.mem_append.1 hq with h | h; exact (unhide EA) q h; rw [List.mem_singleton.1 h]; exact hp), HB1⟩
        case measure => simp [intOf]; omega
      · rw [hp] at CC
        go_wp2_with fail
        refine (unhide CC _ (unhide R1)).mono ?_
        rintro e w1 ⟨rfl, hb1⟩
        have HB1 := hide (below_on (unhide HB) hb1)
        clear hb1 E0 E1 E2 E3 CC
        go_wp2
        go_ret
        exact ⟨unhide HB1, .inr ⟨i, by rw [unhide HN]; exact hlt, rfl, unhide EA, by rw [← unhide EY]; exact hp⟩⟩
    · obtain rfl : n = i := by omega
      have EL := hide (show ∀ y ∈ l, nz y.2 = false from by have := unhide EA; rw [List.take_of_length_le (by rw [unhide HN]; exact Nat.le_refl _)] at this; exact this)
      go_wp2
      go_ret
      exact ⟨unhide HB, .inl ⟨rfl, unhide EL⟩⟩
theorem cloneN (c : Nat) (w : World) : Calls Try.prog 137 #[.slice none 0 c] w fun e w' => e = .returned (.slice none 0 0) ∧ w' = w := by
  have hq := fun w => Lib.run_eql_slice_nil (P := Try.prog) w 60 33 none 0 c 0 0 Try.underlying60
  go_enter Try.func137, Try.ntmps137
  go_wp2
  go_ret
  exact ⟨rfl, rfl⟩
set_option maxHeartbeats 2000000 in
theorem cloneZ (ad : Addr) (c : Nat) (w : World) : Calls Try.prog 137 #[.slice (some ad) 0 c] w fun e w' => ∃ a' c', e = .returned (.slice a' 0 c') ∧ Below w.heap.size w w' ∧ c' ≤ maxLen := by
  obtain ⟨i0, hi, hz0, hz1, hz2⟩ := info_parts Try.info33
  have hq := fun w => Lib.run_eql_slice_nil (P := Try.prog) w 60 33 (some ad) 0 c 0 0 Try.underlying60
  go_enter Try.func137, Try.ntmps137
  go_wp2_with (at_builtin; refine wpList_append_own _ rfl (.tmp 5) (.tmp 6) 60 rfl w.heap.size 33 i0 (.agg #[.bool false, .slice none 0 0, .bool false, .slice none 0 0]) 4 64 Try.underlying60 hi hz0 hz1 hz2 rfl (by decide) _ _ _ rfl (owns_emptyQ w) ad 0 c [] rfl rfl (fun j u hh => by simp at hh) (fun u hh => by cases hh) (by unfold maxLen; omega) (by omega) (by simp) ?_)
  intro v' w1' hown hg hnil
  have hB := hide (below_alloc_grown hg (fun k e => by simp [Value.ownBlock] at e; omega))
  have HX : Hid (∃ a' c', v' = .slice a' 0 c' ∧ c' ≤ maxLen) := by
    rcases hown.2 with ⟨h', _⟩ | ⟨g', cap', cur, h', _, _, _, q2, _⟩
    · exact hide ⟨_, _, h', Nat.zero_le _⟩
    · exact hide ⟨_, _, h', q2⟩
  obtain ⟨a', c', rfl, hc'⟩ := unhide HX
  clear hown hg hnil HX
  go_wp2
  go_ret
  exact ⟨a', c', rfl, unhide hB, hc'⟩
set_option maxHeartbeats 2000000 in
theorem cloneP (ad : Addr) (n c : Nat) (l : List (QV × QD)) (w : World) (h : PArQ w (some ad) n c l) (h0 : 0 < n) (h1 : n ≤ 1048576) :
    Calls Try.prog 137 #[.slice (some ad) n c] w fun e w' => ∃ g c', e = .returned (.slice (some ⟨g, 0, none⟩) n c') ∧ Below w.heap.size w w' ∧ w.heap.size ≤ g ∧ w'.ownsRow w.heap.size 33 4 (.slice (some ⟨g, 0, none⟩) n c') n (flatC l) := by
  obtain ⟨i0, hi, hz0, hz1, hz2⟩ := info_parts Try.info33
  have HN := hide h.len
  have HS := hide h
  have hcap := h.cap
  have htop := h.top
  unfold maxLen at htop
  obtain ⟨b, off, ead, HT0⟩ : ∃ b off, ad = ⟨b, off, none⟩ ∧ Hid (∀ j u, (flatC l)[j]? = some u → (w.alloc (.cells #[] 33)).cell? ((⟨b, off, none⟩ : Addr).add j) = some u) := by
    rcases h.at_ with e | ⟨b, off, ea, hb, hc⟩
    · exact absurd h.len (by rw [e]; simp; omega)
    · refine ⟨b, off, Option.some.inj ea, hide (flatC_cells (fun i hi => ?_))⟩
      have hcc := hc i hi
      have bl : Below w.heap.size w (w.alloc (.cells #[] 33)) := (Below.refl _ _).alloc (Nat.le_refl _) _
      exact ⟨(bl.cell (p := ⟨b, off + i * 4, none⟩) hb).trans hcc.1, (bl.cell (p := ⟨b, off + i * 4 + 1, none⟩) hb).trans hcc.2.1, (bl.cell (p := ⟨b, off + i * 4 + 2, none⟩) hb).trans hcc.2.2.1, (bl.cell (p := ⟨b, off + i * 4 + 3, none⟩) hb).trans hcc.2.2.2⟩
  subst ead
  clear h
  have hl4 : Hid ((flatC l).length = n * 4) := hide (by rw [flatC_len, unhide HN])
  have hq := fun w => Lib.run_eql_slice_nil (P := Try.prog) w 60 33 (some ⟨b, off, none⟩) n c 0 0 Try.underlying60
  go_enter Try.func137, Try.ntmps137
  go_wp2_with (at_builtin; refine wpList_append_own _ rfl (.tmp 5) (.tmp 6) 60 rfl w.heap.size 33 i0 (.agg #[.bool false, .slice none 0 0, .bool false, .slice none 0 0]) 4 64 Try.underlying60 hi hz0 hz1 hz2 rfl (by decide) _ _ _ rfl (owns_emptyQ w) (⟨b, off, none⟩ : Addr) n c (flatC l) rfl (unhide hl4) (unhide HT0) (flatC_one _) (by unfold maxLen; omega) (by omega) (by simp) ?_)
  intro v' w1' hown hg hnil
  have hB := hide (below_alloc_grown hg (fun k e => by simp [Value.ownBlock] at e; omega))
  have hown' : w1'.ownsRow w.heap.size 33 4 v' n (flatC l) := by first | exact hown | (simpa using hown)
  have HX : Hid (∃ g c', v' = .slice (some ⟨g, 0, none⟩) n c') := by
    rcases hown'.2 with ⟨h', _⟩ | ⟨g', cap', cur, h', _⟩
    · exact (hnil h').elim
    · exact hide ⟨g', cap', h'⟩
  obtain ⟨g, c', rfl⟩ := unhide HX
  have HO := hide hown'
  clear hown hown' hg hnil HX
  go_wp2
  go_ret
  exact ⟨g, c', rfl, unhide hB, owns_base (unhide HO) g rfl, unhide HO⟩
theorem zeroV (w : World) : (zeroValue 33).run Try.prog w = .ok (.agg #[.bool false, .slice none 0 0, .bool false, .slice none 0 0]) w := by kernel_rfl
theorem clear_rats (w : World) (b o n c : Nat) (hn : 0 < n) (hc : ∀ j, j < n * 4 → (w.cell? ⟨b, o + j, none⟩).isSome = true) (hf : ∀ j, j < n * 4 → w.frozen? ⟨b, o + j, none⟩ = false) :
    ∃ zs : List Value, zs.length = n * 4 ∧ ∀ ty, (Builtin.clear_ #[60] ty #[.slice (some ⟨b, o, none⟩) n c]).run Try.prog w = .ok (.tuple #[]) (w.setCells b o zs) := by
  obtain ⟨zc, hzc⟩ : ∃ zc : Array Value, zc = (Value.agg #[.bool false, .slice none 0 0, .bool false, .slice none 0 0]).cells := ⟨_, rfl⟩
  have hz4 : zc = #[.bool false, .slice none 0 0, .bool false, .slice none 0 0] := by rw [hzc]; rfl
  obtain ⟨zs, hzs⟩ : ∃ zs : List Value, zs = (Builtin.zeroCells zc n).toList := ⟨_, rfl⟩
  have hlen : zs.length = n * 4 := by rw [hzs, hz4]; simp [Builtin.zeroCells]
  have hone : ∀ v ∈ zs, v.oneCell' = true := by
    intro v hv
    rw [hzs, hz4] at hv
    simp only [Builtin.zeroCells, Array.toList_map, List.mem_map] at hv
    obtain ⟨i, _, rfl⟩ := hv
    have : i % 4 < 4 := Nat.mod_lt _ (by omega)
    simp only [List.size_toArray, List.length_cons, List.length_nil, Nat.reduceAdd]
    generalize i % 4 = q at this ⊢
    rcases q with _ | _ | _ | _ | q
    · rfl
    · rfl
    · rfl
    · rfl
    · omega
  have hst := run_storeCells_cells (P := Try.prog) b o zs 0 w (by rw [hlen]; simpa using hc) (by rw [hlen]; simpa using hf) hone
  simp only [Nat.add_zero] at hst
  refine ⟨zs, hlen, fun ty => ?_⟩
  obtain ⟨m, rfl⟩ : ∃ m, n = m + 1 := ⟨n - 1, by omega⟩
  simp [Builtin.clear_, run_underlying Try.underlying60, zeroV, ← hzc, ← hzs, hst]
theorem set_take {vs : List (QV × QD)} {i : Nat} (y : QV × QD) (h : i < vs.length) : (vs.set i y).take (i + 1) = vs.take i ++ [y] := by
  rw [List.take_succ_eq_append_getElem (by rw [List.length_set]; exact h), List.getElem_set_self, List.take_set_of_le (Nat.le_refl _)]
set_option maxRecDepth 100000 in
set_option maxHeartbeats 8000000 in
theorem delI (w0 w : World) (g n c : Nat) (l : List (QV × QD)) (hr : w.ownsRow w0.heap.size 33 4 (.slice (some ⟨g, 0, none⟩) n c) n (flatC l)) (hl : l.length = n) (ha : ∀ p ∈ l, AllAr w0 [(p.1.num, p.2.num), (p.1.den, p.2.den)]) (hb : Below w0.heap.size w0 w) (hg : w0.heap.size ≤ g) (h1 : n ≤ 1048576) :
    Calls Try.prog 136 #[.slice (some ⟨g, 0, none⟩) n c, .func (Fn.func 97) #[] #[]] w fun e w' => ∃ m c' us, e = .returned (.slice (some ⟨g, 0, none⟩) m c') ∧ Below w0.heap.size w0 w' ∧ us.length = m ∧ us = l.filter (fun y : QV × QD => !nz y.2) ∧ PAtQ w' (some ⟨g, 0, none⟩) us := by
  have oa := ownsRow_at hr hl
  have PA : Hid (PArQ w (some ⟨g, 0, none⟩) n c l) := hide ⟨oa.1, fun p hp => (ha p hp).later hb, hl, oa.2.1, oa.2.2⟩
  have ncap := oa.2.1
  have HA := hide ha
  have HR := hide hr
  have HB0 := hide hb
  have HL := hide hl
  have AT := hide oa.1
  have glt : g < w.heap.size := by
    rcases hr.2 with ⟨h', _⟩ | ⟨g', cap', cur, hv, _, hgt, _⟩
    · simp at h'
    · simp only [Value.slice.injEq, Option.some.injEq, Addr.mk.injEq, and_true, true_and] at hv
      have := (Array.getElem?_eq_some_iff.1 hgt).1
      omega
  have IX := hide (indexNz (some ⟨g, 0, none⟩) n c l)
  clear hr ha hb oa hl
  go_enter Try.func136, Try.ntmps136
  go_wp2_with fail
  refine (unhide IX _ (unhide PA)).mono ?_
  rintro e w1 ⟨hb1, ⟨rfl, hno⟩ | ⟨k, hk, rfl, hpre, hkz⟩⟩
  · have HB := hide ((unhide HB0).trans (hb1.mono (unhide HB0).size))
    replace AT := hide ((unhide AT).later hb1)
    have FL : Hid (l.filter (fun y : QV × QD => !nz y.2) = l) := hide (List.filter_eq_self.2 (fun y hy => by rw [hno y hy]; rfl))
    clear hb1 hno IX
    go_wp2
    go_ret
    exact ⟨n, c, l, rfl, unhide HB, unhide HL, (unhide FL).symm, unhide AT⟩
  · have HB := hide ((unhide HB0).trans (hb1.mono (unhide HB0).size))
    replace HR := hide (owns_later (unhide HR) hb1)
    have gl1 : g < w1.heap.size := Nat.lt_of_lt_of_le glt hb1.size
    have hkn : k < n := by have := unhide HL; omega
    have FT : Hid ((l.take (k + 1)).filter (fun y : QV × QD => !nz y.2) = l.take k) := hide (by
      rw [take_succQ hk, List.filter_append, List.filter_eq_self.2 (fun y hy => by rw [hpre y hy]; rfl)]
      simp [hkz])
    have hke : ((k : Int) == -1) = false := by simp
    clear hb1 hpre hkz IX AT PA
    go_wp2
    go_loopw [5, 6] (fun iv jv wr => ∃ (i j : Nat) (vs : List (QV × QD)), i < j ∧ j ≤ n ∧ iv = .int .i64 i ∧ jv = .int .i64 j ∧ vs.length = n ∧ g < wr.heap.size ∧ Hid (vs.take i = (l.take j).filter (fun y : QV × QD => !nz y.2)) ∧ Hid (vs.drop j = l.drop j) ∧ Hid (wr.ownsRow w0.heap.size 33 4 (.slice (some ⟨g, 0, none⟩) n c) n (flatC vs)) ∧ Hid (Below w0.heap.size w0 wr)) (fun _ jv _ => n - (intOf jv).toNat)
    case atStart => exact ⟨k, k + 1, l, by omega, by omega, rfl, by go_num, unhide HL, gl1, hide (unhide FT).symm, hide rfl, HR, HB⟩
    case round =>
      clear HR HB gl1 FT
      obtain ⟨i, j, vs, hij, hj, rfl, rfl, hv, gl, VT, VD, HR, HB⟩ := hrel
      by_cases hjn : j < n
      · have hjn' : (j : Int) < (n : Int) := by omega
        have hin' : (i : Int) < (n : Int) := by omega
        obtain ⟨y, hy⟩ : ∃ y, y = vs[j]'(by omega) := ⟨_, rfl⟩
        have hyl : l[j]? = some y := by
          have e1 : (vs.drop j)[0]? = (l.drop j)[0]? := by rw [unhide VD]
          rw [List.getElem?_drop, List.getElem?_drop] at e1
          simp only [Nat.add_zero] at e1
          rw [← e1, hy]
          exact List.getElem?_eq_getElem _
        have MY : Hid (y ∈ l) := hide (List.mem_of_getElem? hyl)
        have TK : Hid (l.take (j + 1) = l.take j ++ [y]) := hide (by
          have h0 : j < l.length := by rw [unhide HL]; exact hjn
          rw [take_succQ h0]
          rw [List.getElem?_eq_getElem h0] at hyl
          rw [Option.some.inj hyl])
        have sx := flatC_get vs j (by omega)
        rw [← hy] at sx
        have hM := unhide HR
        have E0 : wr.cell? ⟨g, j * 4, none⟩ = some (.bool y.1.num.g) := (hM.cellAt _ (by omega)).trans (sx.1)
        have E1 : wr.cell? ⟨g, j * 4 + 1, none⟩ = some (.slice y.1.num.a y.1.num.n y.1.num.c) := (hM.cellAt _ (by omega)).trans (sx.2.1)
        have E2 : wr.cell? ⟨g, j * 4 + 2, none⟩ = some (.bool y.1.den.g) := (hM.cellAt _ (by omega)).trans (sx.2.2.1)
        have E3 : wr.cell? ⟨g, j * 4 + 3, none⟩ = some (.slice y.1.den.a y.1.den.n y.1.den.c) := (hM.cellAt _ (by omega)).trans (sx.2.2.2)
        clear sx hM hy hyl
        have R1 := hide (((unhide HA) y (unhide MY)).later (unhide HB))
        have CC := hide (fun w1 (k : AllAr w1 [(y.1.num, y.2.num), (y.1.den, y.2.den)]) => noughtI y.1 y.2 w1 k)
        have VD2 : Hid (vs.drop (j + 1) = l.drop (j + 1)) := hide (by rw [← List.drop_drop, ← List.drop_drop, unhide VD])
        cases hp : nz y.2
        · rw [hp] at CC
          go_wp2_with fail
          refine (unhide CC _ ((unhide R1).later ((Below.refl _ _).alloc (Nat.le_refl _) _))).mono ?_
          rintro e w2 ⟨rfl, hb2⟩
          have T0 : w2.cell? ⟨wr.heap.size, 0, none⟩ = some (.bool y.1.num.g) := cell_later hb2 (by simp [go_sem])
          have T1 : w2.cell? ⟨wr.heap.size, 1, none⟩ = some (.slice y.1.num.a y.1.num.n y.1.num.c) := cell_later hb2 (by simp [go_sem])
          have T2 : w2.cell? ⟨wr.heap.size, 2, none⟩ = some (.bool y.1.den.g) := cell_later hb2 (by simp [go_sem])
          have T3 : w2.cell? ⟨wr.heap.size, 3, none⟩ = some (.slice y.1.den.a y.1.den.n y.1.den.c) := cell_later hb2 (by simp [go_sem])
          have hb3 := ba hb2
          have sz2 := hb3.size
          replace HR := hide (owns_later (unhide HR) hb3)
          have HB2 := hide ((unhide HB).trans (hb3.mono (unhide HB).size))
          have gl2 : g < w2.heap.size := Nat.lt_of_lt_of_le gl hb3.size
          have hM := unhide HR
          obtain ⟨x_0, old0⟩ : ∃ x, w2.cell? ⟨g, i * 4, none⟩ = some x := ⟨_, (hM.cellAt _ (by omega)).trans (List.getElem?_eq_getElem (by rw [flatC_len]; omega))⟩
          obtain ⟨x_1, old1⟩ : ∃ x, w2.cell? ⟨g, i * 4 + 1, none⟩ = some x := ⟨_, (hM.cellAt _ (by omega)).trans (List.getElem?_eq_getElem (by rw [flatC_len]; omega))⟩
          obtain ⟨x_2, old2⟩ : ∃ x, w2.cell? ⟨g, i * 4 + 2, none⟩ = some x := ⟨_, (hM.cellAt _ (by omega)).trans (List.getElem?_eq_getElem (by rw [flatC_len]; omega))⟩
          obtain ⟨x_3, old3⟩ : ∃ x, w2.cell? ⟨g, i * 4 + 3, none⟩ = some x := ⟨_, (hM.cellAt _ (by omega)).trans (List.getElem?_eq_getElem (by rw [flatC_len]; omega))⟩
          have fr : ∀ o, w2.frozen? ⟨g, o, none⟩ = false := fun o => hM.frozenAt o
          have ng : wr.heap.size ≠ g := by omega
          clear hb2 hb3 hM E0 E1 E2 E3 CC R1
          go_wp2
          go_roundw
          case rel =>
            have hM := unhide HR
            have bt : But g (g + 1) w2 ((((w2.setCell ⟨g, i * 4, none⟩ (.bool y.1.num.g)).setCell ⟨g, i * 4 + 1, none⟩ (.slice y.1.num.a y.1.num.n y.1.num.c)).setCell ⟨g, i * 4 + 2, none⟩ (.bool y.1.den.g)).setCell ⟨g, i * 4 + 3, none⟩ (.slice y.1.den.a y.1.den.n y.1.den.c)) := but_rowQ (u := y.1)
            refine ⟨i + 1, j + 1, vs.set i (y.1, y.2), by omega, by omega, by go_num, by go_num, by rw [List.length_set]; exact hv, Nat.lt_of_lt_of_le gl2 bt.size, hide ?_, hide ?_, hide ?_, hide (bt.below (unhide HB2) hg (by have := (unhide HB2).size; omega))⟩
            · rw [set_take _ (by omega), unhide VT, unhide TK, List.filter_append]
              simp [hp]
            · rw [List.drop_set_of_lt (by omega)]
              exact unhide VD2
            · rw [← flatC_set vs i y.1 y.2 (by omega)]
              exact (World.ownsRow.stored (World.ownsRow.stored (World.ownsRow.stored (World.ownsRow.stored hM (i * 4) (.bool y.1.num.g)).1 (i * 4 + 1) (.slice y.1.num.a y.1.num.n y.1.num.c)).1 (i * 4 + 2) (.bool y.1.den.g)).1 (i * 4 + 3) (.slice y.1.den.a y.1.den.n y.1.den.c)).1
          case measure => simp [intOf]; omega
        · rw [hp] at CC
          go_wp2_with fail
          refine (unhide CC _ ((unhide R1).later ((Below.refl _ _).alloc (Nat.le_refl _) _))).mono ?_
          rintro e w2 ⟨rfl, hb2⟩
          have hb3 := ba hb2
          replace HR := hide (owns_later (unhide HR) hb3)
          have HB2 := hide ((unhide HB).trans (hb3.mono (unhide HB).size))
          have gl2 : g < w2.heap.size := Nat.lt_of_lt_of_le gl hb3.size
          clear hb2 hb3 E0 E1 E2 E3 CC R1
          go_wp2
          go_roundw
          case rel => exact ⟨i, j + 1, vs, by omega, by omega, rfl, by go_num, hv, gl2, hide (by rw [unhide VT, unhide TK, List.filter_append]; simp [hp]), VD2, HR, HB2⟩
          case measure => simp [intOf]; omega
      · obtain rfl : n = j := by omega
        have FL : Hid (vs.take i = l.filter (fun y : QV × QD => !nz y.2)) := hide (by rw [unhide VT, List.take_of_length_le (by rw [unhide HL]; exact Nat.le_refl _)])
        have hM := unhide HR
        obtain ⟨zs, zl, hcl⟩ := clear_rats wr g (i * 4) (n - i) (c - i) (by omega) (fun q hq => by rw [hM.cellAt _ (by omega), List.getElem?_eq_getElem (by rw [flatC_len]; omega)]; rfl) (fun q hq => hM.frozenAt _)
        have a1 : (i : Int) ≤ (n : Int) := by omega
        have a2 : (i : Int) ≤ (c : Int) := by omega
        have a3 : ((n : Int) - (i : Int)).toNat = n - i := by omega
        have a4 : ((c : Int) - (i : Int)).toNat = c - i := by omega
        clear hM
        have BL := hide (Go.below_setCells (B := w0.heap.size) (b := g) hg zs (i * 4) wr (unhide HB))
        have PT : Hid (PAtQ (wr.setCells g (i * 4) zs) (some ⟨g, 0, none⟩) (vs.take i)) := hide (by
          refine .inr ⟨g, 0, rfl, Nat.lt_of_lt_of_le gl (Go.below_setCells (B := 0) (b := g) (Nat.zero_le _) zs (i * 4) wr (Below.refl 0 wr)).size, fun q hq => ?_⟩
          rw [List.length_take] at hq
          have hx := flatC_get vs q (by omega)
          have hM := unhide HR
          rw [List.getElem_take]
          have key : ∀ o', o' < i * 4 → (wr.setCells g (i * 4) zs).cell? ⟨g, o', none⟩ = wr.cell? ⟨g, o', none⟩ := fun o' ho => World.cell?_setCells_out g zs (i * 4) wr ⟨g, o', none⟩ (fun _ _ => .inl ho)
          refine ⟨?_, ?_, ?_, ?_⟩ <;> rw [Nat.zero_add, key _ (by omega), hM.cellAt _ (by omega)]
          · exact hx.1
          · exact hx.2.1
          · exact hx.2.2.1
          · exact hx.2.2.2)
        go_wp2_with (simp only [hcl])
        go_ret
        exact ⟨i, c, vs.take i, rfl, unhide BL, by rw [List.length_take]; omega, unhide FL, unhide PT⟩
theorem delN (w : World) : Calls Try.prog 136 #[.slice none 0 0, .func (Fn.func 97) #[] #[]] w fun e w' => e = .returned (.slice none 0 0) ∧ Below w.heap.size w w' := by
  have IX := hide (indexNz none 0 0 [] w ⟨.inl rfl, fun p hp => (by cases hp), rfl, Nat.le_refl _, Nat.zero_le _⟩)
  go_enter Try.func136, Try.ntmps136
  go_wp2_with fail
  refine (unhide IX).mono ?_
  rintro e w1 ⟨hb1, ⟨rfl, hno⟩ | ⟨k, hk, rfl, hpre, hkz⟩⟩
  · have HB := hide hb1
    clear hb1 hno IX
    go_wp2
    go_ret
    exact ⟨rfl, unhide HB⟩
  · exact absurd hk (by simp)
theorem delZ (a : Option Addr) (c : Nat) (w : World) (hc : c ≤ maxLen) : Calls Try.prog 136 #[.slice a 0 c, .func (Fn.func 97) #[] #[]] w fun e w' => e = .returned (.slice a 0 c) ∧ Below w.heap.size w w' := by
  have IX := hide (indexNz a 0 c [] w ⟨.inl rfl, fun p hp => (by cases hp), rfl, Nat.zero_le _, hc⟩)
  go_enter Try.func136, Try.ntmps136
  go_wp2_with fail
  refine (unhide IX).mono ?_
  rintro e w1 ⟨hb1, ⟨rfl, hno⟩ | ⟨k, hk, rfl, hpre, hkz⟩⟩
  · have HB := hide hb1
    clear hb1 hno IX
    go_wp2
    go_ret
    exact ⟨rfl, unhide HB⟩
  · exact absurd hk (by simp)
theorem negs_filter (l : List (QV × QD)) : negs (l.map Prod.snd) = (l.filter (fun y : QV × QD => !nz y.2)).map (fun y => y.2.num.g) := by
  unfold negs
  rw [List.filter_map, List.map_map]
  rfl
set_option maxRecDepth 100000 in
set_option maxHeartbeats 8000000 in
theorem chgI (a : Option Addr) (n c : Nat) (l : List (QV × QD)) (w : World) (h : PArQ w a n c l) (h1 : n ≤ 1048576) :
    Calls Try.prog 91 #[.slice a n c] w fun e w' => e = .returned (.int .i64 (cnt (negs (l.map Prod.snd)) (negs (l.map Prod.snd)).length : Nat)) ∧ Below w.heap.size w w' := by
  by_cases h0 : n = 0
  · have hl : l = [] := List.length_eq_zero_iff.1 (by rw [h.len]; exact h0)
    subst hl h0
    have ht := h.top
    clear h
    cases a with
    | none =>
      go_enter Try.func91, Try.ntmps91
      go_wp2_with fail
      refine (cloneN c _).mono ?_
      rintro e w1 ⟨rfl, rfl⟩
      go_wp2_with fail
      refine (delN _).mono ?_
      rintro e w2 ⟨rfl, hb⟩
      have HB := hide hb
      clear hb
      go_wp2
      go_loopw [3, 4] (fun kv iv wr => kv = .int .i64 0 ∧ iv = .int .i64 1 ∧ Hid (Below w1.heap.size w1 wr)) (fun _ _ _ => 0)
      case atStart => exact ⟨rfl, rfl, HB⟩
      case round =>
        obtain ⟨rfl, rfl, HB⟩ := hrel
        go_wp2
        go_ret
        exact ⟨rfl, unhide HB⟩
    | some ad =>
      go_enter Try.func91, Try.ntmps91
      go_wp2_with fail
      refine (cloneZ ad c _).mono ?_
      rintro e w1 ⟨a1, c1, rfl, hb1, hc1⟩
      have HB1 := hide hb1
      clear hb1
      go_wp2_with fail
      refine (delZ a1 c1 _ hc1).mono ?_
      rintro e w2 ⟨rfl, hb⟩
      have HB := hide (below_on (unhide HB1) hb)
      clear hb
      go_wp2
      go_loopw [3, 4] (fun kv iv wr => kv = .int .i64 0 ∧ iv = .int .i64 1 ∧ Hid (Below w.heap.size w wr)) (fun _ _ _ => 0)
      case atStart => exact ⟨rfl, rfl, HB⟩
      case round =>
        obtain ⟨rfl, rfl, HB⟩ := hrel
        go_wp2
        go_ret
        exact ⟨rfl, unhide HB⟩
  · obtain ⟨ad, rfl⟩ : ∃ ad, a = some ad := by
      rcases h.at_ with e | ⟨b, off, e, _⟩
      · exact absurd h.len (by rw [e]; simp; omega)
      · exact ⟨_, e⟩
    have HS := hide h
    have HN := hide h.len
    have CL := hide (fun w1 (k : PArQ w1 (some ad) n c l) => cloneP ad n c l w1 k (by omega) h1)
    obtain ⟨F, hF⟩ : ∃ F, F = negs (l.map Prod.snd) := ⟨_, rfl⟩
    rw [← hF]
    rw [negs_filter] at hF
    have HF := hide hF
    clear h hF
    go_enter Try.func91, Try.ntmps91
    go_wp2_with fail
    refine (unhide CL _ (unhide HS)).mono ?_
    rintro e w1 ⟨g, c1, rfl, hb1, hg1, hr1⟩
    have DL := hide (delI w w1 g n c1 l hr1 (unhide HN) (unhide HS).rd hb1 hg1 h1)
    clear hb1 hr1 CL
    go_wp2_with fail
    refine (unhide DL).mono ?_
    rintro e w2 ⟨m, c2, us, rfl, hb2, hu, hus, pat⟩
    have HB := hide hb2
    have PT := hide pat
    have HM := hide hu
    have sub : ∀ q ∈ us, q ∈ l := fun q hq => by rw [hus] at hq; exact (List.mem_filter.1 hq).1
    have FM : Hid (F.length = m ∧ ∀ i (h : i < us.length), F[i]? = some us[i].1.num.g) := hide ⟨by rw [unhide HF, ← hus, List.length_map]; exact hu, fun i hi => by
      rw [unhide HF, ← hus, List.getElem?_map, List.getElem?_eq_getElem hi]
      show some (us[i].2.num.g) = _
      have mem : us[i] ∈ l := sub _ (List.getElem_mem hi)
      rw [((unhide HS).rd _ mem).head.sg]⟩
    have mle : m ≤ n := by rw [← hu, hus, ← unhide HN]; exact List.length_filter_le _ _
    clear hb2 hus pat hu DL sub
    go_wp2
    go_loopw [3, 4] (fun kv iv wr => ∃ (i k : Nat), 1 ≤ i ∧ (i ≤ m ∨ i = 1) ∧ iv = .int .i64 i ∧ kv = .int .i64 k ∧ k ≤ i ∧ Hid (k = cnt F i) ∧ Hid (PAtQ wr (some ⟨g, 0, none⟩) us) ∧ Hid (Below w.heap.size w wr)) (fun _ iv _ => m - (intOf iv).toNat)
    case atStart => exact ⟨1, 0, Nat.le_refl _, .inr rfl, rfl, rfl, Nat.zero_le _, hide rfl, PT, HB⟩
    case round =>
      clear PT HB
      obtain ⟨i, k, hi, him, rfl, rfl, hk, EC, PT, HB⟩ := hrel
      by_cases hlt : i < m
      · have hlt' : (i : Int) < (m : Int) := by omega
        have j0 : (0 : Int) ≤ (i : Int) - 1 := by omega
        have j1 : (i : Int) - 1 < (m : Int) := by omega
        have j2 : ((i : Int) - 1).toNat = i - 1 := by omega
        have iw : IntKind.i64.wrap ((i : Int) - 1) = (i : Int) - 1 := by rw [IntKind.wrap_i64]; omega
        rcases unhide PT with e | ⟨b, off, ea, hb, hc⟩
        · exact absurd (unhide HM) (by rw [e]; simp; omega)
        have ex := hc i (by rw [unhide HM]; exact hlt)
        have ey := hc (i - 1) (by rw [unhide HM]; omega)
        simp only [Option.some.injEq, Addr.mk.injEq, and_true] at ea
        obtain ⟨ea1, ea2⟩ := ea
        subst ea1 ea2
        have E0 : wr.cell? ⟨g, i * 4, none⟩ = some (.bool (us[i]'(by rw [unhide HM]; exact hlt)).1.num.g) := by have := ex.1; rw [Nat.zero_add] at this; exact this
        have E1 : wr.cell? ⟨g, (i - 1) * 4, none⟩ = some (.bool (us[i - 1]'(by rw [unhide HM]; omega)).1.num.g) := by have := ey.1; rw [Nat.zero_add] at this; exact this
        have f1 := (unhide FM).2 i (by rw [unhide HM]; exact hlt)
        have f2 := (unhide FM).2 (i - 1) (by rw [unhide HM]; omega)
        have CN : Hid (cnt F (i + 1) = cnt F i + (if (us[i - 1]'(by rw [unhide HM]; omega)).1.num.g = (us[i]'(by rw [unhide HM]; exact hlt)).1.num.g then 0 else 1)) := hide (by
          obtain ⟨q, rfl⟩ : ∃ q, i = q + 1 := ⟨i - 1, by omega⟩
          show cnt F (q + 1) + (if F[q]? = F[q + 1]? then 0 else 1) = _
          rw [f1]
          simp only [Nat.add_sub_cancel] at f2 ⊢
          rw [f2]
          simp only [Option.some.injEq])
        generalize (us[i]'(by rw [unhide HM]; exact hlt)).1.num.g = gx at *
        generalize (us[i - 1]'(by rw [unhide HM]; omega)).1.num.g = gy at *
        clear ex ey f1 f2 hc
        have PT2 := hide ((unhide PT).later (Below.refl _ _).drew)
        have HB2 := hide (unhide HB).drew
        cases gx <;> cases gy
        all_goals go_upto_region 6 with fail
        all_goals go_region
        all_goals go_wp2
        all_goals go_roundw
        all_goals (first | (simp [intOf]; omega; done) | skip)
        all_goals first
          | exact ⟨i + 1, k, by omega, .inl (by omega), by go_num, rfl, by omega, hide (by rw [unhide CN, ← unhide EC]; rfl), PT2, HB2⟩
          | exact ⟨i + 1, k + 1, by omega, .inl (by omega), by go_num, by go_num, by omega, hide (by rw [unhide CN, ← unhide EC]; rfl), PT2, HB2⟩
      · have hlt' : ¬ ((i : Int) < (m : Int)) := by omega
        have EE : Hid (k = cnt F F.length) := hide (by
          rw [(unhide FM).1]
          rcases him with h | h
          · have : i = m := by omega
            rw [← this]; exact unhide EC
          · have hm1 : m = 0 ∨ m = 1 := by omega
            have h2 := unhide EC
            rw [h] at h2
            rcases hm1 with h3 | h3
            · rw [h3]; exact h2
            · rw [h3]; exact h2)
        go_wp2
        go_ret
        exact ⟨by rw [← unhide EE]; rfl, unhide HB⟩
end Go.Proofs.Ytliaddmkomcmnaa
namespace Go.Proofs.Ytliaddmkomcmnaa
open Go.RowKit
set_option linter.unusedVariables false
set_option maxRecDepth 100000
set_option linter.unusedSimpArgs false

theorem gP_goods {w : World} {a : Option Addr} {n c : Nat} {l : List (QV × QD)} (h : PArQ w a n c l) (hg : gP (l.map Prod.snd) = true) : n ≤ 7 ∧ ∀ y ∈ l, IsGood w y.1 y.2 := by
  have h2 := gP_mem hg
  rw [List.length_map, h.len] at h2
  exact ⟨h2.1, fun y hy => good_of_mem h hg hy⟩
def sgnN (ds : List QD) : Int := if gP ds then ((cnt (negs ds) (negs ds).length : Nat) : Int) else 0
set_option maxHeartbeats 2000000 in
theorem SgnPI (a : Option Addr) (n c : Nat) (l : List (QV × QD)) (w : World) (h : PArQ w a n c l) :
    Calls Try.prog 42 #[.slice a n c] w fun e w' => e = .returned (.tuple #[.int .i64 (sgnN (l.map Prod.snd)), .bool (gP (l.map Prod.snd))]) ∧ Below w.heap.size w w' := by
  have CR := hide (fun w1 (k : PArQ w1 a n c l) => GoodPI a n c l w1 k)
  unfold sgnN
  cases hr : gP (l.map Prod.snd)
  · rw [hr] at CR
    rw [if_neg (by simp)]
    have H0 := hide h
    clear h
    go_enter Try.func42, Try.ntmps42
    go_wp2_with fail
    refine (unhide CR _ (unhide H0)).mono ?_
    rintro e w1 ⟨rfl, hb⟩
    have HB := hide (hb)
    clear hb
    go_wp2
    go_ret2
    exact ⟨rfl, unhide HB⟩
  · rw [hr] at CR
    rw [if_pos rfl]
    obtain ⟨hn7, hgs⟩ := gP_goods h hr
    have HG := hide hgs
    have H0 := hide h
    clear h hgs
    go_enter Try.func42, Try.ntmps42
    go_wp2_with fail
    refine (unhide CR _ (unhide H0)).mono ?_
    rintro e w1 ⟨rfl, hb⟩
    have HB := hide (hb)
    clear hb
    go_wp2_with fail
    refine (chgI a n c l _ ((unhide H0).later (unhide HB)) (by omega)).mono ?_
    rintro e w2 ⟨rfl, hb⟩
    replace HB := hide (below_on (unhide HB) hb)
    clear hb
    go_wp2
    go_ret2
    exact ⟨rfl, unhide HB⟩
set_option maxHeartbeats 2000000 in
theorem SgnPS (a : Option Addr) (n c : Nat) (l : List (QV × QD)) (w : World) (h : PArQ w a n c l) :
    Calls Try.prog 41 #[.slice a n c] w fun e w' => e = .returned (.tuple #[.int .i64 (sgnN (l.map Prod.snd)), .bool (gP (l.map Prod.snd))]) ∧ Below w.heap.size w w' := by
  have CR := hide (fun w1 (k : PArQ w1 a n c l) => GoodPS a n c l w1 k)
  unfold sgnN
  cases hr : gP (l.map Prod.snd)
  · rw [hr] at CR
    rw [if_neg (by simp)]
    have H0 := hide h
    clear h
    go_enter Try.func41, Try.ntmps41
    go_wp2_with fail
    refine (unhide CR _ (unhide H0)).mono ?_
    rintro e w1 ⟨rfl, hb⟩
    have HB := hide (hb)
    clear hb
    go_wp2
    go_ret2
    exact ⟨rfl, unhide HB⟩
  · rw [hr] at CR
    rw [if_pos rfl]
    obtain ⟨hn7, hgs⟩ := gP_goods h hr
    have HG := hide hgs
    have H0 := hide h
    clear h hgs
    go_enter Try.func41, Try.ntmps41
    go_wp2_with fail
    refine (unhide CR _ (unhide H0)).mono ?_
    rintro e w1 ⟨rfl, hb⟩
    have HB := hide (hb)
    clear hb
    go_wp2_with fail
    refine (signsS a n c l _ ((unhide H0).later (unhide HB)) (fun y hy => ((unhide HG) y hy).later (unhide HB))).mono ?_
    rintro e w2 ⟨rfl, hb⟩
    replace HB := hide (below_on (unhide HB) hb)
    clear hb
    go_wp2
    go_ret2
    exact ⟨rfl, unhide HB⟩
end Go.Proofs.Ytliaddmkomcmnaa
namespace Go.Proofs.Ytliaddmkomcmnaa
open Go.RowKit
set_option linter.unusedVariables false
set_option maxRecDepth 100000
set_option linter.unusedSimpArgs false

set_option maxRecDepth 100000 in
set_option maxHeartbeats 16000000 in
theorem lawSgnP_walk (a0 : Option Addr) (n0 c0 : Nat) (l0 : List (QV × QD))   (w : World) (h0 : PSlQ w a0 l0) (hn0 : l0.length = n0)  (hm0 : n0 ≤ maxLen) (ml0 : ∀ p ∈ l0, p.1.num.n ≤ maxLen ∧ p.1.den.n ≤ maxLen)  :
    Calls Try.prog 8 #[.slice a0 n0 c0] w fun e w' => e = .returned (.bool true) ∧ Below w.heap.size w w' := by
  obtain ⟨g0, Hg0⟩ : ∃ g0 : Int, Hid (g0 = (sgnN (l0.map Prod.snd))) := ⟨_, hide rfl⟩
  obtain ⟨g1, Hg1⟩ : ∃ g1 : Bool, Hid (g1 = (gP (l0.map Prod.snd))) := ⟨_, hide rfl⟩
  have CS : Hid (∀ (a : Option Addr) (n c : Nat) (k : List (QV × QD))  (w : World), PArQ w a n c k → k.map Prod.snd = l0.map Prod.snd → Calls Try.prog 41 #[.slice a n c] w fun e w' => e = .returned (.tuple #[.int .i64 g0, .bool g1]) ∧ Below w.heap.size w w') := hide (by rw [unhide Hg0, unhide Hg1]; exact fun a n c k w h e => by have := SgnPS a n c k w h; rw [e] at this; exact this)
  have CI : Hid (∀ (a : Option Addr) (n c : Nat) (k : List (QV × QD))  (w : World), PArQ w a n c k → k.map Prod.snd = l0.map Prod.snd → Calls Try.prog 42 #[.slice a n c] w fun e w' => e = .returned (.tuple #[.int .i64 g0, .bool g1]) ∧ Below w.heap.size w w') := hide (by rw [unhide Hg0, unhide Hg1]; exact fun a n c k w h e => by have := SgnPI a n c k w h; rw [e] at this; exact this)
  clear Hg0 Hg1
  have SZ0 := hide (fun w1 (left : Int) (b0 : 0 ≤ left) (b1 : left ≤ 1048576) (k : PSlQ w1 a0 l0) => szPQ a0 n0 c0 l0 left w1 k hn0 hm0 ml0 b0 b1)
  have HS0 := hide h0
  have HN0 := hide hn0
  clear h0 hn0 hm0 ml0 
  have HB := hide (Below.refl w.heap.size w)
  go_enter Try.func8, Try.ntmps8
  go_wp2_with fail
  refine (unhide SZ0 _ 1048576 (by omega) (by omega) ((unhide HS0).later (unhide HB))).mono ?_
  rintro e ws0 ⟨r0, rfl, hb, hr⟩
  replace HB := hide (below_on (unhide HB) hb)
  clear hb SZ0
  by_cases hneg : r0 < 0
  · clear hr
    go_wp2
    go_ret
    exact ⟨rfl, (unhide HB)⟩
  have e0 : Hid (r0 = 1048576 - (n0 : Int) - (lenPQ l0 : Int)) := hide (by
    rcases hr with e | e
    · exact absurd (show r0 < 0 by omega) hneg
    · exact e.2)
  clear hr
  have b0 : r0 ≤ 1048576 := by have := unhide e0; omega
  have p0 : 0 ≤ r0 := by omega
  have M0 : Hid (∀ p ∈ l0, p.1.num.n ≤ 1048576 ∧ p.1.den.n ≤ 1048576) := hide (fun p hp => by have h1 := lenPQ_mem hp; have h2 : lenQ p = p.1.num.n + p.1.den.n := rfl; have := unhide e0; omega)
  have TT0 := hide (fun w1 (k : PSlQ w1 a0 l0) => toPQ a0 n0 c0 l0 w1 k (unhide HN0) (by have := unhide e0; omega) (unhide M0))
  go_wp2_with fail
  refine (unhide TT0 _ ((unhide HS0).later (unhide HB))).mono ?_
  rintro e wa0 ⟨lA, rfl, hb, zA, dA, oA⟩
  replace HB := hide (below_on (unhide HB) hb)
  have A0 := hide oA
  have DA := hide dA
  clear hb zA dA oA
  go_wp2_with fail
  refine (unhide CS _ _ _ lA _ (unhide A0).arg (unhide DA)).mono ?_
  rintro e w5 ⟨rfl, hb⟩
  replace HB := hide (below_on (unhide HB) hb)
  clear hb A0 DA
  go_wp2_with fail
  refine (unhide TT0 _ ((unhide HS0).later (unhide HB))).mono ?_
  rintro e wx0 ⟨lX, rfl, hb, zX, dX, oX⟩
  replace HB := hide (below_on (unhide HB) hb)
  have OX := hide oX
  have DX := hide dX
  clear hb zX dX oX
  go_wp2_with fail
  refine (unhide CI _ _ _ lX  _ (unhide OX).arg (unhide DX) ).mono ?_
  rintro e w6 ⟨rfl, hb⟩
  replace OX := hide ((unhide OX).later hb)
  replace HB := hide (below_on (unhide HB) hb)
  clear hb
  have eg0 : (g0 == g0) = true := by simp
  have eg1 : (g1 == g1) = true := by simp
  go_wp2_with fail
  refine (unhide TT0 _ ((unhide HS0).later (unhide HB))).mono ?_
  rintro e wy0 ⟨lY, rfl, hb, zY, dY, oY⟩
  replace OX := hide ((unhide OX).later hb)
  replace HB := hide (below_on (unhide HB) hb)
  have OY := hide oY
  have DY := hide dY
  clear hb zY dY oY
  go_wp2_with fail
  refine (eqPQ _ _ n0 _ _ lX lY _ (unhide OX).arg.sl (unhide OY).arg.sl (unhide OX).len ((unhide DX).trans (unhide DY).symm) (Nat.le_trans (unhide OX).arg.cap (unhide OX).arg.top) (fun p hp => ⟨Nat.le_trans ((unhide OX).ar p hp).head.ar.cap ((unhide OX).ar p hp).head.ar.top, Nat.le_trans ((unhide OX).ar p hp).tail.head.ar.cap ((unhide OX).ar p hp).tail.head.ar.top⟩)).mono ?_
  rintro e wy1 ⟨rfl, hb⟩
  replace OX := hide ((unhide OX).later hb)
  replace HB := hide (below_on (unhide HB) hb)
  clear hb OY DY
  go_wp2
  go_ret
  exact ⟨rfl, (unhide HB)⟩
end Go.Proofs.Ytliaddmkomcmnaa
namespace Go.Proofs.Ytliaddmkomcmnaa
open Go.ChangeShapes Go.WideShapes Go.ChangeAt Go.RowKit Go.Joins
set_option linter.unusedVariables false
set_option maxRecDepth 100000
set_option linter.unusedSimpArgs false

theorem open_ratc {H : Type} {enc : TypeId × Value → H} {W : World} {m : Nat} {c0 c1 c2 c3 : Value} {x : DataW H × List MemPlace}
    (hf : DataW.trod enc Try.prog W 0 (fun _ => true) true m 26 [c0, c1, c2, c3] = some x) :
    ∃ p : QV × QD, (c0 = .bool p.1.num.g ∧ c1 = .slice p.1.num.a p.1.num.n p.1.num.c ∧ c2 = .bool p.1.den.g ∧ c3 = .slice p.1.den.a p.1.den.n p.1.den.c) ∧ AllSl W [(p.1.num, p.2.num), (p.1.den, p.2.den)] ∧ p.1.num.n ≤ maxLen ∧ p.1.den.n ≤ maxLen := by
  obtain ⟨y0, y1, n, hx, _, h0, h1⟩ := trod_struct2 Try.underlying26 hf
  have k0 : DataW.trod enc Try.prog W 0 (fun _ => true) true n 24 [c0, c1] = some y0 := by simpa [Value.cells, Try.cells24] using h0
  have k1 : DataW.trod enc Try.prog W 0 (fun _ => true) true n 24 [c2, c3] = some y1 := by simpa [Value.cells, Try.cells24] using h1
  obtain ⟨z0, z1, n1, _, _, p0, p1⟩ := trod_struct2 Try.underlying24 k0
  obtain ⟨z2, z3, n2, _, _, p2, p3⟩ := trod_struct2 Try.underlying24 k1
  have c_b : Try.prog.cellsOf 4 = 1 := by kernel_rfl
  have c_s : Try.prog.cellsOf 22 = 1 := by kernel_rfl
  obtain ⟨g, a, n', c, xs, rfl, rfl, s1, s2, s3, _⟩ := open_two (c0 := c0) (c1 := c1) (by simpa [c_b] using p0) (by simpa [c_s] using p1)
  obtain ⟨h, b, q, e, us, rfl, rfl, t1, t2, t3, _⟩ := open_two (c0 := c2) (c1 := c3) (by simpa [c_b] using p2) (by simpa [c_s] using p3)
  exact ⟨(⟨⟨g, a, n', c⟩, ⟨h, b, q, e⟩⟩, ⟨⟨g, xs⟩, ⟨h, us⟩⟩), ⟨rfl, rfl, rfl, rfl⟩, AllSl.cons ⟨rfl, s1, s2⟩ (AllSl.cons ⟨rfl, t1, t2⟩ (AllSl.nil _)), s3, t3⟩
theorem addr_add (b off k : Nat) : (⟨b, off, none⟩ : Addr).add k = ⟨b, off + k, none⟩ := by
  unfold Addr.add
  split
  · rename_i h; subst h; rfl
  · rfl
theorem addr_add_block (a : Addr) (k : Nat) : (a.add k).block = a.block := by unfold Addr.add; split <;> rfl
theorem open_PQ {H : Type} {enc : TypeId × Value → H} {W : World} {r : Reach} {b0 : Nat} {v : Value} {d : DataW H} {p : List MemPlace}
    (hv : Value.okWide Try.prog W r b0 57 v) (h : DataW.Trod enc Try.prog W 0 (fun _ => true) true 57 v d p) :
    ∃ (a : Option Addr) (n c : Nat) (l : List (QV × QD)), v = .slice a n c ∧ PSlQ W a l ∧ l.length = n ∧ n ≤ maxLen ∧ ∀ p ∈ l, p.1.num.n ≤ maxLen ∧ p.1.den.n ≤ maxLen := by
  obtain ⟨a, n, c, rfl⟩ := okWide_slice Try.underlying57 hv
  obtain ⟨fuel, hf⟩ := h
  rcases Go.Deep.open_slice Try.underlying57 hf with ⟨hcs, _⟩ | ⟨a', len, cap, m, n', D, Pl, hcs, _, hl, hm, hmm, _, hx⟩
  · simp only [Value.cells, List.cons.injEq, Value.slice.injEq, and_true] at hcs
    obtain ⟨rfl, rfl, rfl⟩ := hcs
    exact ⟨none, 0, 0, [], rfl, ⟨.inl rfl, fun p hp => by cases hp⟩, rfl, Nat.zero_le _, fun p hp => by cases hp⟩
  · simp only [Value.cells, List.cons.injEq, Value.slice.injEq, and_true] at hcs
    obtain ⟨rfl, rfl, rfl⟩ := hcs
    simp only [if_true] at hmm
    subst hmm
    have each : ∀ i, i < n → ∃ p : QV × QD, (W.cell? ((a'.add (i * 4)).add 0) = some (.bool p.1.num.g) ∧ W.cell? ((a'.add (i * 4)).add 1) = some (.slice p.1.num.a p.1.num.n p.1.num.c) ∧ W.cell? ((a'.add (i * 4)).add 2) = some (.bool p.1.den.g) ∧ W.cell? ((a'.add (i * 4)).add 3) = some (.slice p.1.den.a p.1.den.n p.1.den.c)) ∧ AllSl W [(p.1.num, p.2.num), (p.1.den, p.2.den)] ∧ p.1.num.n ≤ maxLen ∧ p.1.den.n ≤ maxLen := by
      intro i hi
      obtain ⟨cs, h1, h2⟩ := hx i (by omega)
      rw [Try.cells26] at h1
      obtain ⟨_, h3, h4⟩ := World.cells?_some h1
      match cs, h3 with
      | [c0, c1, c2, c3], _ =>
        obtain ⟨p, ⟨rfl, rfl, rfl, rfl⟩, hp⟩ := open_ratc h2
        exact ⟨p, ⟨h4 0 (by omega), h4 1 (by omega), h4 2 (by omega), h4 3 (by omega)⟩, hp⟩
    have inh : Inhabited (QV × QD) := ⟨(⟨⟨false, none, 0, 0⟩, ⟨false, none, 0, 0⟩⟩, ⟨⟨false, []⟩, ⟨false, []⟩⟩)⟩
    obtain ⟨f, hf⟩ := Go.Deep.choose_lt each
    refine ⟨some a', n, m, (List.range n).map f, rfl, ⟨?_, ?_⟩, by simp, Nat.le_trans hl hm, ?_⟩
    · by_cases h0 : n = 0
      · subst h0; exact .inl rfl
      · obtain ⟨b, off, spot⟩ := a'
        have hc := (hf 0 (by omega)).1.1
        have hspot : spot = none := by simpa [Addr.add] using World.cell?_spot hc
        subst hspot
        refine .inr ⟨b, off, rfl, ?_, fun i hi => ?_⟩
        · have := World.block_lt_of_cell? _ _ hc
          rw [addr_add, addr_add] at this
          exact this
        · have hi' : i < n := by simpa using hi
          have h1 := (hf i hi').1
          rw [addr_add, addr_add, addr_add, addr_add, addr_add] at h1
          simpa using h1
    · intro p hp
      obtain ⟨i, hi, rfl⟩ := List.mem_map.1 hp
      exact (hf i (List.mem_range.1 hi)).2.1
    · intro p hp
      obtain ⟨i, hi, rfl⟩ := List.mem_map.1 hp
      exact (hf i (List.mem_range.1 hi)).2.2
end Go.Proofs.Ytliaddmkomcmnaa
namespace Go.Proofs.Ytliaddmkomcmnaa
open Go.ChangeShapes Go.WideShapes Go.ChangeAt Go.RowKit Go.Joins
set_option linter.unusedVariables false
set_option maxRecDepth 100000
set_option linter.unusedSimpArgs false

set_option maxRecDepth 100000 in
theorem sgnP_holds_lifted (os : Os) (started : os.Started) (H : Type) (enc : TypeId × Value → H) :
    ReturnsInHanded {} Try.checked os 8 .any (Rows.fnExactSignsInSpec.pre6 enc Try.prog Try.f8 Rows.fnExactSignsInRow.domain false) (Rows.fnExactSignsInSpec.post enc Try.prog Try.f8 false true false false) := by
  refine returnsInHanded_of_change (C := Try.checked) own started (by kernel_rfl) Try.func8
    (ChangeSpec.witness6 (enc := enc) (C := Try.checked) false ⟨#[], #[.slice none 0 0], []⟩ 8 (by kernel_rfl) (by kernel_rfl) (by kernel_rfl) (by kernel_rfl)) ?_
  intro W base args ds gs before hval0 hW hcnd _
  have hval : ∀ (j : Nat) t v, Try.f8.params[j]? = some t → args[j]? = some v → Value.okWide Try.prog W .any base t v := hval0
  have hW' := hW
  obtain ⟨p, q, hA0, hV, rfl, hfz, hnd⟩ := hW
  have hA : DataW.TrodAll enc Try.prog W 0 (fun _ => true) true Try.f8.params.toList args.toList ds p := hA0
  rw [Try.params8] at hA hval
  obtain ⟨v0, vs0, d0, ds0, p0, q0, hargs, rfl, rfl, h0, r0⟩ := trodAll_cons hA
  obtain ⟨rfl, rfl, rfl⟩ := trodAll_nil r0
  obtain rfl : args = #[v0] := by cases args; simp_all
  obtain ⟨rfl, rfl⟩ := trodVars_none hV
  have lt0 : ∀ x ∈ p0, x.block < W.heap.size := by obtain ⟨m, hm⟩ := h0; exact DataW.trod_lt m _ _ _ hm
  obtain ⟨a0, n0, c0, l0, rfl, sl0, hn0, hm0, ml0⟩ := open_PQ (hval 0 57 v0 rfl rfl) h0
  clear hA0 hval0
  refine (lawSgnP_walk a0 n0 c0 l0 W sl0 hn0 hm0 ml0).mono fun e W' ⟨he, bel⟩ => ?_
  subst he
  exact ⟨_, rfl, _, _, _, [], _, [], hW', trodAll_mk1 (shut_bool Try.underlying4 _), (trodAll_cons_mk (Below.trod laidOut (by kernel_rfl) (of_decide_eq_true (by kernel_rfl)) h0 bel lt0) trodAll_mk0), rfl, bel.frame _, fun h => by cases h⟩

theorem sgnP_holds_c0 : (Rows.fnExactSignsInRow.wf (OpenSpec.ofChange Rows.fnExactSignsInSpec)) = true := by kernel_rfl
theorem sgnP_holds_c1 : (laidOutB Try.pinned.checked.prog) = true := by kernel_rfl
theorem sgnP_holds_c2 : (mapsRowed Try.pinned.checked.prog) = true := by kernel_rfl
theorem sgnP_holds_c3 : (Try.f8.params.all (Try.pinned.checked.prog.readableRec ·)) = true := by kernel_rfl
theorem sgnP_holds_c4 : (namedTie Try.pinned.checked.prog Rows.fnExactSignsInRow.named Rows.fnExactSignsInSpec.vars) = true := by kernel_rfl
theorem sgnP_holds_c5 : (Rows.fnExactSignsInRow.stops == []) = true := by kernel_rfl
theorem sgnP_holds_c6 : (Try.pinned.checked.prog.stops == []) = true := by kernel_rfl
theorem sgnP_holds_c7 : (Rows.fnExactSignsInRow.knobs == []) = true := by kernel_rfl
theorem sgnP_holds_c8 : (Try.pinned.checked.prog.stopKnobs == []) = true := by kernel_rfl
theorem sgnP_holds_c9 : (Rows.fnExactSignsInRow.inPlace == Try.pinned.checked.prog.inPlace 8) = true := by kernel_rfl
theorem sgnP_holds_c10 : (Rows.fnExactSignsInRow.unfollowed == Try.pinned.checked.prog.unfollowed 8) = true := by kernel_rfl
theorem sgnP_holds_c11 : (Rows.fnExactSignsInRow.recurses == Try.pinned.checked.prog.recurses 8) = true := by kernel_rfl
theorem sgnP_holds_c12 : (Rows.fnExactSignsInRow.named == Try.pinned.checked.prog.varsNamed 8) = true := by kernel_rfl
theorem sgnP_holds_c13 : (Rows.fnExactSignsInRow.maps == (Try.f8.params.toList ++ Rows.fnExactSignsInSpec.plain.varTypes Try.pinned.checked.prog).any (Try.pinned.checked.prog.mapsRec ·)) = true := by kernel_rfl
theorem sgnP_holds_c14 : (Rows.fnExactSignsInRow.ifaces == (Try.f8.params.toList ++ Rows.fnExactSignsInSpec.plain.varTypes Try.pinned.checked.prog).any (Try.pinned.checked.prog.ifacesRec ·)) = true := by kernel_rfl
theorem sgnP_holds_c15 : (Rows.fnExactSignsInRow.mapsOut == Try.pinned.checked.prog.mapsAmong Try.f8.resultTypes.toList) = true := by kernel_rfl
theorem sgnP_holds_c16 : (Rows.fnExactSignsInRow.loops == (Try.f8.params.toList ++ Rows.fnExactSignsInSpec.plain.varTypes Try.pinned.checked.prog).any (Try.pinned.checked.prog.loopsFrom ·)) = true := by kernel_rfl
theorem sgnP_holds_c17 : (Rows.fnExactSignsInRow.wideKeys == (Try.f8.params.toList ++ Rows.fnExactSignsInSpec.plain.varTypes Try.pinned.checked.prog ++ Try.f8.resultTypes.toList).any (Try.pinned.checked.prog.wideKeysFrom ·)) = true := by kernel_rfl
theorem sgnP_holds_c18 : (Rows.fnExactSignsInSpec.vars.all (Try.pinned.checked.prog.varReadable ·)) = true := by kernel_rfl
theorem sgnP_holds_c19 : (Try.f8.resultTypes.all (fun t => Try.pinned.checked.prog.readableRec t && decide (t < Try.pinned.checked.prog.types.size))) = true := by kernel_rfl
theorem sgnP_holds_c20 : (Rows.fnExactSignsInRow.ifacesOut == Try.f8.resultTypes.toList.any (Try.pinned.checked.prog.ifacesRec ·)) = true := by kernel_rfl
theorem sgnP_holds_c21 : (Rows.fnExactSignsInRow.loopsOut == Try.f8.resultTypes.toList.any (Try.pinned.checked.prog.loopsFrom ·)) = true := by kernel_rfl
theorem sgnP_holds_c22 : (Rows.fnExactSignsInRow.plainKeys == Try.pinned.checked.prog.plainKeys) = true := by kernel_rfl
theorem sgnP_holds_c23 : (Rows.fnExactSignsInRow.shortTexts.isNone) = true := by kernel_rfl
theorem sgnP_holds_c24 : (Try.pinned.checked.prog.stopsHeard) = true := by kernel_rfl
theorem sgnP_holds_c25 : (Try.pinned.checked.prog.mayEnter) = true := io_enter
theorem sgnP_holds_c26 : (Rows.fnExactSignsInRow.lifted == Try.pinned.checked.prog.liftsFinal) = true := by rw [io_lifts]; kernel_rfl
theorem sgnP_holds_c27 : (Try.pinned.checked.prog.make == some Rows.fnExactSignsInRow.make) = true := by rw [io_make]; kernel_rfl
theorem sgnP_holds_c28 : (Rows.fnExactSignsInRow.kinds == (if Rows.fnExactSignsInRow.domain.isEmpty then [] else Try.f8.params.toList.map fun t => match Try.pinned.checked.prog.underlying t with | some (.int k) => some k | _ => none)) = true := by kernel_rfl
theorem sgnP_holds_c29 : (Rows.fnExactSignsInRow.pinned == Rows.fnExactSignsInRow.pinnedBy) = true := by kernel_rfl
theorem sgnP_holds_c30 : (Rows.fnExactSignsInRow.veiled == (Try.f8.params.toList ++ Rows.fnExactSignsInSpec.plain.varTypes Try.pinned.checked.prog ++ Try.f8.resultTypes.toList).any (Try.pinned.checked.prog.veiledRec ·)) = true := by kernel_rfl
theorem sgnP_holds_c31 : (Rows.fnExactSignsInRow.veiledFits Try.pinned.checked.prog Try.f8.params.toList (Try.f8.params.toList ++ Rows.fnExactSignsInSpec.plain.varTypes Try.pinned.checked.prog ++ Try.f8.resultTypes.toList)) = true := by kernel_rfl
theorem sgnP_holds_and {a b : Bool} (h : a = true) (k : b = true) : (a && b) = true := by rw [h, k]; rfl
theorem sgnP_holds_closed : joinedFacts Try.pinned.checked.prog 8 Try.f8 Rows.fnExactSignsInSpec Rows.fnExactSignsInRow = true := (sgnP_holds_and (sgnP_holds_and (sgnP_holds_and (sgnP_holds_and (sgnP_holds_and (sgnP_holds_and (sgnP_holds_and (sgnP_holds_and (sgnP_holds_and (sgnP_holds_and (sgnP_holds_and (sgnP_holds_and (sgnP_holds_and (sgnP_holds_and (sgnP_holds_and (sgnP_holds_and (sgnP_holds_and (sgnP_holds_and (sgnP_holds_and (sgnP_holds_and (sgnP_holds_and (sgnP_holds_and (sgnP_holds_and (sgnP_holds_and (sgnP_holds_and (sgnP_holds_and (sgnP_holds_and (sgnP_holds_and (sgnP_holds_and (sgnP_holds_and (sgnP_holds_and sgnP_holds_c0 sgnP_holds_c1) sgnP_holds_c2) sgnP_holds_c3) sgnP_holds_c4) sgnP_holds_c5) sgnP_holds_c6) sgnP_holds_c7) sgnP_holds_c8) sgnP_holds_c9) sgnP_holds_c10) sgnP_holds_c11) sgnP_holds_c12) sgnP_holds_c13) sgnP_holds_c14) sgnP_holds_c15) sgnP_holds_c16) sgnP_holds_c17) sgnP_holds_c18) sgnP_holds_c19) sgnP_holds_c20) sgnP_holds_c21) sgnP_holds_c22) sgnP_holds_c23) sgnP_holds_c24) sgnP_holds_c25) sgnP_holds_c26) sgnP_holds_c27) sgnP_holds_c28) sgnP_holds_c29) sgnP_holds_c30) sgnP_holds_c31)
theorem sgnP_holds_named : Try.pinned.checked.prog.funcNamed Rows.fnExactSignsInRow.func = some 8 := by kernel_rfl
theorem sgnP_holds_inst : Try.f8.isInstance Try.pinned.checked.prog Rows.fnExactSignsInRow.origin Rows.fnExactSignsInRow.targs := of_decide_eq_true (by kernel_rfl)
theorem sgnP_holds_wrap : Try.f8.isWrapper Try.pinned.checked.prog Rows.fnExactSignsInRow.wrapper Rows.fnExactSignsInRow.mainSum := by unfold Func.isWrapper; first | (rw [if_pos (by decide +kernel)]; kernel_rfl) | (rw [if_neg (by decide +kernel)]; exact ⟨rfl, rfl⟩)
theorem sgnP_holds : Rows.FnExactSignsInSaid :=
  OpenClaim.holds_of_wide 8 Try.f8 rfl rfl rfl rfl rfl rfl rfl ⟨rfl, rfl, rfl, rfl, rfl⟩ rfl rfl rfl rfl rfl sgnP_holds_named Try.func8 sgnP_holds_closed sgnP_holds_inst sgnP_holds_wrap
    (fun os started H enc _ => sgnP_holds_lifted os started H enc)
#print axioms sgnP_holds
end Go.Proofs.Ytliaddmkomcmnaa
