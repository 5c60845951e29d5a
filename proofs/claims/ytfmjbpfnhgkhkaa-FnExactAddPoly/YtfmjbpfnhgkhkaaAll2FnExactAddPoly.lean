/- The law FnExactAddPoly returns true for every argument and leaves it as it was: the given statement FnExactAddPolySaid. No condition. -/
import Derived.Test.YtfmjbpfnhgkhkaaPackW
import Derived.Test.YtfmjbpfnhgkhkaaPackS
import Derived.Test.YtfmjbpfnhgkhkaaOpenQ
import Derived.Deep.Slices
import Derived.Test.YtfmjbpfnhgkhkaaIo
namespace Go.Proofs.Ytfmjbpfnhgkhkaa
open Go.RowKit
set_option linter.unusedVariables false
set_option maxRecDepth 100000
set_option linter.unusedSimpArgs false

set_option maxHeartbeats 4000000 in
theorem cutI_some (ad : Addr) (n c : Nat) (l : List (QV × QD)) (w : World) (h : PArQ w (some ad) n c l) :
    Calls Try.prog 148 #[.slice (some ad) n c, .func (Fn.func 149) #[] #[]] w fun e w' => ∃ m, e = .returned (.slice (some ad) m m) ∧ Below w.heap.size w w' ∧ m ≤ n ∧ CutAt (l.map Prod.snd) m := by
  have HS := hide h
  have HN := hide h.len
  have hcap := h.cap
  have htop := h.top
  clear h
  unfold maxLen at htop
  go_enter Try.func148, Try.ntmps148
  go_wp2
  go_loopw [5] (fun v wr => ∃ m : Nat, m ≤ n ∧ v = .int .i64 m ∧ Hid (∀ j (h : j < (l.map Prod.snd).length), m ≤ j → nz (l.map Prod.snd)[j] = true) ∧ Hid (Below w.heap.size w wr)) (fun v _ => (intOf v).toNat)
  case atStart => exact ⟨n, Nat.le_refl _, rfl, hide (fun j hj hm => by simp at hj; rw [unhide HN] at hj; omega), hide (Below.refl _ _)⟩
  case round =>
    obtain ⟨m, hm, rfl, EZ, HB⟩ := hrel
    have qc : (m : Int) ≤ (c : Int) := by omega
    by_cases h0 : m = 0
    · subst h0
      have CA : Hid (CutAt (l.map Prod.snd) 0) := hide ⟨Nat.zero_le _, unhide EZ, fun hh => absurd hh (by omega)⟩
      go_wp2
      go_ret
      exact ⟨0, rfl, unhide HB, Nat.zero_le _, unhide CA⟩
    · have b0 : decide ((0 : Int) < (m : Int)) = true := by simp; omega
      have hlx : m - 1 < n := by omega
      rcases (unhide HS).at_ with e | ⟨b, off, ea, hb, hc⟩
      · exact absurd (unhide HN) (by rw [e]; simp; omega)
      obtain rfl : ad = ⟨b, off, none⟩ := Option.some.inj ea
      have e0 := hc (m - 1) (by rw [unhide HN]; exact hlx)
      obtain ⟨y, hy⟩ : ∃ y, y = l[(m - 1)]'(by rw [unhide HN]; exact hlx) := ⟨_, rfl⟩
      rw [← hy] at e0
      have MY : Hid (y ∈ l) := hide (by rw [hy]; exact List.getElem_mem _)
      have EY := hide hy
      clear hy
      have E0 : wr.cell? ⟨b, off + (m - 1) * 4, none⟩ = some (.bool y.1.num.g) := ((unhide HB).cell (p := ⟨b, off + (m - 1) * 4, none⟩) hb).trans (e0.1)
      have E1 : wr.cell? ⟨b, off + (m - 1) * 4 + 1, none⟩ = some (.slice y.1.num.a y.1.num.n y.1.num.c) := ((unhide HB).cell (p := ⟨b, off + (m - 1) * 4 + 1, none⟩) hb).trans (e0.2.1)
      have E2 : wr.cell? ⟨b, off + (m - 1) * 4 + 2, none⟩ = some (.bool y.1.den.g) := ((unhide HB).cell (p := ⟨b, off + (m - 1) * 4 + 2, none⟩) hb).trans (e0.2.2.1)
      have E3 : wr.cell? ⟨b, off + (m - 1) * 4 + 3, none⟩ = some (.slice y.1.den.a y.1.den.n y.1.den.c) := ((unhide HB).cell (p := ⟨b, off + (m - 1) * 4 + 3, none⟩) hb).trans (e0.2.2.2)
      clear e0
      clear hc ea
      have R1 := hide (((unhide HS).rd y (unhide MY)).later (unhide HB))
      have i1 : (0 : Int) ≤ (m : Int) - 1 := by omega
      have i2 : (m : Int) - 1 < (n : Int) := by omega
      have i3 : ((m : Int) - 1).toNat = m - 1 := by omega
      have iw : IntKind.i64.wrap ((m : Int) - 1) = (m : Int) - 1 := by rw [IntKind.wrap_i64]; omega
      have CC := hide (fun w1 (k : AllAr w1 [(y.1.num, y.2.num), (y.1.den, y.2.den)]) => noughtI y.1 y.2 w1 k)
      cases hz : nz y.2
      · rw [hz] at CC
        have CA : Hid (CutAt (l.map Prod.snd) m) := hide ⟨by simp; rw [unhide HN]; exact hm, unhide EZ, fun hh => by rw [List.getElem_map, ← unhide EY]; exact hz⟩
        go_wp2_with fail
        refine (unhide CC _ (unhide R1)).mono ?_
        rintro e w1 ⟨rfl, hb1⟩
        replace HB := hide (below_on (unhide HB) hb1)
        clear hb1 E0 E1 E2 E3 CC R1
        go_wp2
        go_ret
        exact ⟨m, rfl, unhide HB, hm, unhide CA⟩
      · rw [hz] at CC
        go_wp2_with fail
        refine (unhide CC _ (unhide R1)).mono ?_
        rintro e w1 ⟨rfl, hb1⟩
        have HB1 := hide (below_on (unhide HB) hb1)
        clear hb1 E0 E1 E2 E3 CC R1
        go_wp2
        go_roundw
        case rel =>
          refine ⟨m - 1, by omega, by simp [i3]; omega, hide (fun j hj hmj => ?_), HB1⟩
          by_cases e : m ≤ j
          · exact unhide EZ j hj e
          · obtain rfl : j = m - 1 := by omega
            rw [List.getElem_map, ← unhide EY]
            exact hz
        case measure => simp [intOf]; omega

/-- Beyond what PolyOf takes. -/
def bey (x : Int) : Bool := decide (x < -1000) || decide (1000 < x)
theorem beyI (x : Int) (w : World) : Calls Try.prog 146 #[.int .i64 x] w fun e w' => e = .returned (.bool (bey x)) ∧ Below w.heap.size w w' := by
  by_cases h : x < -1000
  · have hd : decide (x < -1000) = true := decide_eq_true h
    go_enter Try.func146, Try.ntmps146
    go_wp2
    go_ret
    exact ⟨by unfold bey; rw [hd]; rfl, Below.refl _ _⟩
  · have hd : decide (x < -1000) = false := decide_eq_false h
    go_enter Try.func146, Try.ntmps146
    go_wp2
    go_ret
    exact ⟨by unfold bey; rw [hd]; rfl, Below.refl _ _⟩
theorem getD_at {xs : List Int} {i : Nat} (h : i < xs.length) : xs.getD i 0 = xs[i] := by simp [List.getD, h]
theorem take_succI {xs : List Int} {i : Nat} (h : i < xs.length) : xs.take (i + 1) = xs.take i ++ [xs.getD i 0] := by
  rw [List.take_add_one, List.getElem?_eq_getElem h, getD_at h]
  rfl
set_option maxHeartbeats 2000000 in
theorem indexBey (a : Option Addr) (n c : Nat) (xs : List Int) (w : World) (h : Arg w a n c xs) :
    Calls Try.prog 195 #[.slice a n c, .func (Fn.func 146) #[] #[]] w fun e w' => ∃ r : Int, e = .returned (.int .i64 r) ∧ Below w.heap.size w w' ∧ decide (0 ≤ r) = xs.any bey ∧ -1 ≤ r ∧ r ≤ 9223372036854775807 := by
  have HS := hide h.sl
  have HN := hide h.len
  have hm : n ≤ maxLen := Nat.le_trans h.cap h.top
  clear h
  unfold maxLen at hm
  go_enter Try.func195, Try.ntmps195
  go_wp2
  go_loopw [8] (fun iv wr => ∃ (i : Nat), i ≤ n ∧ iv = .int .i64 i ∧ Hid ((xs.take i).any bey = false) ∧ Hid (Below w.heap.size w wr)) (fun iv _ => n - (intOf iv).toNat)
  case atStart => exact ⟨0, Nat.zero_le _, rfl, hide (by simp), hide (Below.refl _ _)⟩
  case round =>
    obtain ⟨i, hi, rfl, EA, HB⟩ := hrel
    by_cases hlt : i < n
    · have hlt' : (i : Int) < (n : Int) := by omega
      rcases unhide HS with e | ⟨b, off, rfl, hb, hc⟩
      · exact absurd (unhide HN) (by rw [e]; simp; omega)
      have e0 := hc i (by rw [unhide HN]; exact hlt)
      obtain ⟨y, hy⟩ : ∃ y, y = xs.getD i 0 := ⟨_, rfl⟩
      rw [← hy] at e0
      have MY : Hid (y ∈ xs) := hide (by rw [hy, getD_at (by rw [unhide HN]; exact hlt)]; exact List.getElem_mem _)
      have EY := hide hy
      clear hy
      have E0 : wr.cell? ⟨b, off + i, none⟩ = some (.int .i64 y) := ((unhide HB).cell (p := ⟨b, off + i, none⟩) hb).trans e0
      clear e0 hc
      have TK : Hid (xs.take (i + 1) = xs.take i ++ [y]) := hide (by have h := take_succI (xs := xs) (i := i) (by rw [unhide HN]; exact hlt); rw [← unhide EY] at h; exact h)
      have CC := hide (fun w1 => beyI y w1)
      cases hp : bey y
      · rw [hp] at CC
        go_wp2_with fail
        refine (unhide CC _).mono ?_
        rintro e w1 ⟨rfl, hb1⟩
        have HB1 := hide (below_on (unhide HB) hb1)
        clear hb1 E0 CC
        go_wp2
        go_roundw
        case rel => exact ⟨i + 1, by omega, by go_num, hide (by rw [unhide TK, List.any_append, unhide EA]; simp only [List.any_cons, List.any_nil]; rw [hp]; rfl), HB1⟩
        case measure => simp [intOf]; omega
      · rw [hp] at CC
        have AN := hide (show xs.any bey = true from List.any_eq_true.2 ⟨y, unhide MY, hp⟩)
        go_wp2_with fail
        refine (unhide CC _).mono ?_
        rintro e w1 ⟨rfl, hb1⟩
        have HB1 := hide (below_on (unhide HB) hb1)
        clear hb1 E0 CC
        go_wp2
        go_ret
        exact ⟨_, rfl, unhide HB1, by rw [unhide AN]; exact decide_eq_true (by omega), by omega, by omega⟩
    · obtain rfl : i = n := by omega
      have EL := hide (show xs.any bey = false from by have := unhide EA; rw [← unhide HN, List.take_length] at this; exact this)
      go_wp2
      go_ret
      exact ⟨_, rfl, unhide HB, by rw [unhide EL]; rfl, by omega, by omega⟩
theorem containsBey (a : Option Addr) (n c : Nat) (xs : List Int) (w : World) (h : Arg w a n c xs) :
    Calls Try.prog 145 #[.slice a n c, .func (Fn.func 146) #[] #[]] w fun e w' => e = .returned (.bool (xs.any bey)) ∧ Below w.heap.size w w' := by
  have HS := hide h
  clear h
  go_enter Try.func145, Try.ntmps145
  go_wp2_with fail
  refine (indexBey a n c xs _ (unhide HS)).mono ?_
  rintro e w1 ⟨r, rfl, hb1, hr, r0, r1⟩
  have HB1 := hide hb1
  have HR := hide hr
  clear hb1 hr
  go_wp2
  go_ret
  exact ⟨by rw [← unhide HR]; rfl, unhide HB1⟩
end Go.Proofs.Ytfmjbpfnhgkhkaa
namespace Go.Proofs.Ytfmjbpfnhgkhkaa
open Go.RowKit
set_option linter.unusedVariables false
set_option maxRecDepth 100000
set_option linter.unusedSimpArgs false

def wholes (xs : List Int) : List (Int × Int) := xs.map fun x => (x, 1)
/-- What PolyOf answers: P says whether the integers are taken. -/
def AnsO (P : Bool) (xs : List Int) (ds : List QD) (ok : Bool) : Prop := (P = true ∧ ok = true ∧ ∃ es m, IsL (wholes xs) es ∧ CutAt es m ∧ ds = es.take m) ∨ (P = false ∧ ok = false ∧ ds = [])
theorem AnsO.same {P : Bool} {xs : List Int} {d d' : List QD} {ok ok' : Bool} (h : AnsO P xs d ok) (k : AnsO P xs d' ok') : d = d' ∧ ok = ok' := by
  rcases h with ⟨p, o, es, m, a, b, c⟩ | ⟨p, o, e⟩ <;> rcases k with ⟨p', o', es', m', a', b', c'⟩ | ⟨p', o', e'⟩
  · have e1 := a.same a'
    subst e1
    have e2 := b.same b'
    subst e2
    exact ⟨by rw [c, c'], by rw [o, o']⟩
  · rw [p] at p'; cases p'
  · rw [p] at p'; cases p'
  · exact ⟨by rw [e, e'], by rw [o, o']⟩
def pO (xs : List Int) : Bool := decide (xs.length ≤ 7) && !xs.any bey
theorem wholes_snoc {xs : List Int} {i : Nat} (h : i < xs.length) : wholes (xs.take (i + 1)) = wholes (xs.take i) ++ [(xs.getD i 0, 1)] := by
  rw [take_succI h]; unfold wholes; rw [List.map_append]; rfl
theorem bey_no {xs : List Int} (h : xs.any bey = false) {x : Int} (hx : x ∈ xs) : -1000 ≤ x ∧ x ≤ 1000 := by
  have h1 : bey x = false := by
    cases e : bey x
    · rfl
    · rw [List.any_eq_true.2 ⟨x, hx, e⟩] at h; cases h
  unfold bey at h1
  simp at h1
  omega
theorem pro_cut {hi : Nat} {w : World} {G n c m : Nat} {l : List (QV × QD)} (h : PRo G hi w (some ⟨G, 0, none⟩) n c l) (hm : m ≤ n) : PRo G hi w (some ⟨G, 0, none⟩) m m (l.take m) := by
  have hz : lenPQ (l.take m) ≤ lenPQ l := by
    have e : lenPQ (l.take m ++ l.drop m) = lenPQ (l.take m) + lenPQ (l.drop m) := lenPQ_append _ _
    rw [List.take_append_drop] at e
    omega
  refine ⟨by rw [List.length_take, h.len]; omega, by have := h.sz; omega, fun p hp => h.ml p (List.mem_of_mem_take hp), ?_⟩
  rcases h.row with e | ⟨G', lo', hi', e, h1, h2, h3, h4, ⟨cur, h5, h5'⟩, h6⟩
  · exact .inl (by omega)
  · refine .inr ⟨G', lo', hi', e, h1, h2, h3, h4, ⟨cur, h5, fun j p hj => h5' j p ?_⟩, ⟨fun p hp => h6.own p ?_, ?_⟩⟩
    · rw [List.getElem?_take] at hj
      split at hj
      · exact hj
      · cases hj
    · obtain ⟨q, hq, hx⟩ := List.mem_flatMap.1 hp
      exact List.mem_flatMap.2 ⟨q, List.mem_of_mem_take hq, hx⟩
    · have e2 : zipPQ l = zipPQ (l.take m) ++ zipPQ (l.drop m) := by rw [← zipPQ_append, List.take_append_drop]
      have h7 := h6.ap
      rw [e2] at h7
      exact (List.pairwise_append.1 h7).1
theorem polyI_row {B B' E E' m : Nat} {w : World} {a : Option Addr} {l : List (QV × QD)} (h : m = 0 ∨ ∃ G lo hi, a = some ⟨G, 0, none⟩ ∧ B ≤ G ∧ G < lo ∧ lo ≤ hi ∧ hi ≤ E ∧ RowQ w G l ∧ AllOwn lo hi w (zipPQ l)) (hB : B' ≤ B) (hE : E ≤ E') : m = 0 ∨ ∃ G lo hi, a = some ⟨G, 0, none⟩ ∧ B' ≤ G ∧ G < lo ∧ lo ≤ hi ∧ hi ≤ E' ∧ RowQ w G l ∧ AllOwn lo hi w (zipPQ l) := by
  rcases h with e | ⟨G, lo, hi, e, h1, h2, h3, h4, h5, h6⟩
  · exact .inl e
  · exact .inr ⟨G, lo, hi, e, by omega, h2, h3, by omega, h5, h6⟩
set_option maxHeartbeats 4000000 in
theorem polyI_v (a : Option Addr) (n c : Nat) (xs : List Int) (w : World) (h : Arg w a n c xs) :
    Calls Try.prog 73 #[.slice a n c] w (RetPo w (AnsO (pO xs) xs)) := by
  have HA := hide h
  have HS := hide h.sl
  have HN := hide h.len
  clear h
  by_cases h7 : n ≤ 7
  · have b7 : decide ((7 : Int) < (n : Int)) = false := by simp; omega
    have CC := hide (fun w1 (k : Arg w1 a n c xs) => containsBey a n c xs w1 k)
    cases hb : xs.any bey
    · rw [hb] at CC
      have hp : pO xs = true := by unfold pO; rw [hb, unhide HN]; simp; omega
      have YB := hide (fun x (hx : x ∈ xs) => bey_no hb hx)
      rw [hp]
      clear hb hp
      obtain ⟨i0, hi, hz0, hz1, hz2⟩ := info_parts Try.info40
      go_enter Try.func73, Try.ntmps73
      go_wp2_with fail
      refine (unhide CC _ (unhide HA)).mono ?_
      rintro e w0 ⟨rfl, hb0⟩
      have HB0 := hide hb0
      clear hb0 CC
      have sw := (unhide HB0).size
      go_wp2_with (at_make; refine wpList_make_full _ rfl _ _ 71 rfl w0.heap.size 40 i0 (.agg #[.bool false, .slice none 0 0, .bool false, .slice none 0 0]) 4 Try.underlying71 hi hz0 hz1 .i64 .i64 _ _ n rfl rfl (by omega) (by omega) ?c1 ?c2 ?c3 ?_)
      case c1 => rw [hz2]; omega
      case c2 => unfold maxLen; omega
      case c3 => exact Nat.le_refl _
      intro w1 hown hgrow
      have hb0 : Below w0.heap.size w0 w1 := (Below.refl _ _).grown hgrow (Nat.le_refl _) (fun k e => by cases e)
      have P0 : Hid (∃ M, w1.ownsRow w0.heap.size 40 4 (.slice (some ⟨w0.heap.size, 0, none⟩) n n) n M) := hide ⟨_, hown⟩
      have z0 : w0.heap.size < w1.heap.size := by
        rcases hown.2 with ⟨h', _⟩ | ⟨g', cap, cur, hv, _, hg, _⟩
        · simp at h'
        · simp only [Value.slice.injEq, Option.some.injEq, Addr.mk.injEq, and_true, true_and] at hv
          have := (Array.getElem?_eq_some_iff.1 hg).1
          omega
      clear hown hgrow hi hz0 hz1 hz2
      have HB1 := hide hb0
      clear hb0
      go_wp2
      go_loopw [19] (fun iv wr => ∃ (i : Nat) (us : List (QV × QD)), i ≤ n ∧ iv = .int .i64 i ∧ us.length = i ∧ w0.heap.size < wr.heap.size ∧ Hid (IsL (wholes (xs.take i)) (us.map Prod.snd)) ∧ Hid (∃ M, wr.ownsRow w0.heap.size 40 4 (.slice (some ⟨w0.heap.size, 0, none⟩) n n) n M ∧ ∀ i (h : i < us.length), M[i * 4]? = some (.bool us[i].1.num.g) ∧ M[i * 4 + 1]? = some (.slice us[i].1.num.a us[i].1.num.n us[i].1.num.c) ∧ M[i * 4 + 2]? = some (.bool us[i].1.den.g) ∧ M[i * 4 + 3]? = some (.slice us[i].1.den.a us[i].1.den.n us[i].1.den.c)) ∧ Hid (AllOwn (w0.heap.size + 1) wr.heap.size wr (zipPQ us)) ∧ Hid (∀ p ∈ us, AllAr wr [(p.1.num, p.2.num), (p.1.den, p.2.den)]) ∧ Hid (∀ p ∈ us, p.1.num.n ≤ 50 ∧ p.1.den.n ≤ 50) ∧ Hid (Below w0.heap.size w0 wr)) (fun iv _ => n - (intOf iv).toNat)
      case atStart =>
        obtain ⟨M, hM⟩ := unhide P0
        exact ⟨0, [], Nat.zero_le _, rfl, rfl, z0, hide trivial, hide ⟨M, hM, fun i hi => absurd hi (by simp)⟩, hide (AllOwn.nil _ _ _), hide (fun p hp => by cases hp), hide (fun p hp => by cases hp), HB1⟩
      case round =>
        clear P0 HB1 z0
        obtain ⟨i, us, hi, rfl, hu, z1, ED, EM, OO, AA, LS, HB⟩ := hrel
        by_cases hlt : i < n
        · have hlt' : (i : Int) < (n : Int) := by omega
          rcases unhide HS with e | ⟨b, off, rfl, hb, hc⟩
          · exact absurd (unhide HN) (by rw [e]; simp; omega)
          have e0 := hc i (by rw [unhide HN]; exact hlt)
          obtain ⟨y, hy⟩ : ∃ y, y = xs.getD i 0 := ⟨_, rfl⟩
          rw [← hy] at e0
          have MY : Hid (y ∈ xs) := hide (by rw [hy, getD_at (by rw [unhide HN]; exact hlt)]; exact List.getElem_mem _)
          have EY := hide hy
          clear hy
          have E0 : wr.cell? ⟨b, off + i, none⟩ = some (.int .i64 y) := ((unhide HB).cell (p := ⟨b, off + i, none⟩) (Nat.lt_of_lt_of_le hb sw)).trans (((unhide HB0).cell (p := ⟨b, off + i, none⟩) hb).trans e0)
          clear e0 hc
          have TK : Hid (wholes (xs.take (i + 1)) = wholes (xs.take i) ++ [(y, 1)]) := hide (by have h := wholes_snoc (xs := xs) (i := i) (by rw [unhide HN]; exact hlt); rw [← unhide EY] at h; exact h)
          have yb := unhide YB y (unhide MY)
          obtain ⟨y0, y1⟩ := yb
          go_wp2_with fail
          refine (wholeI y _ (by omega) (by omega)).mono ?_
          rintro e w2 ⟨u, lu, lv, rfl, hbx, o2, a2, m1, m2⟩
          have sz2 := hbx.size
          have AU := hide o2
          have AV := hide a2
          have NU := hide (And.intro m1 m2)
          replace HB := hide (below_on (unhide HB) hbx)
          replace EM := hide (row_later (unhide EM) hbx)
          replace OO := hide ((unhide OO).later hbx)
          replace AA := hide (fun p hp => ((unhide AA) p hp).later hbx)
          obtain ⟨M, hM, hL⟩ := unhide EM
          obtain ⟨x_0, old0⟩ : ∃ x, w2.cell? ⟨w0.heap.size, i * 4, none⟩ = some x := ⟨_, (hM.cellAt _ (by omega)).trans (List.getElem?_eq_getElem (by have := hM.1; omega))⟩
          obtain ⟨x_1, old1⟩ : ∃ x, w2.cell? ⟨w0.heap.size, i * 4 + 1, none⟩ = some x := ⟨_, (hM.cellAt _ (by omega)).trans (List.getElem?_eq_getElem (by have := hM.1; omega))⟩
          obtain ⟨x_2, old2⟩ : ∃ x, w2.cell? ⟨w0.heap.size, i * 4 + 2, none⟩ = some x := ⟨_, (hM.cellAt _ (by omega)).trans (List.getElem?_eq_getElem (by have := hM.1; omega))⟩
          obtain ⟨x_3, old3⟩ : ∃ x, w2.cell? ⟨w0.heap.size, i * 4 + 3, none⟩ = some x := ⟨_, (hM.cellAt _ (by omega)).trans (List.getElem?_eq_getElem (by have := hM.1; omega))⟩
          have fr : ∀ o, w2.frozen? ⟨w0.heap.size, o, none⟩ = false := fun o => hM.frozenAt o
          have HM := hide hM
          have HL := hide hL
          clear hM hL hbx o2 a2 m1 m2 EM E0
          go_wp2
          go_roundw
          case rel =>
            have hM := unhide HM
            have bt : But w0.heap.size (w0.heap.size + 1) w2 ((((w2.setCell ⟨w0.heap.size, i * 4, none⟩ (.bool u.num.g)).setCell ⟨w0.heap.size, i * 4 + 1, none⟩ (.slice u.num.a u.num.n u.num.c)).setCell ⟨w0.heap.size, i * 4 + 2, none⟩ (.bool u.den.g)).setCell ⟨w0.heap.size, i * 4 + 3, none⟩ (.slice u.den.a u.den.n u.den.c)) := but_rowQ
            refine ⟨i + 1, us ++ [(u, (⟨⟨decide (y < 0), lu⟩, ⟨decide ((1 : Int) < 0), lv⟩⟩ : QD))], by omega, by go_num, by simp [hu], Nat.lt_of_lt_of_le (by omega) bt.size, hide ?_, hide ⟨_, (World.ownsRow.stored (World.ownsRow.stored (World.ownsRow.stored (World.ownsRow.stored hM (i * 4) (.bool u.num.g)).1 (i * 4 + 1) (.slice u.num.a u.num.n u.num.c)).1 (i * 4 + 2) (.bool u.den.g)).1 (i * 4 + 3) (.slice u.den.a u.den.n u.den.c)).1, set_rowQ hM.1 hlt hu (unhide HL)⟩, hide ?_, hide ?_, hide ?_, hide ?_⟩
            · rw [unhide TK]
              exact isL_snoc (unhide ED) (unhide NU).1 (unhide NU).2
            · rw [zipPQ_append, zipPQ_one]
              exact (((unhide OO).join ((unhide AU).wide (lo' := wr.heap.size) (by omega) (Nat.le_refl _)) (by omega) (by omega)).but bt (.inr (Nat.le_refl _))).wide (Nat.le_refl _) bt.size
            · intro p hp x hx
              have own := ((unhide OO).join ((unhide AU).wide (lo' := wr.heap.size) (by omega) (Nat.le_refl _)) (by omega) (by omega))
              have hAr : AllAr w2 (zipPQ us ++ [(u.num, ⟨decide (y < 0), lu⟩), (u.den, ⟨decide ((1 : Int) < 0), lv⟩)]) := fun x hx => by
                rcases List.mem_append.1 hx with hx | hx
                · obtain ⟨p, hp, hx⟩ := List.mem_flatMap.1 hx
                  exact (unhide AA) p hp x hx
                · exact (unhide AV) x hx
              refine ar_fin bt own hAr (Nat.le_refl _) x ?_
              rcases List.mem_append.1 hp with hp | hp
              · exact List.mem_append_left _ (zipPQ_mem hp hx)
              · obtain rfl := List.mem_singleton.1 hp
                exact List.mem_append_right _ hx
            · intro p hp
              rcases List.mem_append.1 hp with hp | hp
              · exact (unhide LS) p hp
              · obtain rfl := List.mem_singleton.1 hp
                have q1 := (unhide NU).1.len_le (show Bd y 1 from ⟨by omega⟩)
                have q2 := (unhide NU).2.len_le (one_bd2' (Nat.le_refl 1))
                have q3 : lu.length = u.num.n := (unhide AV).head.ar.len
                have q4 : lv.length = u.den.n := (unhide AV).tail.head.ar.len
                show u.num.n ≤ 50 ∧ u.den.n ≤ 50
                omega
            · exact bt.below (unhide HB) (Nat.le_refl _) (by have := (unhide HB).size; omega)
          case measure => simp [intOf]; omega
        · obtain rfl : i = n := by omega
          have EL : Hid (IsL (wholes xs) (us.map Prod.snd)) := hide (by
            have h := unhide ED
            rw [List.take_of_length_le (by have := unhide HN; omega)] at h
            exact h)
          have PO : Hid (POwQ (w0.heap.size + 1) wr.heap.size wr w0.heap.size i i us) := hide ⟨unhide EM, unhide OO, unhide AA, hu⟩
          have hsz := lenPQ_le (unhide LS)
          have RO := hide ((unhide PO).ro (Nat.lt_succ_self _) (by omega) (by omega) (fun p hp => by have := (unhide LS) p hp; omega))
          go_wp2_with fail
          refine (cutI_some ⟨w0.heap.size, 0, none⟩ i i us _ (unhide PO).arg).mono ?_
          rintro e w3 ⟨m, rfl, hb3, hm3, hcut⟩
          have R3 := hide (pro_cut ((unhide RO).later hb3) hm3)
          have HB3 := hide (below_on (below_on (unhide HB0) (unhide HB)) hb3)
          have CT := hide hcut
          have s3 := hb3.size
          clear hb3 hcut
          go_wp2
          go_ret2
          exact ⟨_, _, _, us.take m, true, rfl, unhide HB3, ⟨(unhide R3).len, (unhide R3).sz, (unhide R3).ml, polyI_row (unhide R3).row sw s3⟩, .inl ⟨rfl, rfl, us.map Prod.snd, m, unhide EL, unhide CT, by rw [List.map_take]⟩⟩
    · rw [hb] at CC
      have hp : pO xs = false := by unfold pO; rw [hb]; simp
      rw [hp]
      clear hb hp
      go_enter Try.func73, Try.ntmps73
      go_wp2_with fail
      refine (unhide CC _ (unhide HA)).mono ?_
      rintro e w0 ⟨rfl, hb0⟩
      have HB0 := hide hb0
      clear hb0 CC
      go_wp2
      go_ret2
      exact ⟨none, 0, 0, [], false, rfl, unhide HB0, PRo.none _ _ _, .inr ⟨rfl, rfl, rfl⟩⟩
  · have b7 : decide ((7 : Int) < (n : Int)) = true := by simp; omega
    have hp : pO xs = false := by unfold pO; rw [unhide HN]; simp; omega
    rw [hp]
    clear hp
    go_enter Try.func73, Try.ntmps73
    go_wp2
    go_ret2
    exact ⟨none, 0, 0, [], false, rfl, Below.refl _ _, PRo.none _ _ _, .inr ⟨rfl, rfl, rfl⟩⟩
end Go.Proofs.Ytfmjbpfnhgkhkaa
namespace Go.Proofs.Ytfmjbpfnhgkhkaa
open Go.RowKit
set_option linter.unusedVariables false
set_option maxRecDepth 100000
set_option linter.unusedSimpArgs false

/-- Good fractions by value. -/
def goods (ds : List QD) : List (Int × Int) := ds.map fun d => (nQ d, dQ d)
theorem goods_snoc {l : List (QV × QD)} {i : Nat} {y : QV × QD} (h : i < l.length) (hy : y = l[i]) : goods ((l.map Prod.snd).take (i + 1)) = goods ((l.map Prod.snd).take i) ++ [(nQ y.2, dQ y.2)] := by
  have e : (l.map Prod.snd)[i]? = some y.2 := by rw [List.getElem?_map, List.getElem?_eq_getElem h, ← hy]; rfl
  rw [List.take_add_one, e]
  unfold goods
  rw [List.map_append]
  rfl
set_option maxHeartbeats 4000000 in
theorem copyP (a : Option Addr) (n c : Nat) (l : List (QV × QD)) (w : World) (h : PArQ w a n c l) (hg : gP (l.map Prod.snd) = true) :
    Calls Try.prog 192 #[.slice a n c] w (OutP w (goods (l.map Prod.snd))) := by
  have HS := hide h
  have HN := hide h.len
  have HG := hide hg
  have n7 : n ≤ 7 := by have := (gP_mem hg).1; rw [List.length_map, h.len] at this; exact this
  clear h hg
  obtain ⟨i0, hi, hz0, hz1, hz2⟩ := info_parts Try.info40
  go_enter Try.func192, Try.ntmps192
  go_wp2_with (at_make; refine wpList_make_full _ rfl _ _ 71 rfl w.heap.size 40 i0 (.agg #[.bool false, .slice none 0 0, .bool false, .slice none 0 0]) 4 Try.underlying71 hi hz0 hz1 .i64 .i64 _ _ n rfl rfl (by omega) (by omega) ?c1 ?c2 ?c3 ?_)
  case c1 => rw [hz2]; omega
  case c2 => unfold maxLen; omega
  case c3 => exact Nat.le_refl _
  intro w1 hown hgrow
  have hb0 : Below w.heap.size w w1 := (Below.refl _ _).grown hgrow (Nat.le_refl _) (fun k e => by cases e)
  have P0 : Hid (∃ M, w1.ownsRow w.heap.size 40 4 (.slice (some ⟨w.heap.size, 0, none⟩) n n) n M) := hide ⟨_, hown⟩
  have z0 : w.heap.size < w1.heap.size := by
    rcases hown.2 with ⟨h', _⟩ | ⟨g', cap, cur, hv, _, hg, _⟩
    · simp at h'
    · simp only [Value.slice.injEq, Option.some.injEq, Addr.mk.injEq, and_true, true_and] at hv
      have := (Array.getElem?_eq_some_iff.1 hg).1
      omega
  clear hown hgrow hi hz0 hz1 hz2
  have HB1 := hide hb0
  clear hb0
  go_wp2
  go_loopw [11] (fun iv wr => ∃ (i : Nat) (us : List (QV × QD)), i ≤ n ∧ iv = .int .i64 i ∧ us.length = i ∧ w.heap.size < wr.heap.size ∧ Hid (IsL (goods ((l.map Prod.snd).take i)) (us.map Prod.snd)) ∧ Hid (∃ M, wr.ownsRow w.heap.size 40 4 (.slice (some ⟨w.heap.size, 0, none⟩) n n) n M ∧ ∀ i (h : i < us.length), M[i * 4]? = some (.bool us[i].1.num.g) ∧ M[i * 4 + 1]? = some (.slice us[i].1.num.a us[i].1.num.n us[i].1.num.c) ∧ M[i * 4 + 2]? = some (.bool us[i].1.den.g) ∧ M[i * 4 + 3]? = some (.slice us[i].1.den.a us[i].1.den.n us[i].1.den.c)) ∧ Hid (AllOwn (w.heap.size + 1) wr.heap.size wr (zipPQ us)) ∧ Hid (∀ p ∈ us, AllAr wr [(p.1.num, p.2.num), (p.1.den, p.2.den)]) ∧ Hid (∀ p ∈ us, p.1.num.n ≤ 50 ∧ p.1.den.n ≤ 50) ∧ Hid (Below w.heap.size w wr)) (fun iv _ => n - (intOf iv).toNat)
  case atStart =>
    obtain ⟨M, hM⟩ := unhide P0
    exact ⟨0, [], Nat.zero_le _, rfl, rfl, z0, hide trivial, hide ⟨M, hM, fun i hi => absurd hi (by simp)⟩, hide (AllOwn.nil _ _ _), hide (fun p hp => by cases hp), hide (fun p hp => by cases hp), HB1⟩
  case round =>
    clear P0 HB1 z0
    obtain ⟨i, us, hi, rfl, hu, z1, ED, EM, OO, AA, LS, HB⟩ := hrel
    by_cases hlt : i < n
    · have hlt' : (i : Int) < (n : Int) := by omega
      rcases (unhide HS).at_ with e | ⟨b, off, rfl, hb, hc⟩
      · exact absurd (unhide HN) (by rw [e]; simp; omega)
      have e0 := hc i (by rw [unhide HN]; exact hlt)
      obtain ⟨y, hy⟩ : ∃ y, y = l[i]'(by rw [unhide HN]; exact hlt) := ⟨_, rfl⟩
      rw [← hy] at e0
      have MY : Hid (y ∈ l) := hide (by rw [hy]; exact List.getElem_mem _)
      have TK := hide (goods_snoc (by rw [unhide HN]; exact hlt) hy)
      clear hy
      have E0 : wr.cell? ⟨b, off + i * 4, none⟩ = some (.bool y.1.num.g) := ((unhide HB).cell (p := ⟨b, off + i * 4, none⟩) hb).trans (e0.1)
      have E1 : wr.cell? ⟨b, off + i * 4 + 1, none⟩ = some (.slice y.1.num.a y.1.num.n y.1.num.c) := ((unhide HB).cell (p := ⟨b, off + i * 4 + 1, none⟩) hb).trans (e0.2.1)
      have E2 : wr.cell? ⟨b, off + i * 4 + 2, none⟩ = some (.bool y.1.den.g) := ((unhide HB).cell (p := ⟨b, off + i * 4 + 2, none⟩) hb).trans (e0.2.2.1)
      have E3 : wr.cell? ⟨b, off + i * 4 + 3, none⟩ = some (.slice y.1.den.a y.1.den.n y.1.den.c) := ((unhide HB).cell (p := ⟨b, off + i * 4 + 3, none⟩) hb).trans (e0.2.2.2)
      clear e0 hc
      have JY := hide ((good_of_mem (unhide HS) (unhide HG) (unhide MY)).later (unhide HB))
      have al : Below wr.heap.size wr (wr.alloc (.cells #[.bool y.1.num.g, .slice y.1.num.a y.1.num.n y.1.num.c, .bool y.1.den.g, .slice y.1.den.a y.1.den.n y.1.den.c] 40)) := (Below.refl _ _).alloc (Nat.le_refl _) _
      have JA := hide ((unhide JY).later al)
      clear al
      go_wp2_with fail
      refine (copyQ y.1 (nQ y.2) (dQ y.2) _ (unhide JA).is ((unhide JY).kn.mono (by omega)) ((unhide JY).kd.mono (by omega))).mono ?_
      rintro e w2 ⟨u, lu, lv, rfl, hb2, o2, a2, m1, m2⟩
      have hbx := ba hb2
      have sz2 := hbx.size
      have sz3 := hb2.size
      have AU := hide (o2.wide (lo' := wr.heap.size) (by simp) (Nat.le_refl _))
      have AV := hide a2
      have NU := hide (And.intro m1 m2)
      replace HB := hide (below_on (unhide HB) hbx)
      replace EM := hide (row_later (unhide EM) hbx)
      replace OO := hide ((unhide OO).later hbx)
      replace AA := hide (fun p hp => ((unhide AA) p hp).later hbx)
      obtain ⟨M, hM, hL⟩ := unhide EM
      obtain ⟨x_0, old0⟩ : ∃ x, w2.cell? ⟨w.heap.size, i * 4, none⟩ = some x := ⟨_, (hM.cellAt _ (by omega)).trans (List.getElem?_eq_getElem (by have := hM.1; omega))⟩
      obtain ⟨x_1, old1⟩ : ∃ x, w2.cell? ⟨w.heap.size, i * 4 + 1, none⟩ = some x := ⟨_, (hM.cellAt _ (by omega)).trans (List.getElem?_eq_getElem (by have := hM.1; omega))⟩
      obtain ⟨x_2, old2⟩ : ∃ x, w2.cell? ⟨w.heap.size, i * 4 + 2, none⟩ = some x := ⟨_, (hM.cellAt _ (by omega)).trans (List.getElem?_eq_getElem (by have := hM.1; omega))⟩
      obtain ⟨x_3, old3⟩ : ∃ x, w2.cell? ⟨w.heap.size, i * 4 + 3, none⟩ = some x := ⟨_, (hM.cellAt _ (by omega)).trans (List.getElem?_eq_getElem (by have := hM.1; omega))⟩
      have fr : ∀ o, w2.frozen? ⟨w.heap.size, o, none⟩ = false := fun o => hM.frozenAt o
      have HM := hide hM
      have HL := hide hL
      clear hM hL hbx hb2 o2 a2 m1 m2 EM E0 E1 E2 E3 sz3
      go_wp2
      go_roundw
      case rel =>
        have hM := unhide HM
        have bt : But w.heap.size (w.heap.size + 1) w2 ((((w2.setCell ⟨w.heap.size, i * 4, none⟩ (.bool u.num.g)).setCell ⟨w.heap.size, i * 4 + 1, none⟩ (.slice u.num.a u.num.n u.num.c)).setCell ⟨w.heap.size, i * 4 + 2, none⟩ (.bool u.den.g)).setCell ⟨w.heap.size, i * 4 + 3, none⟩ (.slice u.den.a u.den.n u.den.c)) := but_rowQ
        refine ⟨i + 1, us ++ [(u, (⟨⟨decide (nQ y.2 < 0), lu⟩, ⟨decide (dQ y.2 < 0), lv⟩⟩ : QD))], by omega, by go_num, by simp [hu], Nat.lt_of_lt_of_le (by omega) bt.size, hide ?_, hide ⟨_, (World.ownsRow.stored (World.ownsRow.stored (World.ownsRow.stored (World.ownsRow.stored hM (i * 4) (.bool u.num.g)).1 (i * 4 + 1) (.slice u.num.a u.num.n u.num.c)).1 (i * 4 + 2) (.bool u.den.g)).1 (i * 4 + 3) (.slice u.den.a u.den.n u.den.c)).1, set_rowQ hM.1 hlt hu (unhide HL)⟩, hide ?_, hide ?_, hide ?_, hide ?_⟩
        · rw [unhide TK]
          exact isL_snoc (unhide ED) (unhide NU).1 (unhide NU).2
        · rw [zipPQ_append, zipPQ_one]
          exact (((unhide OO).join (unhide AU) (by omega) (by omega)).but bt (.inr (Nat.le_refl _))).wide (Nat.le_refl _) bt.size
        · intro p hp x hx
          have own := ((unhide OO).join (unhide AU) (by omega) (by omega))
          have hAr : AllAr w2 (zipPQ us ++ [(u.num, ⟨decide (nQ y.2 < 0), lu⟩), (u.den, ⟨decide (dQ y.2 < 0), lv⟩)]) := fun x hx => by
            rcases List.mem_append.1 hx with hx | hx
            · obtain ⟨p, hp, hx⟩ := List.mem_flatMap.1 hx
              exact (unhide AA) p hp x hx
            · exact (unhide AV) x hx
          refine ar_fin bt own hAr (Nat.le_refl _) x ?_
          rcases List.mem_append.1 hp with hp | hp
          · exact List.mem_append_left _ (zipPQ_mem hp hx)
          · obtain rfl := List.mem_singleton.1 hp
            exact List.mem_append_right _ hx
        · intro p hp
          rcases List.mem_append.1 hp with hp | hp
          · exact (unhide LS) p hp
          · obtain rfl := List.mem_singleton.1 hp
            have q1 := (unhide NU).1.len_le (unhide JY).kn
            have q2 := (unhide NU).2.len_le (unhide JY).kd
            have q3 : lu.length = u.num.n := (unhide AV).head.ar.len
            have q4 : lv.length = u.den.n := (unhide AV).tail.head.ar.len
            show u.num.n ≤ 50 ∧ u.den.n ≤ 50
            omega
        · exact bt.below (unhide HB) (Nat.le_refl _) (by have := (unhide HB).size; omega)
      case measure => simp [intOf]; omega
    · obtain rfl : i = n := by omega
      have EL : Hid (IsL (goods (l.map Prod.snd)) (us.map Prod.snd)) := hide (by
        have h := unhide ED
        rw [List.take_of_length_le (by simp; have := unhide HN; omega)] at h
        exact h)
      have PO : Hid (POwQ (w.heap.size + 1) wr.heap.size wr w.heap.size i i us) := hide ⟨unhide EM, unhide OO, unhide AA, hu⟩
      have hsz := lenPQ_le (unhide LS)
      go_wp2
      go_ret
      exact ⟨_, _, _, us, rfl, unhide HB, (unhide PO).ro (Nat.lt_succ_self _) (by omega) (by omega) (fun p hp => by have := (unhide LS) p hp; omega), (unhide PO).arg, unhide EL⟩
set_option maxHeartbeats 4000000 in
theorem copyPo (a : Option Addr) (n c : Nat) (l : List (QV × QD)) (w : World) (h : PArQ w a n c l) (hg : gP (l.map Prod.snd) = true) :
    Calls Try.prog 192 #[.slice a n c] w fun e w' => ∃ us : List (QV × QD), e = .returned (.slice (some ⟨w.heap.size, 0, none⟩) n n) ∧ Below w.heap.size w w' ∧ w.heap.size < w'.heap.size ∧ POwQ (w.heap.size + 1) w'.heap.size w' w.heap.size n n us ∧ IsL (goods (l.map Prod.snd)) (us.map Prod.snd) ∧ ∀ p ∈ us, p.1.num.n ≤ 50 ∧ p.1.den.n ≤ 50 := by
  have HS := hide h
  have HN := hide h.len
  have HG := hide hg
  have n7 : n ≤ 7 := by have := (gP_mem hg).1; rw [List.length_map, h.len] at this; exact this
  clear h hg
  obtain ⟨i0, hi, hz0, hz1, hz2⟩ := info_parts Try.info40
  go_enter Try.func192, Try.ntmps192
  go_wp2_with (at_make; refine wpList_make_full _ rfl _ _ 71 rfl w.heap.size 40 i0 (.agg #[.bool false, .slice none 0 0, .bool false, .slice none 0 0]) 4 Try.underlying71 hi hz0 hz1 .i64 .i64 _ _ n rfl rfl (by omega) (by omega) ?c1 ?c2 ?c3 ?_)
  case c1 => rw [hz2]; omega
  case c2 => unfold maxLen; omega
  case c3 => exact Nat.le_refl _
  intro w1 hown hgrow
  have hb0 : Below w.heap.size w w1 := (Below.refl _ _).grown hgrow (Nat.le_refl _) (fun k e => by cases e)
  have P0 : Hid (∃ M, w1.ownsRow w.heap.size 40 4 (.slice (some ⟨w.heap.size, 0, none⟩) n n) n M) := hide ⟨_, hown⟩
  have z0 : w.heap.size < w1.heap.size := by
    rcases hown.2 with ⟨h', _⟩ | ⟨g', cap, cur, hv, _, hg, _⟩
    · simp at h'
    · simp only [Value.slice.injEq, Option.some.injEq, Addr.mk.injEq, and_true, true_and] at hv
      have := (Array.getElem?_eq_some_iff.1 hg).1
      omega
  clear hown hgrow hi hz0 hz1 hz2
  have HB1 := hide hb0
  clear hb0
  go_wp2
  go_loopw [11] (fun iv wr => ∃ (i : Nat) (us : List (QV × QD)), i ≤ n ∧ iv = .int .i64 i ∧ us.length = i ∧ w.heap.size < wr.heap.size ∧ Hid (IsL (goods ((l.map Prod.snd).take i)) (us.map Prod.snd)) ∧ Hid (∃ M, wr.ownsRow w.heap.size 40 4 (.slice (some ⟨w.heap.size, 0, none⟩) n n) n M ∧ ∀ i (h : i < us.length), M[i * 4]? = some (.bool us[i].1.num.g) ∧ M[i * 4 + 1]? = some (.slice us[i].1.num.a us[i].1.num.n us[i].1.num.c) ∧ M[i * 4 + 2]? = some (.bool us[i].1.den.g) ∧ M[i * 4 + 3]? = some (.slice us[i].1.den.a us[i].1.den.n us[i].1.den.c)) ∧ Hid (AllOwn (w.heap.size + 1) wr.heap.size wr (zipPQ us)) ∧ Hid (∀ p ∈ us, AllAr wr [(p.1.num, p.2.num), (p.1.den, p.2.den)]) ∧ Hid (∀ p ∈ us, p.1.num.n ≤ 50 ∧ p.1.den.n ≤ 50) ∧ Hid (Below w.heap.size w wr)) (fun iv _ => n - (intOf iv).toNat)
  case atStart =>
    obtain ⟨M, hM⟩ := unhide P0
    exact ⟨0, [], Nat.zero_le _, rfl, rfl, z0, hide trivial, hide ⟨M, hM, fun i hi => absurd hi (by simp)⟩, hide (AllOwn.nil _ _ _), hide (fun p hp => by cases hp), hide (fun p hp => by cases hp), HB1⟩
  case round =>
    clear P0 HB1 z0
    obtain ⟨i, us, hi, rfl, hu, z1, ED, EM, OO, AA, LS, HB⟩ := hrel
    by_cases hlt : i < n
    · have hlt' : (i : Int) < (n : Int) := by omega
      rcases (unhide HS).at_ with e | ⟨b, off, rfl, hb, hc⟩
      · exact absurd (unhide HN) (by rw [e]; simp; omega)
      have e0 := hc i (by rw [unhide HN]; exact hlt)
      obtain ⟨y, hy⟩ : ∃ y, y = l[i]'(by rw [unhide HN]; exact hlt) := ⟨_, rfl⟩
      rw [← hy] at e0
      have MY : Hid (y ∈ l) := hide (by rw [hy]; exact List.getElem_mem _)
      have TK := hide (goods_snoc (by rw [unhide HN]; exact hlt) hy)
      clear hy
      have E0 : wr.cell? ⟨b, off + i * 4, none⟩ = some (.bool y.1.num.g) := ((unhide HB).cell (p := ⟨b, off + i * 4, none⟩) hb).trans (e0.1)
      have E1 : wr.cell? ⟨b, off + i * 4 + 1, none⟩ = some (.slice y.1.num.a y.1.num.n y.1.num.c) := ((unhide HB).cell (p := ⟨b, off + i * 4 + 1, none⟩) hb).trans (e0.2.1)
      have E2 : wr.cell? ⟨b, off + i * 4 + 2, none⟩ = some (.bool y.1.den.g) := ((unhide HB).cell (p := ⟨b, off + i * 4 + 2, none⟩) hb).trans (e0.2.2.1)
      have E3 : wr.cell? ⟨b, off + i * 4 + 3, none⟩ = some (.slice y.1.den.a y.1.den.n y.1.den.c) := ((unhide HB).cell (p := ⟨b, off + i * 4 + 3, none⟩) hb).trans (e0.2.2.2)
      clear e0 hc
      have JY := hide ((good_of_mem (unhide HS) (unhide HG) (unhide MY)).later (unhide HB))
      have al : Below wr.heap.size wr (wr.alloc (.cells #[.bool y.1.num.g, .slice y.1.num.a y.1.num.n y.1.num.c, .bool y.1.den.g, .slice y.1.den.a y.1.den.n y.1.den.c] 40)) := (Below.refl _ _).alloc (Nat.le_refl _) _
      have JA := hide ((unhide JY).later al)
      clear al
      go_wp2_with fail
      refine (copyQ y.1 (nQ y.2) (dQ y.2) _ (unhide JA).is ((unhide JY).kn.mono (by omega)) ((unhide JY).kd.mono (by omega))).mono ?_
      rintro e w2 ⟨u, lu, lv, rfl, hb2, o2, a2, m1, m2⟩
      have hbx := ba hb2
      have sz2 := hbx.size
      have sz3 := hb2.size
      have AU := hide (o2.wide (lo' := wr.heap.size) (by simp) (Nat.le_refl _))
      have AV := hide a2
      have NU := hide (And.intro m1 m2)
      replace HB := hide (below_on (unhide HB) hbx)
      replace EM := hide (row_later (unhide EM) hbx)
      replace OO := hide ((unhide OO).later hbx)
      replace AA := hide (fun p hp => ((unhide AA) p hp).later hbx)
      obtain ⟨M, hM, hL⟩ := unhide EM
      obtain ⟨x_0, old0⟩ : ∃ x, w2.cell? ⟨w.heap.size, i * 4, none⟩ = some x := ⟨_, (hM.cellAt _ (by omega)).trans (List.getElem?_eq_getElem (by have := hM.1; omega))⟩
      obtain ⟨x_1, old1⟩ : ∃ x, w2.cell? ⟨w.heap.size, i * 4 + 1, none⟩ = some x := ⟨_, (hM.cellAt _ (by omega)).trans (List.getElem?_eq_getElem (by have := hM.1; omega))⟩
      obtain ⟨x_2, old2⟩ : ∃ x, w2.cell? ⟨w.heap.size, i * 4 + 2, none⟩ = some x := ⟨_, (hM.cellAt _ (by omega)).trans (List.getElem?_eq_getElem (by have := hM.1; omega))⟩
      obtain ⟨x_3, old3⟩ : ∃ x, w2.cell? ⟨w.heap.size, i * 4 + 3, none⟩ = some x := ⟨_, (hM.cellAt _ (by omega)).trans (List.getElem?_eq_getElem (by have := hM.1; omega))⟩
      have fr : ∀ o, w2.frozen? ⟨w.heap.size, o, none⟩ = false := fun o => hM.frozenAt o
      have HM := hide hM
      have HL := hide hL
      clear hM hL hbx hb2 o2 a2 m1 m2 EM E0 E1 E2 E3 sz3
      go_wp2
      go_roundw
      case rel =>
        have hM := unhide HM
        have bt : But w.heap.size (w.heap.size + 1) w2 ((((w2.setCell ⟨w.heap.size, i * 4, none⟩ (.bool u.num.g)).setCell ⟨w.heap.size, i * 4 + 1, none⟩ (.slice u.num.a u.num.n u.num.c)).setCell ⟨w.heap.size, i * 4 + 2, none⟩ (.bool u.den.g)).setCell ⟨w.heap.size, i * 4 + 3, none⟩ (.slice u.den.a u.den.n u.den.c)) := but_rowQ
        refine ⟨i + 1, us ++ [(u, (⟨⟨decide (nQ y.2 < 0), lu⟩, ⟨decide (dQ y.2 < 0), lv⟩⟩ : QD))], by omega, by go_num, by simp [hu], Nat.lt_of_lt_of_le (by omega) bt.size, hide ?_, hide ⟨_, (World.ownsRow.stored (World.ownsRow.stored (World.ownsRow.stored (World.ownsRow.stored hM (i * 4) (.bool u.num.g)).1 (i * 4 + 1) (.slice u.num.a u.num.n u.num.c)).1 (i * 4 + 2) (.bool u.den.g)).1 (i * 4 + 3) (.slice u.den.a u.den.n u.den.c)).1, set_rowQ hM.1 hlt hu (unhide HL)⟩, hide ?_, hide ?_, hide ?_, hide ?_⟩
        · rw [unhide TK]
          exact isL_snoc (unhide ED) (unhide NU).1 (unhide NU).2
        · rw [zipPQ_append, zipPQ_one]
          exact (((unhide OO).join (unhide AU) (by omega) (by omega)).but bt (.inr (Nat.le_refl _))).wide (Nat.le_refl _) bt.size
        · intro p hp x hx
          have own := ((unhide OO).join (unhide AU) (by omega) (by omega))
          have hAr : AllAr w2 (zipPQ us ++ [(u.num, ⟨decide (nQ y.2 < 0), lu⟩), (u.den, ⟨decide (dQ y.2 < 0), lv⟩)]) := fun x hx => by
            rcases List.mem_append.1 hx with hx | hx
            · obtain ⟨p, hp, hx⟩ := List.mem_flatMap.1 hx
              exact (unhide AA) p hp x hx
            · exact (unhide AV) x hx
          refine ar_fin bt own hAr (Nat.le_refl _) x ?_
          rcases List.mem_append.1 hp with hp | hp
          · exact List.mem_append_left _ (zipPQ_mem hp hx)
          · obtain rfl := List.mem_singleton.1 hp
            exact List.mem_append_right _ hx
        · intro p hp
          rcases List.mem_append.1 hp with hp | hp
          · exact (unhide LS) p hp
          · obtain rfl := List.mem_singleton.1 hp
            have q1 := (unhide NU).1.len_le (unhide JY).kn
            have q2 := (unhide NU).2.len_le (unhide JY).kd
            have q3 : lu.length = u.num.n := (unhide AV).head.ar.len
            have q4 : lv.length = u.den.n := (unhide AV).tail.head.ar.len
            show u.num.n ≤ 50 ∧ u.den.n ≤ 50
            omega
        · exact bt.below (unhide HB) (Nat.le_refl _) (by have := (unhide HB).size; omega)
      case measure => simp [intOf]; omega
    · obtain rfl : i = n := by omega
      have EL : Hid (IsL (goods (l.map Prod.snd)) (us.map Prod.snd)) := hide (by
        have h := unhide ED
        rw [List.take_of_length_le (by simp; have := unhide HN; omega)] at h
        exact h)
      have PO : Hid (POwQ (w.heap.size + 1) wr.heap.size wr w.heap.size i i us) := hide ⟨unhide EM, unhide OO, unhide AA, hu⟩
      have hsz := lenPQ_le (unhide LS)
      go_wp2
      go_ret
      exact ⟨us, rfl, unhide HB, z1, unhide PO, unhide EL, unhide LS⟩
end Go.Proofs.Ytfmjbpfnhgkhkaa
namespace Go.Proofs.Ytfmjbpfnhgkhkaa
open Go.RowKit
set_option linter.unusedVariables false
set_option maxRecDepth 100000
set_option linter.unusedSimpArgs false

/-- A coefficient by value, 0 beyond the end. -/
def cf (ps : List (Int × Int)) (k : Nat) : Int × Int := (ps[k]?).getD (0, 1)
theorem cf_in {l : List (QV × QD)} {k : Nat} {y : QV × QD} (h : k < l.length) (hy : y = l[k]) : cf (goods (l.map Prod.snd)) k = (nQ y.2, dQ y.2) := by
  unfold cf goods
  rw [List.getElem?_map, List.getElem?_map, List.getElem?_eq_getElem h, ← hy]
  rfl
theorem cf_out {l : List (QV × QD)} {k : Nat} (h : ¬ k < l.length) : cf (goods (l.map Prod.snd)) k = (0, 1) := by
  unfold cf goods
  rw [List.getElem?_map, List.getElem?_map, List.getElem?_eq_none (by omega)]
  rfl
set_option maxHeartbeats 2000000 in
theorem coefS (a : Option Addr) (n c k : Nat) (l : List (QV × QD)) (w : World) (h : PArQ w a n c l) (hg : gP (l.map Prod.snd) = true) (hk : k ≤ 1048576) :
    Calls Try.prog 191 #[.slice a n c, .int .i64 k] w fun e w' => ∃ u : QV, e = .returned (.agg #[.bool u.num.g, .slice u.num.a u.num.n u.num.c, .bool u.den.g, .slice u.den.a u.den.n u.den.c]) ∧ Below w.heap.size w w' ∧ IsQ w' u (cf (goods (l.map Prod.snd)) k).1 (cf (goods (l.map Prod.snd)) k).2 := by
  have HS := hide h
  have HN := hide h.len
  have HG := hide hg
  clear h hg
  have B0 := hide (show Below w.heap.size w (w.alloc (.cells #[.bool false, .slice none 0 0, .bool false, .slice none 0 0] 40)) from (Below.refl _ _).alloc (Nat.le_refl _) _)
  by_cases hlt : k < n
  · have hlt' : (k : Int) < (n : Int) := by omega
    rcases (unhide HS).at_ with e | ⟨b, off, rfl, hb, hc⟩
    · exact absurd (unhide HN) (by rw [e]; simp; omega)
    have e0 := hc k (by rw [unhide HN]; exact hlt)
    obtain ⟨y, hy⟩ : ∃ y, y = l[k]'(by rw [unhide HN]; exact hlt) := ⟨_, rfl⟩
    rw [← hy] at e0
    have MY : Hid (y ∈ l) := hide (by rw [hy]; exact List.getElem_mem _)
    have CF := hide (cf_in (by rw [unhide HN]; exact hlt) hy)
    clear hy
    have E0 : (w.alloc (.cells #[.bool false, .slice none 0 0, .bool false, .slice none 0 0] 40)).cell? ⟨b, off + k * 4, none⟩ = some (.bool y.1.num.g) := ca_other (e0.1)
    have E1 : (w.alloc (.cells #[.bool false, .slice none 0 0, .bool false, .slice none 0 0] 40)).cell? ⟨b, off + k * 4 + 1, none⟩ = some (.slice y.1.num.a y.1.num.n y.1.num.c) := ca_other (e0.2.1)
    have E2 : (w.alloc (.cells #[.bool false, .slice none 0 0, .bool false, .slice none 0 0] 40)).cell? ⟨b, off + k * 4 + 2, none⟩ = some (.bool y.1.den.g) := ca_other (e0.2.2.1)
    have E3 : (w.alloc (.cells #[.bool false, .slice none 0 0, .bool false, .slice none 0 0] 40)).cell? ⟨b, off + k * 4 + 3, none⟩ = some (.slice y.1.den.a y.1.den.n y.1.den.c) := ca_other (e0.2.2.2)
    clear e0 hc
    have JY := hide (good_of_mem (unhide HS) (unhide HG) (unhide MY))
    go_enter Try.func191, Try.ntmps191
    go_wp2
    refine bodyPost_ret (v := .agg #[.bool y.1.num.g, .slice y.1.num.a y.1.num.n y.1.num.c, .bool y.1.den.g, .slice y.1.den.a y.1.den.n y.1.den.c]) (by simp [results, Try.results191, go_sem]) rfl ?_
    exact ⟨y.1, rfl, (Below.refl _ _).alloc (Nat.le_refl _) _, by rw [unhide CF]; exact (unhide JY).is.later ((Below.refl _ _).alloc (Nat.le_refl _) _)⟩
  · have hlt' : ¬ ((k : Int) < (n : Int)) := by omega
    have CF := hide (cf_out (l := l) (k := k) (by rw [unhide HN]; exact hlt))
    go_enter Try.func191, Try.ntmps191
    go_wp2_with fail
    refine (wholeS 0 _ (by omega) (by omega)).mono ?_
    rintro e w1 ⟨u, lu, lv, rfl, hb, o1, a1, m1, m2⟩
    have r0 : w1.cell? ⟨w.heap.size, 0, none⟩ = some (.bool false) := cell_later hb (by simp [go_sem])
    have r1 : w1.cell? ⟨w.heap.size, 1, none⟩ = some (.slice none 0 0) := cell_later hb (by simp [go_sem])
    have r2 : w1.cell? ⟨w.heap.size, 2, none⟩ = some (.bool false) := cell_later hb (by simp [go_sem])
    have r3 : w1.cell? ⟨w.heap.size, 3, none⟩ = some (.slice none 0 0) := cell_later hb (by simp [go_sem])
    have f0 : ∀ o, w1.frozen? ⟨w.heap.size, o, none⟩ = false := fun o => frozen_later hb (by simp) (by simp [go_sem])
    have HB := hide (below_on (unhide B0) hb)
    have O1 := hide (o1.wide (lo' := w.heap.size + 1) (by simp) (Nat.le_refl _))
    have A1 := hide a1
    have N1 := hide (And.intro m1 m2)
    clear hb o1 a1 m1 m2
    go_wp2
    refine bodyPost_ret (v := .agg #[.bool u.num.g, .slice u.num.a u.num.n u.num.c, .bool u.den.g, .slice u.den.a u.den.n u.den.c]) (by simp [results, Try.results191, go_sem, r0, r1, r2, r3]) rfl ?_
    have bt := metQ_but (w5 := w1) (v := u) (G := w.heap.size)
    refine ⟨u, rfl, bt.below (unhide HB) (Nat.le_refl _) (unhide HB).size, ?_⟩
    rw [unhide CF]
    exact isQ_of (ar_fin bt (unhide O1) (unhide A1) (Nat.le_refl _)) (unhide N1).1 (unhide N1).2
end Go.Proofs.Ytfmjbpfnhgkhkaa
namespace Go.Proofs.Ytfmjbpfnhgkhkaa
open Go.RowKit
set_option linter.unusedVariables false
set_option maxRecDepth 100000
set_option linter.unusedSimpArgs false

def sumAt (ps qs : List (Int × Int)) (k : Nat) : Int × Int := (lowN ((cf ps k).1 * (cf qs k).2 + (cf qs k).1 * (cf ps k).2) ((cf ps k).2 * (cf qs k).2), lowD ((cf ps k).1 * (cf qs k).2 + (cf qs k).1 * (cf ps k).2) ((cf ps k).2 * (cf qs k).2))
def sums (ps qs : List (Int × Int)) (m : Nat) : List (Int × Int) := (List.range m).map (sumAt ps qs)
theorem sums_snoc (ps qs : List (Int × Int)) (k : Nat) : sums ps qs (k + 1) = sums ps qs k ++ [sumAt ps qs k] := by
  unfold sums; rw [List.range_succ, List.map_append]; rfl
theorem cf_good {w : World} {a : Option Addr} {n c : Nat} {l : List (QV × QD)} (h : PArQ w a n c l) (hg : gP (l.map Prod.snd) = true) (k : Nat) : 0 < (cf (goods (l.map Prod.snd)) k).2 ∧ Bd (cf (goods (l.map Prod.snd)) k).1 40 ∧ Bd (cf (goods (l.map Prod.snd)) k).2 40 := by
  by_cases hlt : k < l.length
  · rw [cf_in hlt rfl]
    have j := good_of_mem h hg (List.getElem_mem hlt)
    exact ⟨j.pos, j.kn, j.kd⟩
  · rw [cf_out hlt]
    exact ⟨by decide, (int_bd (by omega) (by omega)).mono (by omega), one_bd2' (by omega)⟩
theorem sum_ne {x y : Int} (h : 0 < x) (k : 0 < y) : x * y ≠ 0 := by have := Int.mul_pos h k; omega
/-- Sums, noughts at the end cut off. -/
def OutCu (w : World) (cs : List (Int × Int)) (e : Ending) (w' : World) : Prop := ∃ (a : Option Addr) (m c : Nat) (us : List (QV × QD)), e = .returned (.slice a m c) ∧ Below w.heap.size w w' ∧ IsL cs (us.map Prod.snd) ∧ CutAt (us.map Prod.snd) m ∧ PArQ w' a m c (us.take m)
set_option maxHeartbeats 8000000 in
theorem addS4_v (a : Option Addr) (n c : Nat) (l : List (QV × QD)) (a' : Option Addr) (n' c' : Nat) (l' : List (QV × QD)) (w : World) (h : PArQ w a n c l) (h' : PArQ w a' n' c' l') (hg : gP (l.map Prod.snd) = true) (hg' : gP (l'.map Prod.snd) = true) :
    Calls Try.prog 132 #[.slice a n c, .slice a' n' c'] w (OutCu w (sums (goods (l.map Prod.snd)) (goods (l'.map Prod.snd)) (max n n'))) := by
  obtain ⟨i0, hi, hz0, hz1, hz2⟩ := info_parts Try.info40
  have HS := hide h
  have HS' := hide h'
  have HG := hide hg
  have HG' := hide hg'
  have n7 : n ≤ 7 := by have := (gP_mem hg).1; rw [List.length_map, h.len] at this; exact this
  have n7' : n' ≤ 7 := by have := (gP_mem hg').1; rw [List.length_map, h'.len] at this; exact this
  have CG0 := hide (cf_good h hg)
  have CG0' := hide (cf_good h' hg')
  obtain ⟨m, hm⟩ : ∃ m, m = max n n' := ⟨_, rfl⟩
  rw [← hm]
  have hm1 : n ≤ m ∧ n' ≤ m ∧ m ≤ 7 ∧ (m = n ∨ m = n') := by omega
  clear h h' hg hg' hm
  go_enter Try.func132, Try.ntmps132
  go_wp2
  go_loopw [5, 6] (fun v iv wr => ∃ (k : Nat) (us : List (QV × QD)), k ≤ m ∧ iv = .int .i64 k ∧ us.length = k ∧ Hid (IsL (sums (goods (l.map Prod.snd)) (goods (l'.map Prod.snd)) k) (us.map Prod.snd)) ∧ Hid (wr.ownsRow w.heap.size 40 4 v k (flatC us)) ∧ Hid (Typ wr (zipPQ us)) ∧ Hid (AllAr wr (zipPQ us)) ∧ Hid (Below w.heap.size w wr)) (fun _ iv _ => m - (intOf iv).toNat)
  case atStart => exact ⟨0, [], Nat.zero_le _, rfl, rfl, hide trivial, hide ⟨rfl, .inl ⟨rfl, rfl⟩⟩, hide (fun p hp => by cases hp), hide (fun p hp => by cases hp), hide (Below.refl _ _)⟩
  case round =>
    obtain ⟨k, us, hk, rfl, hu, ED, OW, OO, AA, HB⟩ := hrel
    have CG := hide (unhide CG0 k)
    have CG' := hide (unhide CG0' k)
    by_cases hlt : k < n
    · have g1 : decide ((k : Int) < (n : Int)) = true := by simp; omega
      go_wp2_with fail
      refine (coefS a n c k l _ ((unhide HS).later (unhide HB)) (unhide HG) (by omega)).mono ?_
      rintro e w1 ⟨x1, rfl, hb1, q1⟩
      have Q1 := hide q1
      replace HB := hide (below_on (unhide HB) hb1)
      replace OW := hide (owns_later (unhide OW) hb1)
      replace OO := hide ((unhide OO).later hb1)
      replace AA := hide ((unhide AA).later hb1)
      have sz1 := hb1.size
      clear hb1 q1
      go_wp2_with fail
      refine (coefS a' n' c' k l' _ ((unhide HS').later (unhide HB)) (unhide HG') (by omega)).mono ?_
      rintro e w2 ⟨x2, rfl, hb1, q2⟩
      have Q2 := hide q2
      replace Q1 := hide ((unhide Q1).later hb1)
      replace HB := hide (below_on (unhide HB) hb1)
      replace OW := hide (owns_later (unhide OW) hb1)
      replace OO := hide ((unhide OO).later hb1)
      replace AA := hide ((unhide AA).later hb1)
      have sz2 := hb1.size
      clear hb1 q2
      go_wp2_with fail
      refine (addQS x1 x2 _ _ _ _ _ (unhide Q1) (unhide Q2) (sum_ne (unhide CG).1 (unhide CG').1) ((unhide CG).2.1.mono (by omega)) ((unhide CG).2.2.mono (by omega)) ((unhide CG').2.1.mono (by omega)) ((unhide CG').2.2.mono (by omega))).mono ?_
      rintro e w3 ⟨u, rfl, hbx, o1, o2⟩
      have ou := ow_two' (N := (sumAt (goods (l.map Prod.snd)) (goods (l'.map Prod.snd)) k).1) (D := (sumAt (goods (l.map Prod.snd)) (goods (l'.map Prod.snd)) k).2) o1 o2
      obtain ⟨lu, lv, tu, au, m1, m2⟩ := ou
      have al : Below w3.heap.size w3 (w3.alloc (.cells #[.bool u.num.g, .slice u.num.a u.num.n u.num.c, .bool u.den.g, .slice u.den.a u.den.n u.den.c] 40)) := (Below.refl _ _).alloc (Nat.le_refl _) _
      have HB2 := hide (below_on (unhide HB) hbx)
      have HB3 := hide (below_on (unhide HB2) al)
      have OW2 := hide (owns_later (owns_later (unhide OW) hbx) al)
      have OO2 := hide ((((unhide OO).later hbx).append tu).later al)
      have AA2 := hide ((((unhide AA).later hbx).append au).later al)
      have NU := hide (And.intro m1 m2)
      have zv : w.heap.size ≤ w3.heap.size := (unhide HB2).size
      clear hbx o1 o2 tu au m1 m2 al OW OO AA HB Q1 Q2
      go_wp2_with (at_builtin; refine wpList_append_lies _ rfl (.tmp 19) (.tmp 27) 71 rfl w.heap.size 40 i0 (.agg #[.bool false, .slice none 0 0, .bool false, .slice none 0 0]) 4 64 Try.underlying71 hi hz0 hz1 hz2 rfl (by decide) _ k (flatC us) rfl (unhide OW2) ⟨w3.heap.size, 0, none⟩ 1 1 [.bool u.num.g, .slice u.num.a u.num.n u.num.c, .bool u.den.g, .slice u.den.a u.den.n u.den.c] rfl rfl (World.news_of_block (cs := #[.bool u.num.g, .slice u.num.a u.num.n u.num.c, .bool u.den.g, .slice u.den.a u.den.n u.den.c]) (t := 40) (fr := (0, 0)) (by show (w3.heap.push _)[w3.heap.size]? = _; simp)) (by intro u' hu'; simp at hu'; rcases hu' with rfl | rfl | rfl | rfl <;> rfl) (by omega) (by unfold maxLen; omega) (by omega) (by simp; omega) _ rfl ?_)
      intro g cap w4 hown hgrow hor hlt3
      have OW3 : Hid (w4.ownsRow w.heap.size 40 4 (.slice (some ⟨g, 0, none⟩) (k + 1) cap) (k + 1) (flatC (us ++ [(u, (⟨⟨decide ((sumAt (goods (l.map Prod.snd)) (goods (l'.map Prod.snd)) k).1 < 0), lu⟩, ⟨decide ((sumAt (goods (l.map Prod.snd)) (goods (l'.map Prod.snd)) k).2 < 0), lv⟩⟩ : QD))]))) := hide (by rw [flatC_append]; exact hown)
      have OO3 := hide ((unhide OO2).grown hgrow (unhide OW2))
      have AA3 : Hid (AllAr w4 (zipPQ (us ++ [(u, (⟨⟨decide ((sumAt (goods (l.map Prod.snd)) (goods (l'.map Prod.snd)) k).1 < 0), lu⟩, ⟨decide ((sumAt (goods (l.map Prod.snd)) (goods (l'.map Prod.snd)) k).2 < 0), lv⟩⟩ : QD))]))) := hide (by rw [zipPQ_append, zipPQ_one]; exact Typ.ar (unhide OO3) (unhide AA2))
      have OO4 : Hid (Typ w4 (zipPQ (us ++ [(u, (⟨⟨decide ((sumAt (goods (l.map Prod.snd)) (goods (l'.map Prod.snd)) k).1 < 0), lu⟩, ⟨decide ((sumAt (goods (l.map Prod.snd)) (goods (l'.map Prod.snd)) k).2 < 0), lv⟩⟩ : QD))]))) := hide (by rw [zipPQ_append, zipPQ_one]; exact unhide OO3)
      have HB4 := hide ((unhide HB3).grown hgrow (unhide HB3).size (owns_base (unhide OW2)))
      have ED3 : Hid (IsL (sums (goods (l.map Prod.snd)) (goods (l'.map Prod.snd)) (k + 1)) ((us ++ [(u, (⟨⟨decide ((sumAt (goods (l.map Prod.snd)) (goods (l'.map Prod.snd)) k).1 < 0), lu⟩, ⟨decide ((sumAt (goods (l.map Prod.snd)) (goods (l'.map Prod.snd)) k).2 < 0), lv⟩⟩ : QD))]).map Prod.snd)) := hide (by rw [sums_snoc]; exact isL_snoc (unhide ED) (unhide NU).1 (unhide NU).2)
      clear hown hgrow hor hlt3 OW2 OO2 AA2 HB2 HB3 OO3
      go_wp2
      go_roundw
      case rel => exact ⟨k + 1, us ++ [(u, (⟨⟨decide ((sumAt (goods (l.map Prod.snd)) (goods (l'.map Prod.snd)) k).1 < 0), lu⟩, ⟨decide ((sumAt (goods (l.map Prod.snd)) (goods (l'.map Prod.snd)) k).2 < 0), lv⟩⟩ : QD))], by omega, by go_num, by simp [hu], ED3, OW3, OO4, AA3, HB4⟩
      case measure => simp [intOf]; omega
    · have g1 : decide ((k : Int) < (n : Int)) = false := by simp; omega
      by_cases hlt' : k < n'
      · have g2 : decide ((k : Int) < (n' : Int)) = true := by simp; omega
        go_wp2_with fail
        refine (coefS a n c k l _ ((unhide HS).later (unhide HB)) (unhide HG) (by omega)).mono ?_
        rintro e w1 ⟨x1, rfl, hb1, q1⟩
        have Q1 := hide q1
        replace HB := hide (below_on (unhide HB) hb1)
        replace OW := hide (owns_later (unhide OW) hb1)
        replace OO := hide ((unhide OO).later hb1)
        replace AA := hide ((unhide AA).later hb1)
        have sz1 := hb1.size
        clear hb1 q1
        go_wp2_with fail
        refine (coefS a' n' c' k l' _ ((unhide HS').later (unhide HB)) (unhide HG') (by omega)).mono ?_
        rintro e w2 ⟨x2, rfl, hb1, q2⟩
        have Q2 := hide q2
        replace Q1 := hide ((unhide Q1).later hb1)
        replace HB := hide (below_on (unhide HB) hb1)
        replace OW := hide (owns_later (unhide OW) hb1)
        replace OO := hide ((unhide OO).later hb1)
        replace AA := hide ((unhide AA).later hb1)
        have sz2 := hb1.size
        clear hb1 q2
        go_wp2_with fail
        refine (addQS x1 x2 _ _ _ _ _ (unhide Q1) (unhide Q2) (sum_ne (unhide CG).1 (unhide CG').1) ((unhide CG).2.1.mono (by omega)) ((unhide CG).2.2.mono (by omega)) ((unhide CG').2.1.mono (by omega)) ((unhide CG').2.2.mono (by omega))).mono ?_
        rintro e w3 ⟨u, rfl, hbx, o1, o2⟩
        have ou := ow_two' (N := (sumAt (goods (l.map Prod.snd)) (goods (l'.map Prod.snd)) k).1) (D := (sumAt (goods (l.map Prod.snd)) (goods (l'.map Prod.snd)) k).2) o1 o2
        obtain ⟨lu, lv, tu, au, m1, m2⟩ := ou
        have al : Below w3.heap.size w3 (w3.alloc (.cells #[.bool u.num.g, .slice u.num.a u.num.n u.num.c, .bool u.den.g, .slice u.den.a u.den.n u.den.c] 40)) := (Below.refl _ _).alloc (Nat.le_refl _) _
        have HB2 := hide (below_on (unhide HB) hbx)
        have HB3 := hide (below_on (unhide HB2) al)
        have OW2 := hide (owns_later (owns_later (unhide OW) hbx) al)
        have OO2 := hide ((((unhide OO).later hbx).append tu).later al)
        have AA2 := hide ((((unhide AA).later hbx).append au).later al)
        have NU := hide (And.intro m1 m2)
        have zv : w.heap.size ≤ w3.heap.size := (unhide HB2).size
        clear hbx o1 o2 tu au m1 m2 al OW OO AA HB Q1 Q2
        go_wp2_with (at_builtin; refine wpList_append_lies _ rfl (.tmp 19) (.tmp 27) 71 rfl w.heap.size 40 i0 (.agg #[.bool false, .slice none 0 0, .bool false, .slice none 0 0]) 4 64 Try.underlying71 hi hz0 hz1 hz2 rfl (by decide) _ k (flatC us) rfl (unhide OW2) ⟨w3.heap.size, 0, none⟩ 1 1 [.bool u.num.g, .slice u.num.a u.num.n u.num.c, .bool u.den.g, .slice u.den.a u.den.n u.den.c] rfl rfl (World.news_of_block (cs := #[.bool u.num.g, .slice u.num.a u.num.n u.num.c, .bool u.den.g, .slice u.den.a u.den.n u.den.c]) (t := 40) (fr := (0, 0)) (by show (w3.heap.push _)[w3.heap.size]? = _; simp)) (by intro u' hu'; simp at hu'; rcases hu' with rfl | rfl | rfl | rfl <;> rfl) (by omega) (by unfold maxLen; omega) (by omega) (by simp; omega) _ rfl ?_)
        intro g cap w4 hown hgrow hor hlt3
        have OW3 : Hid (w4.ownsRow w.heap.size 40 4 (.slice (some ⟨g, 0, none⟩) (k + 1) cap) (k + 1) (flatC (us ++ [(u, (⟨⟨decide ((sumAt (goods (l.map Prod.snd)) (goods (l'.map Prod.snd)) k).1 < 0), lu⟩, ⟨decide ((sumAt (goods (l.map Prod.snd)) (goods (l'.map Prod.snd)) k).2 < 0), lv⟩⟩ : QD))]))) := hide (by rw [flatC_append]; exact hown)
        have OO3 := hide ((unhide OO2).grown hgrow (unhide OW2))
        have AA3 : Hid (AllAr w4 (zipPQ (us ++ [(u, (⟨⟨decide ((sumAt (goods (l.map Prod.snd)) (goods (l'.map Prod.snd)) k).1 < 0), lu⟩, ⟨decide ((sumAt (goods (l.map Prod.snd)) (goods (l'.map Prod.snd)) k).2 < 0), lv⟩⟩ : QD))]))) := hide (by rw [zipPQ_append, zipPQ_one]; exact Typ.ar (unhide OO3) (unhide AA2))
        have OO4 : Hid (Typ w4 (zipPQ (us ++ [(u, (⟨⟨decide ((sumAt (goods (l.map Prod.snd)) (goods (l'.map Prod.snd)) k).1 < 0), lu⟩, ⟨decide ((sumAt (goods (l.map Prod.snd)) (goods (l'.map Prod.snd)) k).2 < 0), lv⟩⟩ : QD))]))) := hide (by rw [zipPQ_append, zipPQ_one]; exact unhide OO3)
        have HB4 := hide ((unhide HB3).grown hgrow (unhide HB3).size (owns_base (unhide OW2)))
        have ED3 : Hid (IsL (sums (goods (l.map Prod.snd)) (goods (l'.map Prod.snd)) (k + 1)) ((us ++ [(u, (⟨⟨decide ((sumAt (goods (l.map Prod.snd)) (goods (l'.map Prod.snd)) k).1 < 0), lu⟩, ⟨decide ((sumAt (goods (l.map Prod.snd)) (goods (l'.map Prod.snd)) k).2 < 0), lv⟩⟩ : QD))]).map Prod.snd)) := hide (by rw [sums_snoc]; exact isL_snoc (unhide ED) (unhide NU).1 (unhide NU).2)
        clear hown hgrow hor hlt3 OW2 OO2 AA2 HB2 HB3 OO3
        go_wp2
        go_roundw
        case rel => exact ⟨k + 1, us ++ [(u, (⟨⟨decide ((sumAt (goods (l.map Prod.snd)) (goods (l'.map Prod.snd)) k).1 < 0), lu⟩, ⟨decide ((sumAt (goods (l.map Prod.snd)) (goods (l'.map Prod.snd)) k).2 < 0), lv⟩⟩ : QD))], by omega, by go_num, by simp [hu], ED3, OW3, OO4, AA3, HB4⟩
        case measure => simp [intOf]; omega
      · have g2 : decide ((k : Int) < (n' : Int)) = false := by simp; omega
        obtain rfl : k = m := by omega
        obtain ⟨a3, c3, rfl, h3, p3⟩ := owns_arg (unhide OW) hu (unhide AA)
        have P3 := hide p3
        have H3 := hide h3
        clear p3 h3 OW OO AA
        go_wp2_with fail
        refine (cutS_v a3 k c3 us _ (unhide P3) (by omega) (unhide H3)).mono ?_
        rintro e w4 ⟨a4, m4, c4, rfl, hb4, ca4, p4⟩
        have P4 := hide p4
        have C4 := hide ca4
        replace HB := hide (below_on (unhide HB) hb4)
        clear hb4 ca4 p4
        go_wp2
        go_ret
        exact ⟨_, m4, c4, us, rfl, unhide HB, unhide ED, unhide C4, unhide P4⟩
theorem IsL.take : ∀ {cs : List (Int × Int)} {ds : List QD} (m : Nat), IsL cs ds → IsL (cs.take m) (ds.take m)
  | _, _, 0, _ => by simp [IsL]
  | [], [], m + 1, _ => by simp [IsL]
  | c :: cs, d :: ds, m + 1, h => ⟨h.1, IsL.take m h.2⟩
/-- What a sum answers: P says whether both are good. -/
def AnsS4 (P : Bool) (cs : List (Int × Int)) (ds : List QD) (ok : Bool) : Prop := (P = true ∧ ∃ es m, IsL cs es ∧ CutAt es m ∧ AnsP true (cs.take m) ds ok) ∨ (P = false ∧ ok = false ∧ ds = [])
theorem AnsS4.same {P : Bool} {cs : List (Int × Int)} {d d' : List QD} {ok ok' : Bool} (h : AnsS4 P cs d ok) (k : AnsS4 P cs d' ok') : d = d' ∧ ok = ok' := by
  rcases h with ⟨p, es, m, a, b, c⟩ | ⟨p, o, e⟩ <;> rcases k with ⟨p', es', m', a', b', c'⟩ | ⟨p', o', e'⟩
  · have e1 := a.same a'
    subst e1
    have e2 := b.same b'
    subst e2
    exact c.same c'
  · rw [p] at p'; cases p'
  · rw [p] at p'; cases p'
  · exact ⟨by rw [e, e'], by rw [o, o']⟩
theorem bothS (a : Option Addr) (n c : Nat) (l : List (QV × QD)) (a' : Option Addr) (n' c' : Nat) (l' : List (QV × QD)) (w : World) (h : PArQ w a n c l) (h' : PArQ w a' n' c' l') :
    Calls Try.prog 130 #[.slice a n c, .slice a' n' c'] w fun e w' => e = .returned (.bool (gP (l.map Prod.snd) && gP (l'.map Prod.snd))) ∧ Below w.heap.size w w' := by
  have G1 := hide (fun w1 (k : PArQ w1 a n c l) => GoodPS a n c l w1 k)
  have G2 := hide (fun w1 (k : PArQ w1 a' n' c' l') => GoodPS a' n' c' l' w1 k)
  have HS := hide h
  have HS' := hide h'
  clear h h'
  cases hg : gP (l.map Prod.snd)
  · rw [hg] at G1
    go_enter Try.func130, Try.ntmps130
    go_wp2_with fail
    refine (unhide G1 _ (unhide HS)).mono ?_
    rintro e w1 ⟨rfl, hb⟩
    have HB := hide hb
    clear hb G1
    go_wp2
    go_ret
    exact ⟨rfl, unhide HB⟩
  · rw [hg] at G1
    go_enter Try.func130, Try.ntmps130
    go_wp2_with fail
    refine (unhide G1 _ (unhide HS)).mono ?_
    rintro e w1 ⟨rfl, hb⟩
    have HB := hide hb
    clear hb G1
    go_wp2_with fail
    refine (unhide G2 _ ((unhide HS').later (unhide HB))).mono ?_
    rintro e w2 ⟨rfl, hb⟩
    replace HB := hide (below_on (unhide HB) hb)
    clear hb G2
    go_wp2
    go_ret
    exact ⟨rfl, unhide HB⟩
set_option maxHeartbeats 2000000 in
theorem AddPS4 (a : Option Addr) (n c : Nat) (l : List (QV × QD)) (a' : Option Addr) (n' c' : Nat) (l' : List (QV × QD)) (w : World) (h : PArQ w a n c l) (h' : PArQ w a' n' c' l') :
    Calls Try.prog 60 #[.slice a n c, .slice a' n' c'] w (RetPr w (AnsS4 (gP (l.map Prod.snd) && gP (l'.map Prod.snd)) (sums (goods (l.map Prod.snd)) (goods (l'.map Prod.snd)) (max n n')))) := by
  have GS := hide (fun w1 (k : PArQ w1 a n c l) (k' : PArQ w1 a' n' c' l') => bothS a n c l a' n' c' l' w1 k k')
  have HS := hide h
  have HS' := hide h'
  clear h h'
  cases hg : (gP (l.map Prod.snd) && gP (l'.map Prod.snd))
  · rw [hg] at GS
    clear hg
    go_enter Try.func60, Try.ntmps60
    go_wp2_with fail
    refine (unhide GS _ (unhide HS) (unhide HS')).mono ?_
    rintro e w1 ⟨rfl, hb⟩
    have HB := hide hb
    clear hb GS
    go_wp2
    go_ret2
    exact ⟨none, 0, 0, [], false, rfl, unhide HB, ⟨.inl rfl, fun p hp => (by cases hp)⟩, rfl, .inr ⟨rfl, rfl, rfl⟩⟩
  · rw [hg] at GS
    have HG := hide (Bool.and_eq_true_iff.1 hg)
    clear hg
    go_enter Try.func60, Try.ntmps60
    go_wp2_with fail
    refine (unhide GS _ (unhide HS) (unhide HS')).mono ?_
    rintro e w1 ⟨rfl, hb⟩
    have HB := hide hb
    clear hb GS
    go_wp2_with fail
    refine (addS4_v a n c l a' n' c' l' _ ((unhide HS).later (unhide HB)) ((unhide HS').later (unhide HB)) (unhide HG).1 (unhide HG).2).mono ?_
    rintro e w2 ⟨a2, m2, c2, us, rfl, hb, i2, k2, p2⟩
    replace HB := hide (below_on (unhide HB) hb)
    have P2 := hide p2
    have I2 := hide (And.intro i2 k2)
    clear hb p2 i2 k2
    go_wp2_with fail
    refine (fitsPS a2 m2 c2 (us.take m2) _ _ (unhide P2) (by rw [List.map_take]; exact (unhide I2).1.take m2)).mono ?_
    rintro e w3 ⟨a3, n3, c3, l3, ok, rfl, hb, p3, h3, u3⟩
    replace HB := hide (below_on (unhide HB) hb)
    have P3 := hide p3
    have H3 := hide h3
    have U3 := hide u3
    clear hb p3 h3 u3
    go_wp2
    go_ret2
    exact ⟨_, _, _, l3, ok, rfl, unhide HB, unhide P3, unhide H3, .inl ⟨rfl, us.map Prod.snd, m2, (unhide I2).1, (unhide I2).2, unhide U3⟩⟩
end Go.Proofs.Ytfmjbpfnhgkhkaa
namespace Go.Proofs.Ytfmjbpfnhgkhkaa
open Go.RowKit
set_option linter.unusedVariables false
set_option maxRecDepth 100000
set_option linter.unusedSimpArgs false

theorem rep_rowQ {M : List Value} {us : List (QV × QD)} {n k : Nat} {u : QV} {d : QD} (hM : M.length = n * 4) (hn : us.length = n) (hk : k < n) (h : ∀ i (h : i < us.length), M[i * 4]? = some (.bool us[i].1.num.g) ∧ M[i * 4 + 1]? = some (.slice us[i].1.num.a us[i].1.num.n us[i].1.num.c) ∧ M[i * 4 + 2]? = some (.bool us[i].1.den.g) ∧ M[i * 4 + 3]? = some (.slice us[i].1.den.a us[i].1.den.n us[i].1.den.c)) :
    ∀ i (h : i < (us.set k (u, d)).length), ((((M.set (k * 4) (.bool u.num.g)).set (k * 4 + 1) (.slice u.num.a u.num.n u.num.c)).set (k * 4 + 2) (.bool u.den.g)).set (k * 4 + 3) (.slice u.den.a u.den.n u.den.c))[i * 4]? = some (.bool (us.set k (u, d))[i].1.num.g) ∧ ((((M.set (k * 4) (.bool u.num.g)).set (k * 4 + 1) (.slice u.num.a u.num.n u.num.c)).set (k * 4 + 2) (.bool u.den.g)).set (k * 4 + 3) (.slice u.den.a u.den.n u.den.c))[i * 4 + 1]? = some (.slice (us.set k (u, d))[i].1.num.a (us.set k (u, d))[i].1.num.n (us.set k (u, d))[i].1.num.c) ∧ ((((M.set (k * 4) (.bool u.num.g)).set (k * 4 + 1) (.slice u.num.a u.num.n u.num.c)).set (k * 4 + 2) (.bool u.den.g)).set (k * 4 + 3) (.slice u.den.a u.den.n u.den.c))[i * 4 + 2]? = some (.bool (us.set k (u, d))[i].1.den.g) ∧ ((((M.set (k * 4) (.bool u.num.g)).set (k * 4 + 1) (.slice u.num.a u.num.n u.num.c)).set (k * 4 + 2) (.bool u.den.g)).set (k * 4 + 3) (.slice u.den.a u.den.n u.den.c))[i * 4 + 3]? = some (.slice (us.set k (u, d))[i].1.den.a (us.set k (u, d))[i].1.den.n (us.set k (u, d))[i].1.den.c) := by
  intro i hi
  have hi' : i < us.length := by simpa using hi
  by_cases e : i = k
  · subst e
    rw [List.getElem_set_self]
    refine ⟨?_, ?_, ?_, ?_⟩
    · simp only [List.getElem?_set, List.length_set]; rw [if_neg (by omega), if_neg (by omega), if_neg (by omega)]; rw [if_pos trivial, if_pos (by omega)]
    · simp only [List.getElem?_set, List.length_set]; rw [if_neg (by omega), if_neg (by omega)]; rw [if_pos trivial, if_pos (by omega)]
    · simp only [List.getElem?_set, List.length_set]; rw [if_neg (by omega)]; rw [if_pos trivial, if_pos (by omega)]
    · simp only [List.getElem?_set, List.length_set]; rw [if_pos trivial, if_pos (by omega)]
  · have h1 := h i hi'
    rw [List.getElem_set_ne (Ne.symm e)]
    simp only [List.getElem?_set]
    refine ⟨?_, ?_, ?_, ?_⟩
    · rw [if_neg (by omega), if_neg (by omega), if_neg (by omega), if_neg (by omega)]; exact h1.1
    · rw [if_neg (by omega), if_neg (by omega), if_neg (by omega), if_neg (by omega)]; exact h1.2.1
    · rw [if_neg (by omega), if_neg (by omega), if_neg (by omega), if_neg (by omega)]; exact h1.2.2.1
    · rw [if_neg (by omega), if_neg (by omega), if_neg (by omega), if_neg (by omega)]; exact h1.2.2.2
/-- Numbers in the midst are replaced by newer ones. -/
theorem AllOwn.repl {lo hi hi' : Nat} {w : World} {A R B U : List (BV × BD)} (h : AllOwn lo hi w (A ++ R ++ B)) (k : AllOwn hi hi' w U) (h1 : lo ≤ hi) (h2 : hi ≤ hi') : AllOwn lo hi' w (A ++ U ++ B) := by
  have hAp : (A ++ R).Pairwise Ap ∧ B.Pairwise Ap ∧ ∀ p ∈ A ++ R, ∀ q ∈ B, Ap p q := List.pairwise_append.1 h.ap
  have hA := (List.pairwise_append.1 hAp.1).1
  have oA : ∀ p ∈ A, OwB2 lo hi w p.1 p.2 := fun p hp => h.own p (List.mem_append_left _ (List.mem_append_left _ hp))
  have oB : ∀ p ∈ B, OwB2 lo hi w p.1 p.2 := fun p hp => h.own p (List.mem_append_right _ hp)
  refine ⟨fun p hp => ?_, List.pairwise_append.2 ⟨List.pairwise_append.2 ⟨hA, k.ap, fun p hp q hq => dis_parts (oA p hp).own (k.own q hq).own (.inl (Nat.le_refl _))⟩, hAp.2.1, fun p hp q hq => ?_⟩⟩
  · rcases List.mem_append.1 hp with hp | hp
    · rcases List.mem_append.1 hp with hp | hp
      · exact ⟨(oA p hp).sg, (oA p hp).own.wide (Nat.le_refl _) h2, (oA p hp).len⟩
      · exact ⟨(k.own p hp).sg, (k.own p hp).own.wide h1 (Nat.le_refl _), (k.own p hp).len⟩
    · exact ⟨(oB p hp).sg, (oB p hp).own.wide (Nat.le_refl _) h2, (oB p hp).len⟩
  · rcases List.mem_append.1 hp with hp | hp
    · exact hAp.2.2 p (List.mem_append_left _ hp) q hq
    · exact dis_parts (k.own p hp).own (oB q hq).own (.inr (Nat.le_refl _))
theorem zip_set {us : List (QV × QD)} {k : Nat} {u : QV × QD} (h : k < us.length) : zipPQ us = zipPQ (us.take k) ++ zipPQ [us[k]] ++ zipPQ (us.drop (k + 1)) ∧ zipPQ (us.set k u) = zipPQ (us.take k) ++ zipPQ [u] ++ zipPQ (us.drop (k + 1)) := by
  constructor
  · rw [← zipPQ_append, ← zipPQ_append]
    congr 1
    rw [List.append_assoc]
    show us = us.take k ++ (us[k] :: us.drop (k + 1))
    rw [← List.drop_eq_getElem_cons h, List.take_append_drop]
  · rw [← zipPQ_append, ← zipPQ_append]
    congr 1
    rw [List.set_eq_take_append_cons_drop, if_pos h, List.append_assoc]
    rfl
theorem IsL.set : ∀ {cs : List (Int × Int)} {ds : List QD} {c : Int × Int} {d : QD} (k : Nat), IsL cs ds → IsD c d → IsL (cs.set k c) (ds.set k d)
  | [], [], _, _, _, _, _ => by simp [IsL]
  | _ :: _, _ :: _, _, _, 0, h, hd => ⟨hd, h.2⟩
  | _ :: _, _ :: _, _, _, k + 1, h, hd => ⟨h.1, IsL.set k h.2 hd⟩
theorem IsL.get : ∀ {cs : List (Int × Int)} {ds : List QD} {c : Int × Int} {d : QD} (k : Nat), IsL cs ds → cs[k]? = some c → ds[k]? = some d → IsD c d
  | [], [], _, _, _, _, hc, _ => by simp at hc
  | _ :: _, _ :: _, _, _, 0, h, hc, hd => by
    simp only [List.getElem?_cons_zero, Option.some.injEq] at hc hd
    subst hc hd
    exact h.1
  | _ :: _, _ :: _, _, _, k + 1, h, hc, hd => IsL.get k h.2 (by simpa using hc) (by simpa using hd)
/-- The longer one's coefficients, the first i of them with the other's added. -/
def mixL (ps qs : List (Int × Int)) : Nat → List (Int × Int)
  | 0 => ps
  | i + 1 => (mixL ps qs i).set i (sumAt ps qs i)
theorem mixL_len (ps qs : List (Int × Int)) : ∀ i, (mixL ps qs i).length = ps.length
  | 0 => rfl
  | i + 1 => by show ((mixL ps qs i).set i _).length = _; rw [List.length_set]; exact mixL_len ps qs i
theorem mixL_get (ps qs : List (Int × Int)) (k : Nat) (hk : k < ps.length) : ∀ i, (mixL ps qs i)[k]? = if k < i then some (sumAt ps qs k) else ps[k]?
  | 0 => by rw [if_neg (by omega)]; rfl
  | i + 1 => by
    show ((mixL ps qs i).set i _)[k]? = _
    rw [List.getElem?_set, mixL_len]
    by_cases e : i = k
    · subst e
      rw [if_pos rfl, if_pos hk, if_pos (by omega)]
    · rw [if_neg e, mixL_get ps qs k hk i]
      by_cases h : k < i
      · rw [if_pos h, if_pos (by omega)]
      · rw [if_neg h, if_neg (by omega)]
theorem low_id {N D : Int} (h : Low N D) : lowN N D = N ∧ lowD N D = D := by
  have hp := h.pos
  exact (low_low (N := N) (D := D) (by omega)).same h (low_cross hp)
theorem mixL_sums {ps qs : List (Int × Int)} (hl : LowL ps) (hq : qs.length ≤ ps.length) : mixL ps qs qs.length = sums ps qs ps.length := by
  apply List.ext_getElem?
  intro k
  by_cases hk : k < ps.length
  · rw [mixL_get ps qs k hk]
    have e : (sums ps qs ps.length)[k]? = some (sumAt ps qs k) := by unfold sums; rw [List.getElem?_map, List.getElem?_range hk]; rfl
    rw [e]
    by_cases h : k < qs.length
    · rw [if_pos h]
    · rw [if_neg h]
      have c1 : cf qs k = (0, 1) := by unfold cf; rw [List.getElem?_eq_none (by omega)]; rfl
      have c2 : cf ps k = ps[k] := by unfold cf; rw [List.getElem?_eq_getElem hk]; rfl
      have hw := low_id (hl ps[k] (List.getElem_mem hk))
      rw [List.getElem?_eq_getElem hk]
      unfold sumAt
      rw [c1, c2]
      simp only [Int.mul_one, Int.zero_mul, Int.add_zero]
      rw [hw.1, hw.2]
  · rw [List.getElem?_eq_none (by rw [mixL_len]; omega), List.getElem?_eq_none (by unfold sums; simp; omega)]
theorem sumAt_comm (ps qs : List (Int × Int)) (k : Nat) : sumAt ps qs k = sumAt qs ps k := by
  unfold sumAt
  rw [Int.add_comm ((cf ps k).1 * (cf qs k).2), Int.mul_comm (cf ps k).2 (cf qs k).2]
theorem sums_comm (ps qs : List (Int × Int)) (m : Nat) : sums ps qs m = sums qs ps m := by
  unfold sums
  exact List.map_congr_left (fun k _ => sumAt_comm ps qs k)
end Go.Proofs.Ytfmjbpfnhgkhkaa
namespace Go.Proofs.Ytfmjbpfnhgkhkaa
open Go.RowKit
set_option linter.unusedVariables false
set_option maxRecDepth 100000
set_option linter.unusedSimpArgs false

theorem isQ_isD {w : World} {q : QV} {d : QD} {c : Int × Int} (h : AllAr w [(q.num, d.num), (q.den, d.den)]) (k : IsD c d) : IsQ w q c.1 c.2 := by
  obtain ⟨⟨g, xs⟩, ⟨g', us⟩⟩ := d
  obtain ⟨g1, n1, g2, n2⟩ := k
  simp only at g1 g2 n1 n2 h
  subst g1 g2
  exact isQ_of h n1 n2
theorem goods_low {w : World} {a : Option Addr} {n c : Nat} {l : List (QV × QD)} (h : PArQ w a n c l) (hg : gP (l.map Prod.snd) = true) : LowL (goods (l.map Prod.snd)) := fun x hx => by
  unfold goods at hx
  obtain ⟨d, hd, rfl⟩ := List.mem_map.1 hx
  obtain ⟨y, hy, rfl⟩ := List.mem_map.1 hd
  exact ⟨(good_of_mem h hg hy).pos, (good_of_mem h hg hy).low⟩
theorem sum_bd {a b c d : Int} (h1 : Bd a 40) (h2 : Bd b 40) (h3 : Bd c 40) (h4 : Bd d 40) : Bd (lowN (a * d + c * b) (b * d)) 81 ∧ Bd (lowD (a * d + c * b) (b * d)) 80 := ⟨lowN_bd (((h1.mul h4).add (h3.mul h2)).mono (by omega)), lowD_bd ((h2.mul h4).mono (by omega))⟩
theorem arg_cut {w : World} {a : Option Addr} {n c m : Nat} {l : List (QV × QD)} (h : PArQ w a n c l) (hm : m ≤ n) : PArQ w a m m (l.take m) := by
  refine ⟨?_, take_ar h.rd m, by rw [List.length_take, h.len]; omega, Nat.le_refl _, Nat.le_trans hm (Nat.le_trans h.cap h.top)⟩
  rcases h.at_ with e | ⟨b, off, e, hb, hc⟩
  · exact .inl (by rw [e]; simp)
  · refine .inr ⟨b, off, e, hb, fun i hi => ?_⟩
    rw [List.getElem_take]
    exact hc i (by rw [List.length_take] at hi; omega)
def OutPC (w : World) (cs : List (Int × Int)) (e : Ending) (w' : World) : Prop := ∃ (g m : Nat) (us : List (QV × QD)), e = .returned (.slice (some ⟨g, 0, none⟩) m m) ∧ Below w.heap.size w w' ∧ PRo w.heap.size w'.heap.size w' (some ⟨g, 0, none⟩) m m (us.take m) ∧ PArQ w' (some ⟨g, 0, none⟩) m m (us.take m) ∧ IsL cs (us.map Prod.snd) ∧ CutAt (us.map Prod.snd) m
set_option maxHeartbeats 8000000 in
theorem addI4_v (a : Option Addr) (n c : Nat) (l : List (QV × QD)) (a' : Option Addr) (n' c' : Nat) (l' : List (QV × QD)) (w : World) (h : PArQ w a n c l) (h' : PArQ w a' n' c' l') (hg : gP (l.map Prod.snd) = true) (hg' : gP (l'.map Prod.snd) = true) :
    Calls Try.prog 134 #[.slice a n c, .slice a' n' c'] w (OutPC w (sums (goods (l.map Prod.snd)) (goods (l'.map Prod.snd)) (max n n'))) := by
  have HS := hide h
  have HS' := hide h'
  have HG := hide hg
  have HG' := hide hg'
  have n7 : n ≤ 7 := by have := (gP_mem hg).1; rw [List.length_map, h.len] at this; exact this
  have n7' : n' ≤ 7 := by have := (gP_mem hg').1; rw [List.length_map, h'.len] at this; exact this
  clear h h' hg hg'
  by_cases hsw : n < n'
  · have hd : (n : Int) < (n' : Int) := by omega
    have em : max n n' = n' := by omega
    rw [em]
    clear em
    go_enter Try.func134, Try.ntmps134
    go_wp2_with fail
    refine (copyPo a' n' c' l' _ (unhide HS') (unhide HG')).mono ?_
    rintro e w0 ⟨us0, rfl, hb0, z0, po, il, ls⟩
    have HB0 := hide hb0
    have PO0 := hide po
    have IL0 := hide il
    have LS0 : Hid (∀ p ∈ us0, p.1.num.n ≤ 90 ∧ p.1.den.n ≤ 90) := hide (fun p hp => by have := ls p hp; omega)
    clear hb0 po il ls
    go_wp2
    go_loopw [19] (fun iv wr => ∃ (i : Nat) (us : List (QV × QD)), i ≤ n ∧ iv = .int .i64 i ∧ us.length = n' ∧ w.heap.size < wr.heap.size ∧ Hid (IsL (mixL (goods (l'.map Prod.snd)) (goods (l.map Prod.snd)) i) (us.map Prod.snd)) ∧ Hid (∃ M, wr.ownsRow w.heap.size 40 4 (.slice (some ⟨w.heap.size, 0, none⟩) n' n') n' M ∧ ∀ i (h : i < us.length), M[i * 4]? = some (.bool us[i].1.num.g) ∧ M[i * 4 + 1]? = some (.slice us[i].1.num.a us[i].1.num.n us[i].1.num.c) ∧ M[i * 4 + 2]? = some (.bool us[i].1.den.g) ∧ M[i * 4 + 3]? = some (.slice us[i].1.den.a us[i].1.den.n us[i].1.den.c)) ∧ Hid (AllOwn (w.heap.size + 1) wr.heap.size wr (zipPQ us)) ∧ Hid (∀ p ∈ us, AllAr wr [(p.1.num, p.2.num), (p.1.den, p.2.den)]) ∧ Hid (∀ p ∈ us, p.1.num.n ≤ 90 ∧ p.1.den.n ≤ 90) ∧ Hid (Below w.heap.size w wr)) (fun iv _ => n - (intOf iv).toNat)
    case atStart => exact ⟨0, us0, Nat.zero_le _, rfl, (unhide PO0).len, z0, IL0, hide (unhide PO0).row, hide (unhide PO0).own, hide (unhide PO0).ar, LS0, HB0⟩
    case round =>
      clear PO0 IL0 LS0 HB0 z0
      obtain ⟨i, us, hi, rfl, hu, z1, ED, EM, OO, AA, LS, HB⟩ := hrel
      by_cases hlt : i < n
      · have hlt' : (i : Int) < (n : Int) := by omega
        have hin : i < n' := by omega
        have hin' : (i : Int) < (n' : Int) := by omega
        rcases (unhide HS).at_ with e | ⟨b, off, ea, hb, hc⟩
        · exact absurd (unhide HS).len (by rw [e]; simp; omega)
        subst ea
        have e0 := hc i (by rw [(unhide HS).len]; exact hlt)
        obtain ⟨y, hy⟩ : ∃ y, y = l[i]'(by rw [(unhide HS).len]; exact hlt) := ⟨_, rfl⟩
        rw [← hy] at e0
        have MY : Hid (y ∈ l) := hide (by rw [hy]; exact List.getElem_mem _)
        have CQ := hide (cf_in (by rw [(unhide HS).len]; exact hlt) hy)
        clear hy
        have E0 : wr.cell? ⟨b, off + i * 4, none⟩ = some (.bool y.1.num.g) := ((unhide HB).cell (p := ⟨b, off + i * 4, none⟩) hb).trans (e0.1)
        have E1 : wr.cell? ⟨b, off + i * 4 + 1, none⟩ = some (.slice y.1.num.a y.1.num.n y.1.num.c) := ((unhide HB).cell (p := ⟨b, off + i * 4 + 1, none⟩) hb).trans (e0.2.1)
        have E2 : wr.cell? ⟨b, off + i * 4 + 2, none⟩ = some (.bool y.1.den.g) := ((unhide HB).cell (p := ⟨b, off + i * 4 + 2, none⟩) hb).trans (e0.2.2.1)
        have E3 : wr.cell? ⟨b, off + i * 4 + 3, none⟩ = some (.slice y.1.den.a y.1.den.n y.1.den.c) := ((unhide HB).cell (p := ⟨b, off + i * 4 + 3, none⟩) hb).trans (e0.2.2.2)
        clear e0 hc
        have JY := hide ((good_of_mem (unhide HS) (unhide HG) (unhide MY)).later (unhide HB))
        obtain ⟨x, hx⟩ : ∃ x, x = us[i]'(by omega) := ⟨_, rfl⟩
        have MX : Hid (x ∈ us) := hide (by rw [hx]; exact List.getElem_mem _)
        obtain ⟨M, hM, hL⟩ := unhide EM
        have sx := hL i (by omega)
        rw [← hx] at sx
        have S0 : wr.cell? ⟨w.heap.size, i * 4, none⟩ = some (.bool x.1.num.g) := (hM.cellAt _ (by omega)).trans (sx.1)
        have S1 : wr.cell? ⟨w.heap.size, i * 4 + 1, none⟩ = some (.slice x.1.num.a x.1.num.n x.1.num.c) := (hM.cellAt _ (by omega)).trans (sx.2.1)
        have S2 : wr.cell? ⟨w.heap.size, i * 4 + 2, none⟩ = some (.bool x.1.den.g) := (hM.cellAt _ (by omega)).trans (sx.2.2.1)
        have S3 : wr.cell? ⟨w.heap.size, i * 4 + 3, none⟩ = some (.slice x.1.den.a x.1.den.n x.1.den.c) := (hM.cellAt _ (by omega)).trans (sx.2.2.2)
        have CP : Hid (IsD (cf (goods (l'.map Prod.snd)) i) x.2) := hide (by
          have k1 : i < (goods (l'.map Prod.snd)).length := by unfold goods; rw [List.length_map, List.length_map, (unhide HS').len]; exact hin
          refine (unhide ED).get i (c := cf (goods (l'.map Prod.snd)) i) ?_ (by rw [List.getElem?_map, List.getElem?_eq_getElem (by omega), ← hx]; rfl)
          rw [mixL_get _ _ _ k1, if_neg (by omega)]
          unfold cf
          rw [List.getElem?_eq_getElem k1]
          rfl)
        have GP := hide (cf_good (unhide HS') (unhide HG') i)
        have GQ := hide (cf_good (unhide HS) (unhide HG) i)
        clear sx hM hL hx M
        go_upto_region 7 with fail
        have al : Below wr.heap.size wr (wr.alloc (.cells #[.bool y.1.num.g, .slice y.1.num.a y.1.num.n y.1.num.c, .bool y.1.den.g, .slice y.1.den.a y.1.den.n y.1.den.c] 40)) := (Below.refl _ _).alloc (Nat.le_refl _) _
        replace S0 : (wr.alloc (.cells #[.bool y.1.num.g, .slice y.1.num.a y.1.num.n y.1.num.c, .bool y.1.den.g, .slice y.1.den.a y.1.den.n y.1.den.c] 40)).cell? ⟨w.heap.size, i * 4, none⟩ = some (.bool x.1.num.g) := ca_other S0
        replace S1 : (wr.alloc (.cells #[.bool y.1.num.g, .slice y.1.num.a y.1.num.n y.1.num.c, .bool y.1.den.g, .slice y.1.den.a y.1.den.n y.1.den.c] 40)).cell? ⟨w.heap.size, i * 4 + 1, none⟩ = some (.slice x.1.num.a x.1.num.n x.1.num.c) := ca_other S1
        replace S2 : (wr.alloc (.cells #[.bool y.1.num.g, .slice y.1.num.a y.1.num.n y.1.num.c, .bool y.1.den.g, .slice y.1.den.a y.1.den.n y.1.den.c] 40)).cell? ⟨w.heap.size, i * 4 + 2, none⟩ = some (.bool x.1.den.g) := ca_other S2
        replace S3 : (wr.alloc (.cells #[.bool y.1.num.g, .slice y.1.num.a y.1.num.n y.1.num.c, .bool y.1.den.g, .slice y.1.den.a y.1.den.n y.1.den.c] 40)).cell? ⟨w.heap.size, i * 4 + 3, none⟩ = some (.slice x.1.den.a x.1.den.n x.1.den.c) := ca_other S3
        have T0 : (wr.alloc (.cells #[.bool y.1.num.g, .slice y.1.num.a y.1.num.n y.1.num.c, .bool y.1.den.g, .slice y.1.den.a y.1.den.n y.1.den.c] 40)).cell? ⟨wr.heap.size, 0, none⟩ = some (.bool y.1.num.g) := by simp [go_sem]
        have T1 : (wr.alloc (.cells #[.bool y.1.num.g, .slice y.1.num.a y.1.num.n y.1.num.c, .bool y.1.den.g, .slice y.1.den.a y.1.den.n y.1.den.c] 40)).cell? ⟨wr.heap.size, 1, none⟩ = some (.slice y.1.num.a y.1.num.n y.1.num.c) := by simp [go_sem]
        have T2 : (wr.alloc (.cells #[.bool y.1.num.g, .slice y.1.num.a y.1.num.n y.1.num.c, .bool y.1.den.g, .slice y.1.den.a y.1.den.n y.1.den.c] 40)).cell? ⟨wr.heap.size, 2, none⟩ = some (.bool y.1.den.g) := by simp [go_sem]
        have T3 : (wr.alloc (.cells #[.bool y.1.num.g, .slice y.1.num.a y.1.num.n y.1.num.c, .bool y.1.den.g, .slice y.1.den.a y.1.den.n y.1.den.c] 40)).cell? ⟨wr.heap.size, 3, none⟩ = some (.slice y.1.den.a y.1.den.n y.1.den.c) := by simp [go_sem]
        replace JY := hide ((unhide JY).later al)
        replace HB := hide (below_on (unhide HB) al)
        replace EM := hide (row_later (unhide EM) al)
        replace OO := hide ((unhide OO).later al)
        replace AA := hide (fun p hp => ((unhide AA) p hp).later al)
        have sza := al.size
        have nwr : wr.heap.size ≠ w.heap.size := by omega
        clear al E0 E1 E2 E3
        generalize (wr.alloc (.cells #[.bool y.1.num.g, .slice y.1.num.a y.1.num.n y.1.num.c, .bool y.1.den.g, .slice y.1.den.a y.1.den.n y.1.den.c] 40)) = w1 at *
        have IX : Hid (IsQ w1 x.1 (cf (goods (l'.map Prod.snd)) i).1 (cf (goods (l'.map Prod.snd)) i).2) := hide (isQ_isD (unhide AA x (unhide MX)) (unhide CP))
        have IY : Hid (IsQ w1 y.1 (cf (goods (l.map Prod.snd)) i).1 (cf (goods (l.map Prod.snd)) i).2) := hide (by rw [unhide CQ]; exact (unhide JY).is)
        have SD0 := cd_other S0
        have TD0 := cd_other T0
        have SD1 := cd_other S1
        have TD1 := cd_other T1
        have SD2 := cd_other S2
        have TD2 := cd_other T2
        have SD3 := cd_other S3
        have TD3 := cd_other T3
        go_region_with
          (first
          | (go_at_call 190; refine (addQI x.1 y.1 _ _ _ _ _ ?_ ?_ (sum_ne (unhide GP).1 (unhide GQ).1) ((unhide GP).2.1.mono (by omega)) ((unhide GP).2.2.mono (by omega)) ((unhide GQ).2.1.mono (by omega)) ((unhide GQ).2.2.mono (by omega))).mono ?_; exact (unhide IX).drew; exact (unhide IY).drew; rintro e w2 ⟨u, lu, lv, rfl, hb1, o2, a2, m1, m2⟩; have hbx := below_of_drew hb1; have sz2 := hbx.size; have AU := hide (show AllOwn w1.heap.size w2.heap.size w2 [(u.num, ⟨decide ((sumAt (goods (l'.map Prod.snd)) (goods (l.map Prod.snd)) i).1 < 0), lu⟩), (u.den, ⟨decide ((sumAt (goods (l'.map Prod.snd)) (goods (l.map Prod.snd)) i).2 < 0), lv⟩)] from o2); have AV := hide (show AllAr w2 [(u.num, ⟨decide ((sumAt (goods (l'.map Prod.snd)) (goods (l.map Prod.snd)) i).1 < 0), lu⟩), (u.den, ⟨decide ((sumAt (goods (l'.map Prod.snd)) (goods (l.map Prod.snd)) i).2 < 0), lv⟩)] from a2); have NU := hide (show Nm lu (sumAt (goods (l'.map Prod.snd)) (goods (l.map Prod.snd)) i).1.natAbs ∧ Nm lv (sumAt (goods (l'.map Prod.snd)) (goods (l.map Prod.snd)) i).2.natAbs from ⟨m1, m2⟩); replace T0 := cell_later hbx T0; replace T1 := cell_later hbx T1; replace T2 := cell_later hbx T2; replace T3 := cell_later hbx T3; replace HB := hide (below_on (unhide HB) hbx); replace EM := hide (row_later (unhide EM) hbx); replace OO := hide ((unhide OO).later hbx); replace AA := hide (fun p hp => ((unhide AA) p hp).later hbx); obtain ⟨M, hM, hL⟩ := unhide EM; obtain ⟨x_0, old0⟩ : ∃ x, w2.cell? ⟨w.heap.size, i * 4, none⟩ = some x := ⟨_, (hM.cellAt _ (by omega)).trans (List.getElem?_eq_getElem (by have := hM.1; omega))⟩; obtain ⟨x_1, old1⟩ : ∃ x, w2.cell? ⟨w.heap.size, i * 4 + 1, none⟩ = some x := ⟨_, (hM.cellAt _ (by omega)).trans (List.getElem?_eq_getElem (by have := hM.1; omega))⟩; obtain ⟨x_2, old2⟩ : ∃ x, w2.cell? ⟨w.heap.size, i * 4 + 2, none⟩ = some x := ⟨_, (hM.cellAt _ (by omega)).trans (List.getElem?_eq_getElem (by have := hM.1; omega))⟩; obtain ⟨x_3, old3⟩ : ∃ x, w2.cell? ⟨w.heap.size, i * 4 + 3, none⟩ = some x := ⟨_, (hM.cellAt _ (by omega)).trans (List.getElem?_eq_getElem (by have := hM.1; omega))⟩; have fr : ∀ o, w2.frozen? ⟨w.heap.size, o, none⟩ = false := fun o => hM.frozenAt o; have HM := hide hM; have HL := hide hL; clear hM hL hbx hb1 o2 a2 m1 m2 EM S0 S1 S2 S3 SD0 SD1 SD2 SD3 TD0 TD1 TD2 TD3))
        all_goals clear T0 T1 T2 T3
        all_goals go_wp2
        all_goals go_roundw
        all_goals (first | (simp [intOf]; omega; done) | skip)
        all_goals
          have hM := unhide HM
          have bt : But w.heap.size (w.heap.size + 1) w2 ((((w2.setCell ⟨w.heap.size, i * 4, none⟩ (.bool u.num.g)).setCell ⟨w.heap.size, i * 4 + 1, none⟩ (.slice u.num.a u.num.n u.num.c)).setCell ⟨w.heap.size, i * 4 + 2, none⟩ (.bool u.den.g)).setCell ⟨w.heap.size, i * 4 + 3, none⟩ (.slice u.den.a u.den.n u.den.c)) := but_rowQ
          have zs := zip_set (us := us) (k := i) (u := (u, (⟨⟨decide ((sumAt (goods (l'.map Prod.snd)) (goods (l.map Prod.snd)) i).1 < 0), lu⟩, ⟨decide ((sumAt (goods (l'.map Prod.snd)) (goods (l.map Prod.snd)) i).2 < 0), lv⟩⟩ : QD))) (by omega)
          have own : AllOwn (w.heap.size + 1) w2.heap.size w2 (zipPQ (us.set i (u, (⟨⟨decide ((sumAt (goods (l'.map Prod.snd)) (goods (l.map Prod.snd)) i).1 < 0), lu⟩, ⟨decide ((sumAt (goods (l'.map Prod.snd)) (goods (l.map Prod.snd)) i).2 < 0), lv⟩⟩ : QD)))) := by
            have o1 := unhide OO
            rw [zs.1] at o1
            rw [zs.2, zipPQ_one (u, _)]
            exact (o1.wide (Nat.le_refl _) (show wr.heap.size ≤ w1.heap.size by omega)).repl (unhide AU) (by omega) (by omega)
          refine ⟨i + 1, us.set i (u, (⟨⟨decide ((sumAt (goods (l'.map Prod.snd)) (goods (l.map Prod.snd)) i).1 < 0), lu⟩, ⟨decide ((sumAt (goods (l'.map Prod.snd)) (goods (l.map Prod.snd)) i).2 < 0), lv⟩⟩ : QD)), by omega, by go_num, by simp [hu], Nat.lt_of_lt_of_le (by omega) bt.size, hide ?_, hide ⟨_, (World.ownsRow.stored (World.ownsRow.stored (World.ownsRow.stored (World.ownsRow.stored hM (i * 4) (.bool u.num.g)).1 (i * 4 + 1) (.slice u.num.a u.num.n u.num.c)).1 (i * 4 + 2) (.bool u.den.g)).1 (i * 4 + 3) (.slice u.den.a u.den.n u.den.c)).1, rep_rowQ hM.1 hu hin (unhide HL)⟩, hide ?_, hide ?_, hide ?_, hide ?_⟩
          · rw [List.map_set]
            exact (unhide ED).set i ⟨rfl, (unhide NU).1, rfl, (unhide NU).2⟩
          · exact (own.but bt (.inr (Nat.le_refl _))).wide (Nat.le_refl _) bt.size
          · intro p hp q hq
            refine ar_fin bt own (fun q hq => ?_) (Nat.le_refl _) q (zipPQ_mem hp hq)
            obtain ⟨p', hp', hq'⟩ := List.mem_flatMap.1 hq
            rcases List.mem_or_eq_of_mem_set hp' with h | h
            · exact (unhide AA) p' h q hq'
            · subst h
              exact (unhide AV) q hq'
          · intro p hp
            rcases List.mem_or_eq_of_mem_set hp with h | h
            · exact (unhide LS) p h
            · subst h
              have q0 := sum_bd (unhide GP).2.1 (unhide GP).2.2 (unhide GQ).2.1 (unhide GQ).2.2
              have q1 := (unhide NU).1.len_le q0.1
              have q2 := (unhide NU).2.len_le q0.2
              have q3 : lu.length = u.num.n := (unhide AV).head.ar.len
              have q4 : lv.length = u.den.n := (unhide AV).tail.head.ar.len
              show u.num.n ≤ 90 ∧ u.den.n ≤ 90
              omega
          · exact bt.below (unhide HB) (Nat.le_refl _) (by have := (unhide HB).size; omega)
      · obtain rfl : i = n := by omega
        have EL : Hid (IsL (sums (goods (l'.map Prod.snd)) (goods (l.map Prod.snd)) n') (us.map Prod.snd)) := hide (by
          have h := unhide ED
          have l1 : (goods (l.map Prod.snd)).length = i := by unfold goods; rw [List.length_map, List.length_map, (unhide HS).len]
          have l2 : (goods (l'.map Prod.snd)).length = n' := by unfold goods; rw [List.length_map, List.length_map, (unhide HS').len]
          have e := mixL_sums (ps := (goods (l'.map Prod.snd))) (qs := (goods (l.map Prod.snd))) (goods_low (unhide HS') (unhide HG')) (by omega)
          rw [l1, l2] at e
          rw [e] at h
          exact h)
        have PO : Hid (POwQ (w.heap.size + 1) wr.heap.size wr w.heap.size n' n' us) := hide ⟨unhide EM, unhide OO, unhide AA, hu⟩
        have hsz := lenPQ_le (unhide LS)
        have RO := hide ((unhide PO).ro (Nat.lt_succ_self _) (by omega) (by omega) (fun p hp => by have := (unhide LS) p hp; omega))
        go_wp2_with fail
        refine (cutI_some ⟨w.heap.size, 0, none⟩ n' n' us _ (unhide PO).arg).mono ?_
        rintro e w3 ⟨m, rfl, hb3, hm3, hcut⟩
        have R3 := hide (pro_cut ((unhide RO).later hb3) hm3)
        have A3 := hide (arg_cut ((unhide PO).arg.later hb3) hm3)
        have HB3 := hide (below_on (unhide HB) hb3)
        have CT := hide hcut
        have s3 := hb3.size
        clear hb3 hcut
        go_wp2
        go_ret
        exact ⟨_, m, us, rfl, unhide HB3, ⟨(unhide R3).len, (unhide R3).sz, (unhide R3).ml, polyI_row (unhide R3).row (Nat.le_refl _) s3⟩, unhide A3, (by rw [sums_comm]; exact unhide EL), unhide CT⟩
  · have hd : ¬ ((n : Int) < (n' : Int)) := by omega
    have em : max n n' = n := by omega
    rw [em]
    clear em
    go_enter Try.func134, Try.ntmps134
    go_wp2_with fail
    refine (copyPo a n c l _ (unhide HS) (unhide HG)).mono ?_
    rintro e w0 ⟨us0, rfl, hb0, z0, po, il, ls⟩
    have HB0 := hide hb0
    have PO0 := hide po
    have IL0 := hide il
    have LS0 : Hid (∀ p ∈ us0, p.1.num.n ≤ 90 ∧ p.1.den.n ≤ 90) := hide (fun p hp => by have := ls p hp; omega)
    clear hb0 po il ls
    go_wp2
    go_loopw [19] (fun iv wr => ∃ (i : Nat) (us : List (QV × QD)), i ≤ n' ∧ iv = .int .i64 i ∧ us.length = n ∧ w.heap.size < wr.heap.size ∧ Hid (IsL (mixL (goods (l.map Prod.snd)) (goods (l'.map Prod.snd)) i) (us.map Prod.snd)) ∧ Hid (∃ M, wr.ownsRow w.heap.size 40 4 (.slice (some ⟨w.heap.size, 0, none⟩) n n) n M ∧ ∀ i (h : i < us.length), M[i * 4]? = some (.bool us[i].1.num.g) ∧ M[i * 4 + 1]? = some (.slice us[i].1.num.a us[i].1.num.n us[i].1.num.c) ∧ M[i * 4 + 2]? = some (.bool us[i].1.den.g) ∧ M[i * 4 + 3]? = some (.slice us[i].1.den.a us[i].1.den.n us[i].1.den.c)) ∧ Hid (AllOwn (w.heap.size + 1) wr.heap.size wr (zipPQ us)) ∧ Hid (∀ p ∈ us, AllAr wr [(p.1.num, p.2.num), (p.1.den, p.2.den)]) ∧ Hid (∀ p ∈ us, p.1.num.n ≤ 90 ∧ p.1.den.n ≤ 90) ∧ Hid (Below w.heap.size w wr)) (fun iv _ => n' - (intOf iv).toNat)
    case atStart => exact ⟨0, us0, Nat.zero_le _, rfl, (unhide PO0).len, z0, IL0, hide (unhide PO0).row, hide (unhide PO0).own, hide (unhide PO0).ar, LS0, HB0⟩
    case round =>
      clear PO0 IL0 LS0 HB0 z0
      obtain ⟨i, us, hi, rfl, hu, z1, ED, EM, OO, AA, LS, HB⟩ := hrel
      by_cases hlt : i < n'
      · have hlt' : (i : Int) < (n' : Int) := by omega
        have hin : i < n := by omega
        have hin' : (i : Int) < (n : Int) := by omega
        rcases (unhide HS').at_ with e | ⟨b, off, ea, hb, hc⟩
        · exact absurd (unhide HS').len (by rw [e]; simp; omega)
        subst ea
        have e0 := hc i (by rw [(unhide HS').len]; exact hlt)
        obtain ⟨y, hy⟩ : ∃ y, y = l'[i]'(by rw [(unhide HS').len]; exact hlt) := ⟨_, rfl⟩
        rw [← hy] at e0
        have MY : Hid (y ∈ l') := hide (by rw [hy]; exact List.getElem_mem _)
        have CQ := hide (cf_in (by rw [(unhide HS').len]; exact hlt) hy)
        clear hy
        have E0 : wr.cell? ⟨b, off + i * 4, none⟩ = some (.bool y.1.num.g) := ((unhide HB).cell (p := ⟨b, off + i * 4, none⟩) hb).trans (e0.1)
        have E1 : wr.cell? ⟨b, off + i * 4 + 1, none⟩ = some (.slice y.1.num.a y.1.num.n y.1.num.c) := ((unhide HB).cell (p := ⟨b, off + i * 4 + 1, none⟩) hb).trans (e0.2.1)
        have E2 : wr.cell? ⟨b, off + i * 4 + 2, none⟩ = some (.bool y.1.den.g) := ((unhide HB).cell (p := ⟨b, off + i * 4 + 2, none⟩) hb).trans (e0.2.2.1)
        have E3 : wr.cell? ⟨b, off + i * 4 + 3, none⟩ = some (.slice y.1.den.a y.1.den.n y.1.den.c) := ((unhide HB).cell (p := ⟨b, off + i * 4 + 3, none⟩) hb).trans (e0.2.2.2)
        clear e0 hc
        have JY := hide ((good_of_mem (unhide HS') (unhide HG') (unhide MY)).later (unhide HB))
        obtain ⟨x, hx⟩ : ∃ x, x = us[i]'(by omega) := ⟨_, rfl⟩
        have MX : Hid (x ∈ us) := hide (by rw [hx]; exact List.getElem_mem _)
        obtain ⟨M, hM, hL⟩ := unhide EM
        have sx := hL i (by omega)
        rw [← hx] at sx
        have S0 : wr.cell? ⟨w.heap.size, i * 4, none⟩ = some (.bool x.1.num.g) := (hM.cellAt _ (by omega)).trans (sx.1)
        have S1 : wr.cell? ⟨w.heap.size, i * 4 + 1, none⟩ = some (.slice x.1.num.a x.1.num.n x.1.num.c) := (hM.cellAt _ (by omega)).trans (sx.2.1)
        have S2 : wr.cell? ⟨w.heap.size, i * 4 + 2, none⟩ = some (.bool x.1.den.g) := (hM.cellAt _ (by omega)).trans (sx.2.2.1)
        have S3 : wr.cell? ⟨w.heap.size, i * 4 + 3, none⟩ = some (.slice x.1.den.a x.1.den.n x.1.den.c) := (hM.cellAt _ (by omega)).trans (sx.2.2.2)
        have CP : Hid (IsD (cf (goods (l.map Prod.snd)) i) x.2) := hide (by
          have k1 : i < (goods (l.map Prod.snd)).length := by unfold goods; rw [List.length_map, List.length_map, (unhide HS).len]; exact hin
          refine (unhide ED).get i (c := cf (goods (l.map Prod.snd)) i) ?_ (by rw [List.getElem?_map, List.getElem?_eq_getElem (by omega), ← hx]; rfl)
          rw [mixL_get _ _ _ k1, if_neg (by omega)]
          unfold cf
          rw [List.getElem?_eq_getElem k1]
          rfl)
        have GP := hide (cf_good (unhide HS) (unhide HG) i)
        have GQ := hide (cf_good (unhide HS') (unhide HG') i)
        clear sx hM hL hx M
        go_upto_region 7 with fail
        have al : Below wr.heap.size wr (wr.alloc (.cells #[.bool y.1.num.g, .slice y.1.num.a y.1.num.n y.1.num.c, .bool y.1.den.g, .slice y.1.den.a y.1.den.n y.1.den.c] 40)) := (Below.refl _ _).alloc (Nat.le_refl _) _
        replace S0 : (wr.alloc (.cells #[.bool y.1.num.g, .slice y.1.num.a y.1.num.n y.1.num.c, .bool y.1.den.g, .slice y.1.den.a y.1.den.n y.1.den.c] 40)).cell? ⟨w.heap.size, i * 4, none⟩ = some (.bool x.1.num.g) := ca_other S0
        replace S1 : (wr.alloc (.cells #[.bool y.1.num.g, .slice y.1.num.a y.1.num.n y.1.num.c, .bool y.1.den.g, .slice y.1.den.a y.1.den.n y.1.den.c] 40)).cell? ⟨w.heap.size, i * 4 + 1, none⟩ = some (.slice x.1.num.a x.1.num.n x.1.num.c) := ca_other S1
        replace S2 : (wr.alloc (.cells #[.bool y.1.num.g, .slice y.1.num.a y.1.num.n y.1.num.c, .bool y.1.den.g, .slice y.1.den.a y.1.den.n y.1.den.c] 40)).cell? ⟨w.heap.size, i * 4 + 2, none⟩ = some (.bool x.1.den.g) := ca_other S2
        replace S3 : (wr.alloc (.cells #[.bool y.1.num.g, .slice y.1.num.a y.1.num.n y.1.num.c, .bool y.1.den.g, .slice y.1.den.a y.1.den.n y.1.den.c] 40)).cell? ⟨w.heap.size, i * 4 + 3, none⟩ = some (.slice x.1.den.a x.1.den.n x.1.den.c) := ca_other S3
        have T0 : (wr.alloc (.cells #[.bool y.1.num.g, .slice y.1.num.a y.1.num.n y.1.num.c, .bool y.1.den.g, .slice y.1.den.a y.1.den.n y.1.den.c] 40)).cell? ⟨wr.heap.size, 0, none⟩ = some (.bool y.1.num.g) := by simp [go_sem]
        have T1 : (wr.alloc (.cells #[.bool y.1.num.g, .slice y.1.num.a y.1.num.n y.1.num.c, .bool y.1.den.g, .slice y.1.den.a y.1.den.n y.1.den.c] 40)).cell? ⟨wr.heap.size, 1, none⟩ = some (.slice y.1.num.a y.1.num.n y.1.num.c) := by simp [go_sem]
        have T2 : (wr.alloc (.cells #[.bool y.1.num.g, .slice y.1.num.a y.1.num.n y.1.num.c, .bool y.1.den.g, .slice y.1.den.a y.1.den.n y.1.den.c] 40)).cell? ⟨wr.heap.size, 2, none⟩ = some (.bool y.1.den.g) := by simp [go_sem]
        have T3 : (wr.alloc (.cells #[.bool y.1.num.g, .slice y.1.num.a y.1.num.n y.1.num.c, .bool y.1.den.g, .slice y.1.den.a y.1.den.n y.1.den.c] 40)).cell? ⟨wr.heap.size, 3, none⟩ = some (.slice y.1.den.a y.1.den.n y.1.den.c) := by simp [go_sem]
        replace JY := hide ((unhide JY).later al)
        replace HB := hide (below_on (unhide HB) al)
        replace EM := hide (row_later (unhide EM) al)
        replace OO := hide ((unhide OO).later al)
        replace AA := hide (fun p hp => ((unhide AA) p hp).later al)
        have sza := al.size
        have nwr : wr.heap.size ≠ w.heap.size := by omega
        clear al E0 E1 E2 E3
        generalize (wr.alloc (.cells #[.bool y.1.num.g, .slice y.1.num.a y.1.num.n y.1.num.c, .bool y.1.den.g, .slice y.1.den.a y.1.den.n y.1.den.c] 40)) = w1 at *
        have IX : Hid (IsQ w1 x.1 (cf (goods (l.map Prod.snd)) i).1 (cf (goods (l.map Prod.snd)) i).2) := hide (isQ_isD (unhide AA x (unhide MX)) (unhide CP))
        have IY : Hid (IsQ w1 y.1 (cf (goods (l'.map Prod.snd)) i).1 (cf (goods (l'.map Prod.snd)) i).2) := hide (by rw [unhide CQ]; exact (unhide JY).is)
        have SD0 := cd_other S0
        have TD0 := cd_other T0
        have SD1 := cd_other S1
        have TD1 := cd_other T1
        have SD2 := cd_other S2
        have TD2 := cd_other T2
        have SD3 := cd_other S3
        have TD3 := cd_other T3
        go_region_with
          (first
          | (go_at_call 190; refine (addQI x.1 y.1 _ _ _ _ _ ?_ ?_ (sum_ne (unhide GP).1 (unhide GQ).1) ((unhide GP).2.1.mono (by omega)) ((unhide GP).2.2.mono (by omega)) ((unhide GQ).2.1.mono (by omega)) ((unhide GQ).2.2.mono (by omega))).mono ?_; exact (unhide IX).drew; exact (unhide IY).drew; rintro e w2 ⟨u, lu, lv, rfl, hb1, o2, a2, m1, m2⟩; have hbx := below_of_drew hb1; have sz2 := hbx.size; have AU := hide (show AllOwn w1.heap.size w2.heap.size w2 [(u.num, ⟨decide ((sumAt (goods (l.map Prod.snd)) (goods (l'.map Prod.snd)) i).1 < 0), lu⟩), (u.den, ⟨decide ((sumAt (goods (l.map Prod.snd)) (goods (l'.map Prod.snd)) i).2 < 0), lv⟩)] from o2); have AV := hide (show AllAr w2 [(u.num, ⟨decide ((sumAt (goods (l.map Prod.snd)) (goods (l'.map Prod.snd)) i).1 < 0), lu⟩), (u.den, ⟨decide ((sumAt (goods (l.map Prod.snd)) (goods (l'.map Prod.snd)) i).2 < 0), lv⟩)] from a2); have NU := hide (show Nm lu (sumAt (goods (l.map Prod.snd)) (goods (l'.map Prod.snd)) i).1.natAbs ∧ Nm lv (sumAt (goods (l.map Prod.snd)) (goods (l'.map Prod.snd)) i).2.natAbs from ⟨m1, m2⟩); replace T0 := cell_later hbx T0; replace T1 := cell_later hbx T1; replace T2 := cell_later hbx T2; replace T3 := cell_later hbx T3; replace HB := hide (below_on (unhide HB) hbx); replace EM := hide (row_later (unhide EM) hbx); replace OO := hide ((unhide OO).later hbx); replace AA := hide (fun p hp => ((unhide AA) p hp).later hbx); obtain ⟨M, hM, hL⟩ := unhide EM; obtain ⟨x_0, old0⟩ : ∃ x, w2.cell? ⟨w.heap.size, i * 4, none⟩ = some x := ⟨_, (hM.cellAt _ (by omega)).trans (List.getElem?_eq_getElem (by have := hM.1; omega))⟩; obtain ⟨x_1, old1⟩ : ∃ x, w2.cell? ⟨w.heap.size, i * 4 + 1, none⟩ = some x := ⟨_, (hM.cellAt _ (by omega)).trans (List.getElem?_eq_getElem (by have := hM.1; omega))⟩; obtain ⟨x_2, old2⟩ : ∃ x, w2.cell? ⟨w.heap.size, i * 4 + 2, none⟩ = some x := ⟨_, (hM.cellAt _ (by omega)).trans (List.getElem?_eq_getElem (by have := hM.1; omega))⟩; obtain ⟨x_3, old3⟩ : ∃ x, w2.cell? ⟨w.heap.size, i * 4 + 3, none⟩ = some x := ⟨_, (hM.cellAt _ (by omega)).trans (List.getElem?_eq_getElem (by have := hM.1; omega))⟩; have fr : ∀ o, w2.frozen? ⟨w.heap.size, o, none⟩ = false := fun o => hM.frozenAt o; have HM := hide hM; have HL := hide hL; clear hM hL hbx hb1 o2 a2 m1 m2 EM S0 S1 S2 S3 SD0 SD1 SD2 SD3 TD0 TD1 TD2 TD3))
        all_goals clear T0 T1 T2 T3
        all_goals go_wp2
        all_goals go_roundw
        all_goals (first | (simp [intOf]; omega; done) | skip)
        all_goals
          have hM := unhide HM
          have bt : But w.heap.size (w.heap.size + 1) w2 ((((w2.setCell ⟨w.heap.size, i * 4, none⟩ (.bool u.num.g)).setCell ⟨w.heap.size, i * 4 + 1, none⟩ (.slice u.num.a u.num.n u.num.c)).setCell ⟨w.heap.size, i * 4 + 2, none⟩ (.bool u.den.g)).setCell ⟨w.heap.size, i * 4 + 3, none⟩ (.slice u.den.a u.den.n u.den.c)) := but_rowQ
          have zs := zip_set (us := us) (k := i) (u := (u, (⟨⟨decide ((sumAt (goods (l.map Prod.snd)) (goods (l'.map Prod.snd)) i).1 < 0), lu⟩, ⟨decide ((sumAt (goods (l.map Prod.snd)) (goods (l'.map Prod.snd)) i).2 < 0), lv⟩⟩ : QD))) (by omega)
          have own : AllOwn (w.heap.size + 1) w2.heap.size w2 (zipPQ (us.set i (u, (⟨⟨decide ((sumAt (goods (l.map Prod.snd)) (goods (l'.map Prod.snd)) i).1 < 0), lu⟩, ⟨decide ((sumAt (goods (l.map Prod.snd)) (goods (l'.map Prod.snd)) i).2 < 0), lv⟩⟩ : QD)))) := by
            have o1 := unhide OO
            rw [zs.1] at o1
            rw [zs.2, zipPQ_one (u, _)]
            exact (o1.wide (Nat.le_refl _) (show wr.heap.size ≤ w1.heap.size by omega)).repl (unhide AU) (by omega) (by omega)
          refine ⟨i + 1, us.set i (u, (⟨⟨decide ((sumAt (goods (l.map Prod.snd)) (goods (l'.map Prod.snd)) i).1 < 0), lu⟩, ⟨decide ((sumAt (goods (l.map Prod.snd)) (goods (l'.map Prod.snd)) i).2 < 0), lv⟩⟩ : QD)), by omega, by go_num, by simp [hu], Nat.lt_of_lt_of_le (by omega) bt.size, hide ?_, hide ⟨_, (World.ownsRow.stored (World.ownsRow.stored (World.ownsRow.stored (World.ownsRow.stored hM (i * 4) (.bool u.num.g)).1 (i * 4 + 1) (.slice u.num.a u.num.n u.num.c)).1 (i * 4 + 2) (.bool u.den.g)).1 (i * 4 + 3) (.slice u.den.a u.den.n u.den.c)).1, rep_rowQ hM.1 hu hin (unhide HL)⟩, hide ?_, hide ?_, hide ?_, hide ?_⟩
          · rw [List.map_set]
            exact (unhide ED).set i ⟨rfl, (unhide NU).1, rfl, (unhide NU).2⟩
          · exact (own.but bt (.inr (Nat.le_refl _))).wide (Nat.le_refl _) bt.size
          · intro p hp q hq
            refine ar_fin bt own (fun q hq => ?_) (Nat.le_refl _) q (zipPQ_mem hp hq)
            obtain ⟨p', hp', hq'⟩ := List.mem_flatMap.1 hq
            rcases List.mem_or_eq_of_mem_set hp' with h | h
            · exact (unhide AA) p' h q hq'
            · subst h
              exact (unhide AV) q hq'
          · intro p hp
            rcases List.mem_or_eq_of_mem_set hp with h | h
            · exact (unhide LS) p h
            · subst h
              have q0 := sum_bd (unhide GP).2.1 (unhide GP).2.2 (unhide GQ).2.1 (unhide GQ).2.2
              have q1 := (unhide NU).1.len_le q0.1
              have q2 := (unhide NU).2.len_le q0.2
              have q3 : lu.length = u.num.n := (unhide AV).head.ar.len
              have q4 : lv.length = u.den.n := (unhide AV).tail.head.ar.len
              show u.num.n ≤ 90 ∧ u.den.n ≤ 90
              omega
          · exact bt.below (unhide HB) (Nat.le_refl _) (by have := (unhide HB).size; omega)
      · obtain rfl : i = n' := by omega
        have EL : Hid (IsL (sums (goods (l.map Prod.snd)) (goods (l'.map Prod.snd)) n) (us.map Prod.snd)) := hide (by
          have h := unhide ED
          have l1 : (goods (l'.map Prod.snd)).length = i := by unfold goods; rw [List.length_map, List.length_map, (unhide HS').len]
          have l2 : (goods (l.map Prod.snd)).length = n := by unfold goods; rw [List.length_map, List.length_map, (unhide HS).len]
          have e := mixL_sums (ps := (goods (l.map Prod.snd))) (qs := (goods (l'.map Prod.snd))) (goods_low (unhide HS) (unhide HG)) (by omega)
          rw [l1, l2] at e
          rw [e] at h
          exact h)
        have PO : Hid (POwQ (w.heap.size + 1) wr.heap.size wr w.heap.size n n us) := hide ⟨unhide EM, unhide OO, unhide AA, hu⟩
        have hsz := lenPQ_le (unhide LS)
        have RO := hide ((unhide PO).ro (Nat.lt_succ_self _) (by omega) (by omega) (fun p hp => by have := (unhide LS) p hp; omega))
        go_wp2_with fail
        refine (cutI_some ⟨w.heap.size, 0, none⟩ n n us _ (unhide PO).arg).mono ?_
        rintro e w3 ⟨m, rfl, hb3, hm3, hcut⟩
        have R3 := hide (pro_cut ((unhide RO).later hb3) hm3)
        have A3 := hide (arg_cut ((unhide PO).arg.later hb3) hm3)
        have HB3 := hide (below_on (unhide HB) hb3)
        have CT := hide hcut
        have s3 := hb3.size
        clear hb3 hcut
        go_wp2
        go_ret
        exact ⟨_, m, us, rfl, unhide HB3, ⟨(unhide R3).len, (unhide R3).sz, (unhide R3).ml, polyI_row (unhide R3).row (Nat.le_refl _) s3⟩, unhide A3, unhide EL, unhide CT⟩
end Go.Proofs.Ytfmjbpfnhgkhkaa
namespace Go.Proofs.Ytfmjbpfnhgkhkaa
open Go.RowKit
set_option linter.unusedVariables false
set_option maxRecDepth 100000
set_option linter.unusedSimpArgs false

theorem sums_low {ps qs : List (Int × Int)} (hp : ∀ k, 0 < (cf ps k).2) (hq : ∀ k, 0 < (cf qs k).2) (m j : Nat) : LowL ((sums ps qs m).take j) := fun x hx => by
  have hx' := List.mem_of_mem_take hx
  unfold sums at hx'
  obtain ⟨k, _, rfl⟩ := List.mem_map.1 hx'
  exact low_low (sum_ne (hp k) (hq k))
set_option maxHeartbeats 4000000 in
theorem ofAdd4 (a : Option Addr) (n c : Nat) (l : List (QV × QD)) (a' : Option Addr) (n' c' : Nat) (l' : List (QV × QD)) (w : World) (h : PArQ w a n c l) (h' : PArQ w a' n' c' l') :
    Calls Try.prog 133 #[.slice a n c, .slice a' n' c', .func (Fn.func 134) #[] #[]] w (RetPo w (AnsS4 (gP (l.map Prod.snd) && gP (l'.map Prod.snd)) (sums (goods (l.map Prod.snd)) (goods (l'.map Prod.snd)) (max n n')))) := by
  have G1 := hide (fun w1 (k : PArQ w1 a n c l) => GoodPI a n c l w1 k)
  have G2 := hide (fun w1 (k : PArQ w1 a' n' c' l') => GoodPI a' n' c' l' w1 k)
  have HS := hide h
  have HS' := hide h'
  clear h h'
  cases hg : gP (l.map Prod.snd)
  · rw [hg] at G1
    rw [Bool.false_and]
    clear hg
    go_enter Try.func133, Try.ntmps133
    go_wp2_with fail
    refine (unhide G1 _ (unhide HS)).mono ?_
    rintro e w1 ⟨rfl, hb⟩
    have HB := hide hb
    clear hb G1
    go_wp2
    go_ret2
    exact ⟨none, 0, 0, [], false, rfl, unhide HB, PRo.none _ _ _, .inr ⟨rfl, rfl, rfl⟩⟩
  · rw [hg] at G1
    rw [Bool.true_and]
    have HG := hide hg
    clear hg
    cases hg' : gP (l'.map Prod.snd)
    · rw [hg'] at G2
      clear hg'
      go_enter Try.func133, Try.ntmps133
      go_wp2_with fail
      refine (unhide G1 _ (unhide HS)).mono ?_
      rintro e w1 ⟨rfl, hb⟩
      have HB := hide hb
      clear hb G1
      go_wp2_with fail
      refine (unhide G2 _ ((unhide HS').later (unhide HB))).mono ?_
      rintro e w2 ⟨rfl, hb⟩
      replace HB := hide (below_on (unhide HB) hb)
      clear hb G2
      go_wp2
      go_ret2
      exact ⟨none, 0, 0, [], false, rfl, unhide HB, PRo.none _ _ _, .inr ⟨rfl, rfl, rfl⟩⟩
    · rw [hg'] at G2
      have HG' := hide hg'
      clear hg'
      have LW := hide (fun j => sums_low (fun k => (cf_good (unhide HS) (unhide HG) k).1) (fun k => (cf_good (unhide HS') (unhide HG') k).1) (max n n') j)
      go_enter Try.func133, Try.ntmps133
      go_wp2_with fail
      refine (unhide G1 _ (unhide HS)).mono ?_
      rintro e w1 ⟨rfl, hb⟩
      have HB := hide hb
      clear hb G1
      go_wp2_with fail
      refine (unhide G2 _ ((unhide HS').later (unhide HB))).mono ?_
      rintro e w2 ⟨rfl, hb⟩
      replace HB := hide (below_on (unhide HB) hb)
      clear hb G2
      have s2 := (unhide HB).size
      go_wp2_with fail
      refine (addI4_v a n c l a' n' c' l' _ ((unhide HS).later (unhide HB)) ((unhide HS').later (unhide HB)) (unhide HG) (unhide HG')).mono ?_
      rintro e w3 ⟨g3, m3, us, rfl, hb, o3, r3, i3, k3⟩
      replace HB := hide (below_on (unhide HB) hb)
      have O3 := hide o3
      have R3 := hide r3
      have I3 := hide (And.intro i3 k3)
      clear hb o3 r3 i3 k3
      go_wp2_with fail
      refine (whereP (some ⟨g3, 0, none⟩) m3 m3 (us.take m3) _ w2.heap.size _ (unhide R3) (unhide O3) (by rw [List.map_take]; exact (unhide I3).1.take m3) (unhide LW m3)).mono ?_
      rintro e w4 ⟨a4, n4, c4, l4, ok, rfl, hb, o4, u4⟩
      replace HB := hide (below_on (unhide HB) hb)
      have O4 := hide (o4.wide s2 (Nat.le_refl _))
      have U4 := hide u4
      clear hb o4 u4
      go_wp2
      go_ret2
      exact ⟨_, _, _, l4, ok, rfl, unhide HB, unhide O4, .inl ⟨rfl, us.map Prod.snd, m3, (unhide I3).1, (unhide I3).2, unhide U4⟩⟩
theorem AddPI4 (a : Option Addr) (n c : Nat) (l : List (QV × QD)) (a' : Option Addr) (n' c' : Nat) (l' : List (QV × QD)) (w : World) (h : PArQ w a n c l) (h' : PArQ w a' n' c' l') :
    Calls Try.prog 61 #[.slice a n c, .slice a' n' c'] w (RetPo w (AnsS4 (gP (l.map Prod.snd) && gP (l'.map Prod.snd)) (sums (goods (l.map Prod.snd)) (goods (l'.map Prod.snd)) (max n n')))) := by
  have HS := hide h
  have HS' := hide h'
  clear h h'
  go_enter Try.func61, Try.ntmps61
  go_wp2_with fail
  refine (ofAdd4 a n c l a' n' c' l' _ (unhide HS) (unhide HS')).mono ?_
  rintro e w1 ⟨a3, n3, c3, l3, ok, rfl, hb, o3, u3⟩
  have HB := hide hb
  have O3 := hide o3
  have U3 := hide u3
  clear hb o3 u3
  go_wp2
  go_ret2
  exact ⟨_, _, _, l3, ok, rfl, unhide HB, unhide O3, unhide U3⟩
end Go.Proofs.Ytfmjbpfnhgkhkaa
namespace Go.Proofs.Ytfmjbpfnhgkhkaa
open Go.RowKit
set_option linter.unusedVariables false
set_option maxRecDepth 100000
set_option linter.unusedSimpArgs false

theorem markRk (k : Int) (B E : Nat) (a : Option Addr) (n c : Nat) (l : List (QV × QD)) (w : World) (h : PRo B E w a n c l) (hE : E ≤ w.heap.size) (k0 : 0 ≤ k) (k1 : k + 2 * (n : Int) + (lenPQ l : Int) ≤ 3900000) :
    Calls Try.prog 59 #[.slice a n c, .int .i64 k] w fun e w' => e = .returned (.int .i64 (enK k l)) ∧ But B E w w' ∧ PRo B E w' a n c (mkP k l) := by
  have hs := h.sz
  rcases h.row with e | ⟨G, lo, hi, e, h1, h2, h3, h4, h5, h6⟩
  · have hl : l = [] := List.length_eq_zero_iff.1 (by rw [h.len]; exact e)
    subst hl e
    refine (markP0 a c k w).mono ?_
    rintro e w' ⟨rfl, rfl⟩
    exact ⟨rfl, But.refl _ _ _, ⟨rfl, by simp [mkP, lenPQ], fun p hp => (by cases hp), .inl rfl⟩⟩
  · subst e
    refine (markP G n c l k lo hi w h5 h6 h.len h.ml h2 h3 k0 k1).mono ?_
    rintro e w' ⟨rfl, hb, hr, ho⟩
    exact ⟨rfl, hb.wide h1 h4, ⟨by rw [mkP_len]; exact h.len, by rw [mkP_lenP]; exact h.sz, mkP_ml k h.ml, .inr ⟨G, lo, hi, rfl, h1, h2, h3, h4, hr, ho⟩⟩⟩
end Go.Proofs.Ytfmjbpfnhgkhkaa
namespace Go.Proofs.Ytfmjbpfnhgkhkaa
open Go.RowKit
set_option linter.unusedVariables false
set_option maxRecDepth 100000
set_option linter.unusedSimpArgs false

set_option maxRecDepth 100000 in
set_option maxHeartbeats 16000000 in
theorem lawAddP_walk (a0 : Option Addr) (n0 c0 : Nat) (l0 : List (QV × QD)) (a1 : Option Addr) (n1 c1 : Nat) (l1 : List (QV × QD)) (w : World) (h0 : PSlQ w a0 l0) (hn0 : l0.length = n0) (h1 : PSlQ w a1 l1) (hn1 : l1.length = n1) (hm0 : n0 ≤ maxLen) (ml0 : ∀ p ∈ l0, p.1.num.n ≤ maxLen ∧ p.1.den.n ≤ maxLen) (hm1 : n1 ≤ maxLen) (ml1 : ∀ p ∈ l1, p.1.num.n ≤ maxLen ∧ p.1.den.n ≤ maxLen) :
    Calls Try.prog 12 #[.slice a0 n0 c0, .slice a1 n1 c1] w fun e w' => e = .returned (.bool true) ∧ Below w.heap.size w w' := by
  obtain ⟨U, HU⟩ : ∃ U : List QD → Bool → Prop, Hid (U = AnsS4 (gP (l0.map Prod.snd) && gP (l1.map Prod.snd)) (sums (goods (l0.map Prod.snd)) (goods (l1.map Prod.snd)) (max l0.length l1.length))) := ⟨_, hide rfl⟩
  have US : Hid (∀ d ok d' ok', U d ok → U d' ok' → d = d' ∧ ok = ok') := hide (by rw [unhide HU]; exact fun d ok d' ok' h k => h.same k)
  have CS : Hid (∀ (a0 : Option Addr) (n0 c0 : Nat) (k0 : List (QV × QD)) (a1 : Option Addr) (n1 c1 : Nat) (k1 : List (QV × QD)) (w : World), PArQ w a0 n0 c0 k0 → k0.map Prod.snd = l0.map Prod.snd → PArQ w a1 n1 c1 k1 → k1.map Prod.snd = l1.map Prod.snd → Calls Try.prog 60 #[.slice a0 n0 c0, .slice a1 n1 c1] w (RetPr w U)) := hide (by rw [unhide HU]; exact fun a0 n0 c0 k0 a1 n1 c1 k1 w h0 e0 h1 e1 => by have t := AddPS4 a0 n0 c0 k0 a1 n1 c1 k1 w h0 h1; have q0 := congrArg List.length e0; have q1 := congrArg List.length e1; simp only [List.length_map] at q0 q1; rw [← h0.len, ← h1.len, q0, q1, e0, e1] at t; rw [← h0.len, ← h1.len, q0, q1]; exact t)
  have CI : Hid (∀ (a0 : Option Addr) (n0 c0 : Nat) (k0 : List (QV × QD)) (a1 : Option Addr) (n1 c1 : Nat) (k1 : List (QV × QD)) (w : World), PArQ w a0 n0 c0 k0 → k0.map Prod.snd = l0.map Prod.snd → PArQ w a1 n1 c1 k1 → k1.map Prod.snd = l1.map Prod.snd → Calls Try.prog 61 #[.slice a0 n0 c0, .slice a1 n1 c1] w (RetPo w U)) := hide (by rw [unhide HU]; exact fun a0 n0 c0 k0 a1 n1 c1 k1 w h0 e0 h1 e1 => by have t := AddPI4 a0 n0 c0 k0 a1 n1 c1 k1 w h0 h1; have q0 := congrArg List.length e0; have q1 := congrArg List.length e1; simp only [List.length_map] at q0 q1; rw [← h0.len, ← h1.len, q0, q1, e0, e1] at t; rw [← h0.len, ← h1.len, q0, q1]; exact t)
  clear HU
  have SZ0 := hide (fun w1 (left : Int) (b0 : 0 ≤ left) (b1 : left ≤ 1048576) (k : PSlQ w1 a0 l0) => szPQ a0 n0 c0 l0 left w1 k hn0 hm0 ml0 b0 b1)
  have HS0 := hide h0
  have HN0 := hide hn0
  have SZ1 := hide (fun w1 (left : Int) (b0 : 0 ≤ left) (b1 : left ≤ 1048576) (k : PSlQ w1 a1 l1) => szPQ a1 n1 c1 l1 left w1 k hn1 hm1 ml1 b0 b1)
  have HS1 := hide h1
  have HN1 := hide hn1
  clear h0 hn0 hm0 ml0 h1 hn1 hm1 ml1
  go_enter Try.func12, Try.ntmps12
  have HB := hide (Below.refl w.heap.size w)
  go_wp2_with fail
  refine (unhide SZ0 _ 1048576 (by omega) (by omega) ((unhide HS0).later (unhide HB))).mono ?_
  rintro e ws0 ⟨r0, rfl, hb, hr⟩
  replace HB := hide (below_on (unhide HB) hb)
  clear hb SZ0
  by_cases hneg : r0 < 0
  · clear hr
    go_wp2
    go_ret
    exact ⟨rfl, unhide HB⟩
  have e0 : Hid (r0 = 1048576 - (n0 : Int) - (lenPQ l0 : Int)) := hide (by
    rcases hr with e | e
    · exact absurd (show r0 < 0 by omega) hneg
    · exact e.2)
  clear hr
  have b0 : r0 ≤ 1048576 := by have := unhide e0; omega
  have p0 : 0 ≤ r0 := by omega
  clear hneg
  have q0 : ¬ (r0 < 0) := by omega
  go_wp2_with fail
  refine (unhide SZ1 _ r0 (by omega) (by omega) ((unhide HS1).later (unhide HB))).mono ?_
  rintro e ws1 ⟨r1, rfl, hb, hr⟩
  replace HB := hide (below_on (unhide HB) hb)
  clear hb SZ1
  by_cases hneg : r1 < 0
  · clear hr
    go_wp2
    go_ret
    exact ⟨rfl, unhide HB⟩
  have e1 : Hid (r1 = r0 - (n1 : Int) - (lenPQ l1 : Int)) := hide (by
    rcases hr with e | e
    · exact absurd (show r1 < 0 by omega) hneg
    · exact e.2)
  clear hr
  have b1 : r1 ≤ 1048576 := by have := unhide e1; omega
  have p1 : 0 ≤ r1 := by omega
  have M0 : Hid (∀ p ∈ l0, p.1.num.n ≤ 1048576 ∧ p.1.den.n ≤ 1048576) := hide (fun p hp => by have h1 := lenPQ_mem hp; have h2 : lenQ p = p.1.num.n + p.1.den.n := rfl; have := unhide e0; have := unhide e1; omega)
  have Z0 : Hid (2 * n0 + lenPQ l0 ≤ 3200000) := hide (by have := unhide e0; have := unhide e1; omega)
  have TT0 := hide (fun w1 (k : PSlQ w1 a0 l0) => toPQ a0 n0 c0 l0 w1 k (unhide HN0) (by have := unhide e0; have := unhide e1; omega) (unhide M0))
  have M1 : Hid (∀ p ∈ l1, p.1.num.n ≤ 1048576 ∧ p.1.den.n ≤ 1048576) := hide (fun p hp => by have h1 := lenPQ_mem hp; have h2 : lenQ p = p.1.num.n + p.1.den.n := rfl; have := unhide e0; have := unhide e1; omega)
  have Z1 : Hid (2 * n1 + lenPQ l1 ≤ 3200000) := hide (by have := unhide e0; have := unhide e1; omega)
  have TT1 := hide (fun w1 (k : PSlQ w1 a1 l1) => toPQ a1 n1 c1 l1 w1 k (unhide HN1) (by have := unhide e0; have := unhide e1; omega) (unhide M1))
  go_wp2_with fail
  refine (unhide TT0 _ ((unhide HS0).later (unhide HB))).mono ?_
  rintro e ws0 ⟨ls0, rfl, hb, zs0, ds0, os0⟩
  have szs0 := hb.size
  replace HB := hide (below_on (unhide HB) hb)
  have Ds0 := hide ds0
  have Os0 := hide os0
  clear hb ds0 os0
  go_wp2_with fail
  refine (unhide TT1 _ ((unhide HS1).later (unhide HB))).mono ?_
  rintro e ws1 ⟨ls1, rfl, hb, zs1, ds1, os1⟩
  have szs1 := hb.size
  replace Os0 := hide ((unhide Os0).later hb)
  replace HB := hide (below_on (unhide HB) hb)
  have Ds1 := hide ds1
  have Os1 := hide os1
  clear hb ds1 os1
  go_wp2_with fail
  refine (unhide CS _ _ _ _ _ _ _ _ _ (unhide Os0).arg (unhide Ds0) (unhide Os1).arg (unhide Ds1)).mono ?_
  rintro e wv ⟨av, nv, cv, lv, okv, rfl, hb, sv', lnv, uv⟩
  replace HB := hide (below_on (unhide HB) hb)
  have SV := hide sv'
  have LV := hide lnv
  have UV := hide uv
  have yv := hb.size
  have yw := (unhide HB).size
  clear hb sv' lnv uv Os0 Ds0 Os1 Ds1
  have HV := hide (Below.refl wv.heap.size wv)
  go_wp2_with fail
  refine (unhide TT0 _ ((unhide HS0).later (unhide HB))).mono ?_
  rintro e wx0 ⟨lx0, rfl, hb, zx0, dx0, ox0⟩
  have szx0 := hb.size
  replace HB := hide (below_on (unhide HB) hb)
  replace HV := hide (below_on (unhide HV) hb)
  have Dx0 := hide dx0
  have Ox0 := hide ox0
  clear hb dx0 ox0
  go_wp2_with fail
  refine (unhide TT1 _ ((unhide HS1).later (unhide HB))).mono ?_
  rintro e wx1 ⟨lx1, rfl, hb, zx1, dx1, ox1⟩
  have szx1 := hb.size
  replace Ox0 := hide ((unhide Ox0).later hb)
  replace HB := hide (below_on (unhide HB) hb)
  replace HV := hide (below_on (unhide HV) hb)
  have Dx1 := hide dx1
  have Ox1 := hide ox1
  clear hb dx1 ox1
  go_wp2_with fail
  refine (unhide CI _ _ _ _ _ _ _ _ _ (unhide Ox0).arg (unhide Dx0) (unhide Ox1).arg (unhide Dx1)).mono ?_
  rintro e wg ⟨ag, ng, cg, lg, okg, rfl, hb, og, ug⟩
  obtain ⟨e1, e2⟩ := unhide US _ _ _ _ (unhide UV) ug
  subst e2
  replace Ox0 := hide ((unhide Ox0).later hb)
  replace Ox1 := hide ((unhide Ox1).later hb)
  replace HB := hide (below_on (unhide HB) hb)
  replace HV := hide (below_on (unhide HV) hb)
  have DG := hide e1
  have OG := hide og
  have yg := hb.size
  clear hb og ug e1
  have hng : Hid (ng = nv) := hide (by rw [← (unhide OG).len, ← unhide LV]; have h := congrArg List.length (unhide DG); simpa using h.symm)
  obtain rfl := unhide hng
  clear hng
  have PX0 : Hid (PRo wv.heap.size wx0.heap.size wg (some ⟨wv.heap.size, 0, none⟩) n0 n0 lx0) := hide ((unhide Ox0).ro (Nat.lt_succ_self _) (by omega) (by rw [lenPQ_snd (unhide Ox0).arg.sl (unhide HS0) (unhide Dx0)]; exact unhide Z0) (ml_snd (unhide Ox0).arg.sl (unhide HS0) (unhide Dx0) (unhide M0)))
  have ZL0 := hide (lenPQ_snd (unhide Ox0).arg.sl (unhide HS0) (unhide Dx0))
  have PX1 : Hid (PRo wx0.heap.size wx1.heap.size wg (some ⟨wx0.heap.size, 0, none⟩) n1 n1 lx1) := hide ((unhide Ox1).ro (Nat.lt_succ_self _) (by omega) (by rw [lenPQ_snd (unhide Ox1).arg.sl (unhide HS1) (unhide Dx1)]; exact unhide Z1) (ml_snd (unhide Ox1).arg.sl (unhide HS1) (unhide Dx1) (unhide M1)))
  have ZL1 := hide (lenPQ_snd (unhide Ox1).arg.sl (unhide HS1) (unhide Dx1))
  clear Ox0 Ox1
  have HG : (okv == okv) = true := by simp
  go_wp2_with fail
  refine (eqPQ _ _ _ _ _ lg lv _ (unhide OG).sl ((unhide SV).later (unhide HV)) (unhide OG).len ((unhide DG).symm) (unhide OG).max (unhide OG).lens).mono ?_
  rintro e w31 ⟨rfl, hb⟩
  have sz31 := hb.size
  replace OG := hide ((unhide OG).later hb)
  replace PX0 := hide ((unhide PX0).later hb)
  replace PX1 := hide ((unhide PX1).later hb)
  replace HB := hide (below_on (unhide HB) hb)
  replace HV := hide (below_on (unhide HV) hb)
  clear hb
  go_wp2_with fail
  refine (unhide TT0 _ ((unhide HS0).later (unhide HB))).mono ?_
  rintro e wy0 ⟨ly0, rfl, hb, zy0, dy0, oy0⟩
  have szy0 := hb.size
  replace OG := hide ((unhide OG).later hb)
  replace PX0 := hide ((unhide PX0).later hb)
  replace PX1 := hide ((unhide PX1).later hb)
  replace HB := hide (below_on (unhide HB) hb)
  replace HV := hide (below_on (unhide HV) hb)
  have Dy0 := hide dy0
  have Oy0 := hide oy0
  clear hb dy0 oy0
  go_wp2_with fail
  refine (eqPQ _ _ n0 _ _ lx0 ly0 _ (unhide PX0).sl (unhide Oy0).arg.sl (unhide PX0).len ((unhide Dx0).trans (unhide Dy0).symm) (unhide PX0).max (unhide PX0).lens).mono ?_
  rintro e w32_0 ⟨rfl, hb⟩
  have sz32_0 := hb.size
  replace OG := hide ((unhide OG).later hb)
  replace PX0 := hide ((unhide PX0).later hb)
  replace PX1 := hide ((unhide PX1).later hb)
  replace HB := hide (below_on (unhide HB) hb)
  replace HV := hide (below_on (unhide HV) hb)
  clear hb Oy0 Dy0 zy0
  go_wp2_with fail
  refine (unhide TT1 _ ((unhide HS1).later (unhide HB))).mono ?_
  rintro e wy1 ⟨ly1, rfl, hb, zy1, dy1, oy1⟩
  have szy1 := hb.size
  replace OG := hide ((unhide OG).later hb)
  replace PX0 := hide ((unhide PX0).later hb)
  replace PX1 := hide ((unhide PX1).later hb)
  replace HB := hide (below_on (unhide HB) hb)
  replace HV := hide (below_on (unhide HV) hb)
  have Dy1 := hide dy1
  have Oy1 := hide oy1
  clear hb dy1 oy1
  go_wp2_with fail
  refine (eqPQ _ _ n1 _ _ lx1 ly1 _ (unhide PX1).sl (unhide Oy1).arg.sl (unhide PX1).len ((unhide Dx1).trans (unhide Dy1).symm) (unhide PX1).max (unhide PX1).lens).mono ?_
  rintro e w32_1 ⟨rfl, hb⟩
  have sz32_1 := hb.size
  replace OG := hide ((unhide OG).later hb)
  replace PX0 := hide ((unhide PX0).later hb)
  replace PX1 := hide ((unhide PX1).later hb)
  replace HB := hide (below_on (unhide HB) hb)
  replace HV := hide (below_on (unhide HV) hb)
  clear hb Oy1 Dy1 zy1
  have gz := (unhide HB).size
  have gv := (unhide HV).size
  have LX : Hid ((1 : Int) + 2 * (n0 : Int) + (lenPQ lx0 : Int) + 2 * (n1 : Int) + (lenPQ lx1 : Int) ≤ 3900000) := hide (by have q0 := unhide ZL0; have q1 := unhide ZL1; have := unhide e0; have := unhide e1; omega)
  have NX : Hid (lx0.length = n0 ∧ lx1.length = n1) := hide ⟨(unhide PX0).len, (unhide PX1).len⟩
  go_wp2_with fail
  refine (markRk (1) _ _ _ n0 n0 lx0 _ (unhide PX0) (by omega) (by omega) (by have := unhide LX; have := unhide NX; omega)).mono ?_
  rintro e wm0 ⟨rfl, hbt, _⟩
  have szm0 := hbt.size
  replace OG := hide ((unhide OG).but hbt (.inr (by omega)))
  replace HB := hide (hbt.below (unhide HB) (by omega) (unhide HB).size)
  replace HV := hide (hbt.below (unhide HV) (by omega) (unhide HV).size)
  replace PX1 := hide ((unhide PX1).but hbt (.inr (by omega)))
  clear hbt PX0
  go_wp2_with fail
  refine (markRk (enK 1 lx0) _ _ _ n1 n1 lx1 _ (unhide PX1) (by omega) (by rw [enK_eq]; omega) (by have := unhide LX; have := unhide NX; rw [enK_eq]; omega)).mono ?_
  rintro e wm1 ⟨rfl, hbt, _⟩
  have szm1 := hbt.size
  replace OG := hide ((unhide OG).but hbt (.inr (by omega)))
  replace HB := hide (hbt.below (unhide HB) (by omega) (unhide HB).size)
  replace HV := hide (hbt.below (unhide HV) (by omega) (unhide HV).size)
  clear hbt PX1
  have hk0 : decide (enK (enK 1 lx0) lx1 < 0) = false := decide_eq_false (by rw [enK_eq, enK_eq]; omega)
  go_wp2_with fail
  refine (eqPQ _ _ _ _ _ lg lv _ (unhide OG).sl ((unhide SV).later (unhide HV)) (unhide OG).len ((unhide DG).symm) (unhide OG).max (unhide OG).lens).mono ?_
  rintro e w41 ⟨rfl, hb⟩
  have sz41 := hb.size
  replace OG := hide ((unhide OG).later hb)
  replace HB := hide (below_on (unhide HB) hb)
  replace HV := hide (below_on (unhide HV) hb)
  clear hb
  clear hk0
  have G41 : Hid (wg.heap.size ≤ w41.heap.size) := hide (by omega)
  go_wp2_with fail
  refine (markR _ _ _ _ _ lg _ (unhide OG) (unhide G41)).mono ?_
  rintro e wm1 ⟨rfl, hbt, om⟩
  have LG := hide (And.intro (unhide OG).sz (unhide OG).ml)
  have nk : ¬ (enK 1 lg < 0) := by rw [enK_eq]; omega
  replace HB := hide (hbt.below (unhide HB) (by omega) (unhide HB).size)
  replace HV := hide (hbt.below (unhide HV) (by omega) (unhide HV).size)
  replace OG := hide om
  clear hbt om
  go_wp2_with fail
  refine (heldR _ _ _ _ _ lg _ (unhide OG) (unhide LG).1 (unhide LG).2).mono ?_
  rintro e wh1 ⟨rfl, rfl⟩
  go_wp2_with fail
  refine (unhide TT0 _ ((unhide HS0).later (unhide HB))).mono ?_
  rintro e wh0 ⟨lh0, rfl, hb, zh0, dh0, oh0⟩
  have szh0 := hb.size
  replace OG := hide ((unhide OG).later hb)
  replace HB := hide (below_on (unhide HB) hb)
  replace HV := hide (below_on (unhide HV) hb)
  have Dh0 := hide dh0
  have Oh0 := hide oh0
  clear hb dh0 oh0
  go_wp2_with fail
  refine (unhide TT1 _ ((unhide HS1).later (unhide HB))).mono ?_
  rintro e wh1 ⟨lh1, rfl, hb, zh1, dh1, oh1⟩
  have szh1 := hb.size
  replace OG := hide ((unhide OG).later hb)
  replace Oh0 := hide ((unhide Oh0).later hb)
  replace HB := hide (below_on (unhide HB) hb)
  replace HV := hide (below_on (unhide HV) hb)
  have Dh1 := hide dh1
  have Oh1 := hide oh1
  clear hb dh1 oh1
  go_wp2_with fail
  refine (unhide CI _ _ _ _ _ _ _ _ _ (unhide Oh0).arg (unhide Dh0) (unhide Oh1).arg (unhide Dh1)).mono ?_
  rintro e wh ⟨ah, nh, ch, lh, okh, rfl, hb, oh, uh⟩
  obtain ⟨e1, e2⟩ := unhide US _ _ _ _ (unhide UV) uh
  subst e2
  replace OG := hide ((unhide OG).later hb)
  replace HB := hide (below_on (unhide HB) hb)
  replace HV := hide (below_on (unhide HV) hb)
  have DH := hide e1
  have OH := hide oh
  clear hb oh uh e1 Oh0 Dh0 Oh1 Dh1
  have hnh : Hid (nh = ng) := hide (by rw [← (unhide OH).len, ← unhide LV]; have h := congrArg List.length (unhide DH); simpa using h.symm)
  obtain rfl := unhide hnh
  clear hnh
  go_wp2_with fail
  refine (eqPQ _ _ _ _ _ lh lv _ (unhide OH).sl ((unhide SV).later (unhide HV)) (unhide OH).len ((unhide DH).symm) (unhide OH).max (unhide OH).lens).mono ?_
  rintro e w51 ⟨rfl, hb⟩
  replace OG := hide ((unhide OG).later hb)
  replace OH := hide ((unhide OH).later hb)
  replace HB := hide (below_on (unhide HB) hb)
  replace HV := hide (below_on (unhide HV) hb)
  clear hb
  go_wp2_with fail
  refine (heldR _ _ _ _ _ lg _ (unhide OG) (unhide LG).1 (unhide LG).2).mono ?_
  rintro e wh2 ⟨rfl, rfl⟩
  go_wp2
  go_ret
  exact ⟨rfl, unhide HB⟩
end Go.Proofs.Ytfmjbpfnhgkhkaa
namespace Go.Proofs.Ytfmjbpfnhgkhkaa
open Go.ChangeShapes Go.WideShapes Go.ChangeAt Go.RowKit Go.Joins
set_option linter.unusedVariables false
set_option maxRecDepth 100000
set_option linter.unusedSimpArgs false

theorem open_ratc {H : Type} {enc : TypeId × Value → H} {W : World} {m : Nat} {c0 c1 c2 c3 : Value} {x : DataW H × List MemPlace}
    (hf : DataW.trod enc Try.prog W 0 (fun _ => true) true m 34 [c0, c1, c2, c3] = some x) :
    ∃ p : QV × QD, (c0 = .bool p.1.num.g ∧ c1 = .slice p.1.num.a p.1.num.n p.1.num.c ∧ c2 = .bool p.1.den.g ∧ c3 = .slice p.1.den.a p.1.den.n p.1.den.c) ∧ AllSl W [(p.1.num, p.2.num), (p.1.den, p.2.den)] ∧ p.1.num.n ≤ maxLen ∧ p.1.den.n ≤ maxLen := by
  obtain ⟨y0, y1, n, hx, _, h0, h1⟩ := trod_struct2 Try.underlying34 hf
  have k0 : DataW.trod enc Try.prog W 0 (fun _ => true) true n 24 [c0, c1] = some y0 := by simpa [Value.cells, Try.cells24] using h0
  have k1 : DataW.trod enc Try.prog W 0 (fun _ => true) true n 24 [c2, c3] = some y1 := by simpa [Value.cells, Try.cells24] using h1
  obtain ⟨z0, z1, n1, _, _, p0, p1⟩ := trod_struct2 Try.underlying24 k0
  obtain ⟨z2, z3, n2, _, _, p2, p3⟩ := trod_struct2 Try.underlying24 k1
  have c_b : Try.prog.cellsOf 4 = 1 := by kernel_rfl
  have c_s : Try.prog.cellsOf 22 = 1 := by kernel_rfl
  obtain ⟨g, a, n', c, xs, rfl, rfl, s1, s2, s3, _⟩ := open_two (c0 := c0) (c1 := c1) (by simpa [c_b] using p0) (by simpa [c_s] using p1)
  obtain ⟨h, b, q, e, us, rfl, rfl, t1, t2, t3, _⟩ := open_two (c0 := c2) (c1 := c3) (by simpa [c_b] using p2) (by simpa [c_s] using p3)
  exact ⟨(⟨⟨g, a, n', c⟩, ⟨h, b, q, e⟩⟩, ⟨⟨g, xs⟩, ⟨h, us⟩⟩), ⟨rfl, rfl, rfl, rfl⟩, AllSl.cons ⟨rfl, s1, s2⟩ (AllSl.cons ⟨rfl, t1, t2⟩ (AllSl.nil _)), s3, t3⟩
theorem addr_add (b off k : Nat) : (⟨b, off, none⟩ : Addr).add k = ⟨b, off + k, none⟩ := by
  unfold Addr.add
  split
  · rename_i h; subst h; rfl
  · rfl
theorem addr_add_block (a : Addr) (k : Nat) : (a.add k).block = a.block := by unfold Addr.add; split <;> rfl
theorem open_PQ {H : Type} {enc : TypeId × Value → H} {W : World} {r : Reach} {b0 : Nat} {v : Value} {d : DataW H} {p : List MemPlace}
    (hv : Value.okWide Try.prog W r b0 68 v) (h : DataW.Trod enc Try.prog W 0 (fun _ => true) true 68 v d p) :
    ∃ (a : Option Addr) (n c : Nat) (l : List (QV × QD)), v = .slice a n c ∧ PSlQ W a l ∧ l.length = n ∧ n ≤ maxLen ∧ ∀ p ∈ l, p.1.num.n ≤ maxLen ∧ p.1.den.n ≤ maxLen := by
  obtain ⟨a, n, c, rfl⟩ := okWide_slice Try.underlying68 hv
  obtain ⟨fuel, hf⟩ := h
  rcases Go.Deep.open_slice Try.underlying68 hf with ⟨hcs, _⟩ | ⟨a', len, cap, m, n', D, Pl, hcs, _, hl, hm, hmm, _, hx⟩
  · simp only [Value.cells, List.cons.injEq, Value.slice.injEq, and_true] at hcs
    obtain ⟨rfl, rfl, rfl⟩ := hcs
    exact ⟨none, 0, 0, [], rfl, ⟨.inl rfl, fun p hp => by cases hp⟩, rfl, Nat.zero_le _, fun p hp => by cases hp⟩
  · simp only [Value.cells, List.cons.injEq, Value.slice.injEq, and_true] at hcs
    obtain ⟨rfl, rfl, rfl⟩ := hcs
    simp only [if_true] at hmm
    subst hmm
    have each : ∀ i, i < n → ∃ p : QV × QD, (W.cell? ((a'.add (i * 4)).add 0) = some (.bool p.1.num.g) ∧ W.cell? ((a'.add (i * 4)).add 1) = some (.slice p.1.num.a p.1.num.n p.1.num.c) ∧ W.cell? ((a'.add (i * 4)).add 2) = some (.bool p.1.den.g) ∧ W.cell? ((a'.add (i * 4)).add 3) = some (.slice p.1.den.a p.1.den.n p.1.den.c)) ∧ AllSl W [(p.1.num, p.2.num), (p.1.den, p.2.den)] ∧ p.1.num.n ≤ maxLen ∧ p.1.den.n ≤ maxLen := by
      intro i hi
      obtain ⟨cs, h1, h2⟩ := hx i (by omega)
      rw [Try.cells34] at h1
      obtain ⟨_, h3, h4⟩ := World.cells?_some h1
      match cs, h3 with
      | [c0, c1, c2, c3], _ =>
        obtain ⟨p, ⟨rfl, rfl, rfl, rfl⟩, hp⟩ := open_ratc h2
        exact ⟨p, ⟨h4 0 (by omega), h4 1 (by omega), h4 2 (by omega), h4 3 (by omega)⟩, hp⟩
    have inh : Inhabited (QV × QD) := ⟨(⟨⟨false, none, 0, 0⟩, ⟨false, none, 0, 0⟩⟩, ⟨⟨false, []⟩, ⟨false, []⟩⟩)⟩
    obtain ⟨f, hf⟩ := Go.Deep.choose_lt each
    refine ⟨some a', n, m, (List.range n).map f, rfl, ⟨?_, ?_⟩, by simp, Nat.le_trans hl hm, ?_⟩
    · by_cases h0 : n = 0
      · subst h0; exact .inl rfl
      · obtain ⟨b, off, spot⟩ := a'
        have hc := (hf 0 (by omega)).1.1
        have hspot : spot = none := by simpa [Addr.add] using World.cell?_spot hc
        subst hspot
        refine .inr ⟨b, off, rfl, ?_, fun i hi => ?_⟩
        · have := World.block_lt_of_cell? _ _ hc
          rw [addr_add, addr_add] at this
          exact this
        · have hi' : i < n := by simpa using hi
          have h1 := (hf i hi').1
          rw [addr_add, addr_add, addr_add, addr_add, addr_add] at h1
          simpa using h1
    · intro p hp
      obtain ⟨i, hi, rfl⟩ := List.mem_map.1 hp
      exact (hf i (List.mem_range.1 hi)).2.1
    · intro p hp
      obtain ⟨i, hi, rfl⟩ := List.mem_map.1 hp
      exact (hf i (List.mem_range.1 hi)).2.2
end Go.Proofs.Ytfmjbpfnhgkhkaa
namespace Go.Proofs.Ytfmjbpfnhgkhkaa
open Go.ChangeShapes Go.WideShapes Go.ChangeAt Go.RowKit Go.Joins
set_option linter.unusedVariables false
set_option maxRecDepth 100000
set_option linter.unusedSimpArgs false

set_option maxRecDepth 100000 in
theorem addP_holds_lifted (os : Os) (started : os.Started) (H : Type) (enc : TypeId × Value → H) :
    ReturnsInHanded {} Try.checked os 12 .any (Rows.fnExactAddPolySpec.pre6 enc Try.prog Try.f12 Rows.fnExactAddPolyRow.domain false) (Rows.fnExactAddPolySpec.post enc Try.prog Try.f12 false true false false) := by
  refine returnsInHanded_of_change (C := Try.checked) own started (by kernel_rfl) Try.func12
    (ChangeSpec.witness6 (enc := enc) (C := Try.checked) false ⟨#[], #[.slice none 0 0, .slice none 0 0], []⟩ 8 (by kernel_rfl) (by kernel_rfl) (by kernel_rfl) (by kernel_rfl)) ?_
  intro W base args ds gs before hval0 hW hcnd _
  have hval : ∀ (j : Nat) t v, Try.f12.params[j]? = some t → args[j]? = some v → Value.okWide Try.prog W .any base t v := hval0
  have hW' := hW
  obtain ⟨p, q, hA0, hV, rfl, hfz, hnd⟩ := hW
  have hA : DataW.TrodAll enc Try.prog W 0 (fun _ => true) true Try.f12.params.toList args.toList ds p := hA0
  rw [Try.params12] at hA hval
  obtain ⟨v0, vs0, d0, ds0, p0, q0, hargs, rfl, rfl, h0, r0⟩ := trodAll_cons hA
  obtain ⟨v1, vs1, d1, ds1, p1, q1, rfl, rfl, rfl, h1, r1⟩ := trodAll_cons r0
  obtain ⟨rfl, rfl, rfl⟩ := trodAll_nil r1
  obtain rfl : args = #[v0, v1] := by cases args; simp_all
  obtain ⟨rfl, rfl⟩ := trodVars_none hV
  have lt0 : ∀ x ∈ p0, x.block < W.heap.size := by obtain ⟨m, hm⟩ := h0; exact DataW.trod_lt m _ _ _ hm
  obtain ⟨a0, n0, c0, l0, rfl, sl0, hn0, hm0, ml0⟩ := open_PQ (hval 0 68 v0 rfl rfl) h0
  have lt1 : ∀ x ∈ p1, x.block < W.heap.size := by obtain ⟨m, hm⟩ := h1; exact DataW.trod_lt m _ _ _ hm
  obtain ⟨a1, n1, c1, l1, rfl, sl1, hn1, hm1, ml1⟩ := open_PQ (hval 1 68 v1 rfl rfl) h1
  clear hA0 hval0
  refine (lawAddP_walk a0 n0 c0 l0 a1 n1 c1 l1 W sl0 hn0 sl1 hn1 hm0 ml0 hm1 ml1).mono fun e W' ⟨he, bel⟩ => ?_
  subst he
  exact ⟨_, rfl, _, _, _, [], _, [], hW', trodAll_mk1 (shut_bool Try.underlying4 _), (trodAll_cons_mk (Below.trod laidOut (by kernel_rfl) (of_decide_eq_true (by kernel_rfl)) h0 bel lt0) (trodAll_cons_mk (Below.trod laidOut (by kernel_rfl) (of_decide_eq_true (by kernel_rfl)) h1 bel lt1) trodAll_mk0)), rfl, bel.frame _, fun h => by cases h⟩

theorem addP_holds_c0 : (Rows.fnExactAddPolyRow.wf (OpenSpec.ofChange Rows.fnExactAddPolySpec)) = true := by kernel_rfl
theorem addP_holds_c1 : (laidOutB Try.pinned.checked.prog) = true := by kernel_rfl
theorem addP_holds_c2 : (mapsRowed Try.pinned.checked.prog) = true := by kernel_rfl
theorem addP_holds_c3 : (Try.f12.params.all (Try.pinned.checked.prog.readableRec ·)) = true := by kernel_rfl
theorem addP_holds_c4 : (namedTie Try.pinned.checked.prog Rows.fnExactAddPolyRow.named Rows.fnExactAddPolySpec.vars) = true := by kernel_rfl
theorem addP_holds_c5 : (Rows.fnExactAddPolyRow.stops == []) = true := by kernel_rfl
theorem addP_holds_c6 : (Try.pinned.checked.prog.stops == []) = true := by kernel_rfl
theorem addP_holds_c7 : (Rows.fnExactAddPolyRow.knobs == []) = true := by kernel_rfl
theorem addP_holds_c8 : (Try.pinned.checked.prog.stopKnobs == []) = true := by kernel_rfl
theorem addP_holds_c9 : (Rows.fnExactAddPolyRow.inPlace == Try.pinned.checked.prog.inPlace 12) = true := by kernel_rfl
theorem addP_holds_c10 : (Rows.fnExactAddPolyRow.unfollowed == Try.pinned.checked.prog.unfollowed 12) = true := by kernel_rfl
theorem addP_holds_c11 : (Rows.fnExactAddPolyRow.recurses == Try.pinned.checked.prog.recurses 12) = true := by kernel_rfl
theorem addP_holds_c12 : (Rows.fnExactAddPolyRow.named == Try.pinned.checked.prog.varsNamed 12) = true := by kernel_rfl
theorem addP_holds_c13 : (Rows.fnExactAddPolyRow.maps == (Try.f12.params.toList ++ Rows.fnExactAddPolySpec.plain.varTypes Try.pinned.checked.prog).any (Try.pinned.checked.prog.mapsRec ·)) = true := by kernel_rfl
theorem addP_holds_c14 : (Rows.fnExactAddPolyRow.ifaces == (Try.f12.params.toList ++ Rows.fnExactAddPolySpec.plain.varTypes Try.pinned.checked.prog).any (Try.pinned.checked.prog.ifacesRec ·)) = true := by kernel_rfl
theorem addP_holds_c15 : (Rows.fnExactAddPolyRow.mapsOut == Try.pinned.checked.prog.mapsAmong Try.f12.resultTypes.toList) = true := by kernel_rfl
theorem addP_holds_c16 : (Rows.fnExactAddPolyRow.loops == (Try.f12.params.toList ++ Rows.fnExactAddPolySpec.plain.varTypes Try.pinned.checked.prog).any (Try.pinned.checked.prog.loopsFrom ·)) = true := by kernel_rfl
theorem addP_holds_c17 : (Rows.fnExactAddPolyRow.wideKeys == (Try.f12.params.toList ++ Rows.fnExactAddPolySpec.plain.varTypes Try.pinned.checked.prog ++ Try.f12.resultTypes.toList).any (Try.pinned.checked.prog.wideKeysFrom ·)) = true := by kernel_rfl
theorem addP_holds_c18 : (Rows.fnExactAddPolySpec.vars.all (Try.pinned.checked.prog.varReadable ·)) = true := by kernel_rfl
theorem addP_holds_c19 : (Try.f12.resultTypes.all (fun t => Try.pinned.checked.prog.readableRec t && decide (t < Try.pinned.checked.prog.types.size))) = true := by kernel_rfl
theorem addP_holds_c20 : (Rows.fnExactAddPolyRow.ifacesOut == Try.f12.resultTypes.toList.any (Try.pinned.checked.prog.ifacesRec ·)) = true := by kernel_rfl
theorem addP_holds_c21 : (Rows.fnExactAddPolyRow.loopsOut == Try.f12.resultTypes.toList.any (Try.pinned.checked.prog.loopsFrom ·)) = true := by kernel_rfl
theorem addP_holds_c22 : (Rows.fnExactAddPolyRow.plainKeys == Try.pinned.checked.prog.plainKeys) = true := by kernel_rfl
theorem addP_holds_c23 : (Rows.fnExactAddPolyRow.shortTexts.isNone) = true := by kernel_rfl
theorem addP_holds_c24 : (Try.pinned.checked.prog.stopsHeard) = true := by kernel_rfl
theorem addP_holds_c25 : (Try.pinned.checked.prog.mayEnter) = true := io_enter
theorem addP_holds_c26 : (Rows.fnExactAddPolyRow.lifted == Try.pinned.checked.prog.liftsFinal) = true := by rw [io_lifts]; kernel_rfl
theorem addP_holds_c27 : (Try.pinned.checked.prog.make == some Rows.fnExactAddPolyRow.make) = true := by rw [io_make]; kernel_rfl
theorem addP_holds_c28 : (Rows.fnExactAddPolyRow.kinds == (if Rows.fnExactAddPolyRow.domain.isEmpty then [] else Try.f12.params.toList.map fun t => match Try.pinned.checked.prog.underlying t with | some (.int k) => some k | _ => none)) = true := by kernel_rfl
theorem addP_holds_c29 : (Rows.fnExactAddPolyRow.pinned == Rows.fnExactAddPolyRow.pinnedBy) = true := by kernel_rfl
theorem addP_holds_c30 : (Rows.fnExactAddPolyRow.veiled == (Try.f12.params.toList ++ Rows.fnExactAddPolySpec.plain.varTypes Try.pinned.checked.prog ++ Try.f12.resultTypes.toList).any (Try.pinned.checked.prog.veiledRec ·)) = true := by kernel_rfl
theorem addP_holds_c31 : (Rows.fnExactAddPolyRow.veiledFits Try.pinned.checked.prog Try.f12.params.toList (Try.f12.params.toList ++ Rows.fnExactAddPolySpec.plain.varTypes Try.pinned.checked.prog ++ Try.f12.resultTypes.toList)) = true := by kernel_rfl
theorem addP_holds_and {a b : Bool} (h : a = true) (k : b = true) : (a && b) = true := by rw [h, k]; rfl
theorem addP_holds_closed : joinedFacts Try.pinned.checked.prog 12 Try.f12 Rows.fnExactAddPolySpec Rows.fnExactAddPolyRow = true := (addP_holds_and (addP_holds_and (addP_holds_and (addP_holds_and (addP_holds_and (addP_holds_and (addP_holds_and (addP_holds_and (addP_holds_and (addP_holds_and (addP_holds_and (addP_holds_and (addP_holds_and (addP_holds_and (addP_holds_and (addP_holds_and (addP_holds_and (addP_holds_and (addP_holds_and (addP_holds_and (addP_holds_and (addP_holds_and (addP_holds_and (addP_holds_and (addP_holds_and (addP_holds_and (addP_holds_and (addP_holds_and (addP_holds_and (addP_holds_and (addP_holds_and addP_holds_c0 addP_holds_c1) addP_holds_c2) addP_holds_c3) addP_holds_c4) addP_holds_c5) addP_holds_c6) addP_holds_c7) addP_holds_c8) addP_holds_c9) addP_holds_c10) addP_holds_c11) addP_holds_c12) addP_holds_c13) addP_holds_c14) addP_holds_c15) addP_holds_c16) addP_holds_c17) addP_holds_c18) addP_holds_c19) addP_holds_c20) addP_holds_c21) addP_holds_c22) addP_holds_c23) addP_holds_c24) addP_holds_c25) addP_holds_c26) addP_holds_c27) addP_holds_c28) addP_holds_c29) addP_holds_c30) addP_holds_c31)
theorem addP_holds_named : Try.pinned.checked.prog.funcNamed Rows.fnExactAddPolyRow.func = some 12 := by kernel_rfl
theorem addP_holds_inst : Try.f12.isInstance Try.pinned.checked.prog Rows.fnExactAddPolyRow.origin Rows.fnExactAddPolyRow.targs := of_decide_eq_true (by kernel_rfl)
theorem addP_holds_wrap : Try.f12.isWrapper Try.pinned.checked.prog Rows.fnExactAddPolyRow.wrapper Rows.fnExactAddPolyRow.mainSum := by unfold Func.isWrapper; first | (rw [if_pos (by decide +kernel)]; kernel_rfl) | (rw [if_neg (by decide +kernel)]; exact ⟨rfl, rfl⟩)
theorem addP_holds : Rows.FnExactAddPolySaid :=
  OpenClaim.holds_of_wide 12 Try.f12 rfl rfl rfl rfl rfl rfl rfl ⟨rfl, rfl, rfl, rfl, rfl⟩ rfl rfl rfl rfl rfl addP_holds_named Try.func12 addP_holds_closed addP_holds_inst addP_holds_wrap
    (fun os started H enc _ => addP_holds_lifted os started H enc)
#print axioms addP_holds
end Go.Proofs.Ytfmjbpfnhgkhkaa
