/- shiftedPoly of the program. No condition beyond those typed. Written by mkshi.py. -/
import Derived.Test.YtcbmecnipldcfaaGreatPackT6
import Derived.Deep.AppendLies
import Derived.Laws.AppendOwnNone
namespace Go.Proofs.YtcbmecnipldcfaaGreat
open Go.RowKit
set_option linter.unusedVariables false
set_option maxRecDepth 100000
set_option linter.unusedSimpArgs false

/-- What is read is this fraction. -/
structure IsD (c : Int × Int) (d : QD) : Prop where
  g1 : d.num.g = decide (c.1 < 0)
  n1 : Nm d.num.xs c.1.natAbs
  g2 : d.den.g = decide (c.2 < 0)
  n2 : Nm d.den.xs c.2.natAbs
theorem IsD.same {c : Int × Int} {d d' : QD} (h : IsD c d) (k : IsD c d') : d = d' := by
  obtain ⟨⟨g, xs⟩, ⟨g', us⟩⟩ := d
  obtain ⟨⟨q, ys⟩, ⟨q', vs⟩⟩ := d'
  have e1 : g = q := h.g1.trans k.g1.symm
  have e2 : xs = ys := h.n1.same k.n1
  have e3 : g' = q' := h.g2.trans k.g2.symm
  have e4 : us = vs := h.n2.same k.n2
  rw [e1, e2, e3, e4]
/-- .. these fractions. -/
def IsL : List (Int × Int) → List QD → Prop
  | [], [] => True
  | c :: cs, d :: ds => IsD c d ∧ IsL cs ds
  | _, _ => False
theorem IsL.same : ∀ {cs : List (Int × Int)} {ds es : List QD}, IsL cs ds → IsL cs es → ds = es
  | [], [], [], _, _ => rfl
  | c :: cs, d :: ds, e :: es, h, k => by rw [h.1.same k.1, IsL.same h.2 k.2]
  | [], _ :: _, _, h, _ => h.elim
  | [], [], _ :: _, _, k => k.elim
  | _ :: _, [], _, h, _ => h.elim
  | _ :: _, _ :: _, [], _, k => k.elim
theorem IsL.len : ∀ {cs : List (Int × Int)} {ds : List QD}, IsL cs ds → cs.length = ds.length
  | [], [], _ => rfl
  | _ :: _, _ :: _, h => by simp [IsL.len h.2]
  | [], _ :: _, h => h.elim
  | _ :: _, [], h => h.elim
theorem IsL.append : ∀ {cs cs' : List (Int × Int)} {ds ds' : List QD}, IsL cs ds → IsL cs' ds' → IsL (cs ++ cs') (ds ++ ds')
  | [], _, [], _, _, k => k
  | _ :: _, _, _ :: _, _, h, k => ⟨h.1, IsL.append h.2 k⟩
  | [], _, _ :: _, _, h, _ => h.elim
  | _ :: _, _, [], _, h, _ => h.elim
def AnsP (P : Bool) (cs : List (Int × Int)) (ds : List QD) (ok : Bool) : Prop := (P = true ∧ ∃ es, IsL cs es ∧ ((gP es = true ∧ ok = true ∧ ds = es) ∨ (gP es = false ∧ ok = false ∧ ds = []))) ∨ (P = false ∧ ok = false ∧ ds = [])
theorem AnsP.same {P : Bool} {cs : List (Int × Int)} {d d' : List QD} {ok ok' : Bool} (h : AnsP P cs d ok) (k : AnsP P cs d' ok') : d = d' ∧ ok = ok' := by
  rcases h with ⟨p, es, h1, h2⟩ | ⟨p, h1, h2⟩ <;> rcases k with ⟨p', es', k1, k2⟩ | ⟨p', k1, k2⟩
  · obtain rfl := h1.same k1
    rcases h2 with ⟨a, b, c⟩ | ⟨a, b, c⟩ <;> rcases k2 with ⟨a', b', c'⟩ | ⟨a', b', c'⟩
    · exact ⟨c.trans c'.symm, b.trans b'.symm⟩
    · rw [a] at a'; cases a'
    · rw [a] at a'; cases a'
    · exact ⟨c.trans c'.symm, b.trans b'.symm⟩
  · rw [p] at p'; cases p'
  · rw [p] at p'; cases p'
  · exact ⟨h2.trans k2.symm, h1.trans k1.symm⟩
/-- A good polynomial's fractions. -/
theorem gP_mem {ds : List QD} (h : gP ds = true) : ds.length ≤ 7 ∧ ∀ d ∈ ds, gQ d = true ∧ sm d = true := by
  unfold gP at h
  simp only [Bool.and_eq_true, decide_eq_true_eq] at h
  refine ⟨h.1.1, fun d hd => ?_⟩
  have h2 := List.all_eq_true.1 h.1.2 d hd
  unfold gC at h2
  simp only [Bool.and_eq_true] at h2
  exact ⟨h2.2, h2.1⟩
theorem goodB_of {g : Bool} {xs : List Int} {V : Int} (h : Nm xs V.natAbs) (hl : xs.length ≤ 40) (hg : g = decide (V < 0)) : goodB g xs = true := by
  unfold goodB
  have ha : xs.all limbOk = true := List.all_eq_true.2 (fun x hx => by have := h.ok x hx; simp [limbOk]; omega)
  rw [ha, Bool.true_and]
  by_cases h0 : xs.length = 0
  · rw [if_pos h0, hg]
    have := h.nil_iff.1 (List.length_eq_zero_iff.1 h0)
    simp
    omega
  · rw [if_neg h0, decide_eq_true hl, Bool.true_and]
    have hne : xs ≠ [] := fun e => h0 (by rw [e]; rfl)
    have hx := List.dropLast_concat_getLast hne
    have hz : xs.getLast hne ≠ 0 := fun e => by
      have h1 := h.tr
      rw [← hx, e, trim_snoc_zero] at h1
      have h2 := congrArg List.length h1
      have h3 := trim_len xs.dropLast
      simp at h2
      rw [h2] at h3
      simp at h3
      omega
    have e : xs.getD (xs.length - 1) 0 = xs.getLast hne := by
      rw [List.getLast_eq_getElem, List.getD_eq_getElem?_getD, List.getElem?_eq_getElem (by omega)]
      rfl
    rw [e]
    simpa using hz
/-- Fractions in lowest terms with few limbs are good. -/
theorem gQ_of {c : Int × Int} {d : QD} (h : IsD c d) (l : Low c.1 c.2) (hs : sm d = true) : gQ d = true := by
  unfold sm at hs
  simp only [Bool.and_eq_true, decide_eq_true_eq] at hs
  have hp := l.pos
  have g2 : d.den.g = false := by rw [h.g2]; exact decide_eq_false (by omega)
  have nz : d.den.xs.length ≠ 0 := fun e => by
    have := h.n2.nil_iff.1 (List.length_eq_zero_iff.1 e)
    omega
  have gb : ∀ {g : Bool} {xs : List Int} {V : Int}, Nm xs V.natAbs → xs.length ≤ 6 → g = decide (V < 0) → goodB g xs = true := fun {g xs V} hn hl hg => by
    exact goodB_of hn (by omega) hg
  unfold gQ goodR
  rw [gb h.n1 hs.1 h.g1, gb h.n2 hs.2 h.g2, g2, decide_eq_true nz]
  have e1 : (val d.num.xs).toNat = c.1.natAbs := by rw [h.n1.v]; omega
  have e2 : (val d.den.xs).toNat = c.2.natAbs := by rw [h.n2.v]; omega
  have e3 : decide (Nat.gcd (val d.num.xs).toNat (val d.den.xs).toNat = 1) = true := decide_eq_true (by rw [e1, e2]; exact l.co)
  rw [e3]
  rfl
def LowL (cs : List (Int × Int)) : Prop := ∀ c ∈ cs, Low c.1 c.2
theorem gP_fits : ∀ {cs : List (Int × Int)} {ds : List QD}, IsL cs ds → LowL cs → gP ds = ((decide (ds.length ≤ 7) && ds.all sm) && lastOk ds) := fun {cs ds} h l => by
  rw [gP_parts]
  have ha : ds.all sm = true → ds.all gQ = true := by
    intro hs
    rw [List.all_eq_true] at hs ⊢
    revert cs
    induction ds with
    | nil => intro cs _ _ d hd; cases hd
    | cons e ds ih =>
      intro cs h l d hd
      match cs, h with
      | c :: cs, h =>
        rcases List.mem_cons.1 hd with rfl | hd
        · exact gQ_of h.1 (l c List.mem_cons_self) (hs d List.mem_cons_self)
        · exact ih (fun x hx => hs x (List.mem_cons_of_mem _ hx)) h.2 (fun x hx => l x (List.mem_cons_of_mem _ hx)) d hd
  cases hs : ds.all sm
  · simp
  · rw [ha hs, Bool.and_true]
/-- A slice in memory of the call's own, by value. -/
def OutP (w : World) (cs : List (Int × Int)) (e : Ending) (w' : World) : Prop := ∃ (a : Option Addr) (n c : Nat) (l : List (QV × QD)), e = .returned (.slice a n c) ∧ Below w.heap.size w w' ∧ PRo w.heap.size w'.heap.size w' a n c l ∧ PArQ w' a n c l ∧ IsL cs (l.map Prod.snd)
theorem lenPQ_le {l : List (QV × QD)} {B : Nat} (h : ∀ p ∈ l, p.1.num.n ≤ B ∧ p.1.den.n ≤ B) : lenPQ l ≤ 2 * B * l.length := by
  induction l with
  | nil => simp [lenPQ]
  | cons p l ih =>
    have h1 := h p List.mem_cons_self
    have h2 := ih (fun q hq => h q (List.mem_cons_of_mem _ hq))
    show p.1.num.n + p.1.den.n + lenPQ l ≤ 2 * B * (l.length + 1)
    rw [Nat.mul_add, Nat.mul_one]
    omega
theorem row_later {w w' : World} {G n : Nat} {us : List (QV × QD)} (h : ∃ M, w.ownsRow G 32 4 (.slice (some ⟨G, 0, none⟩) n n) n M ∧ ∀ i (h : i < us.length), M[i * 4]? = some (.bool us[i].1.num.g) ∧ M[i * 4 + 1]? = some (.slice us[i].1.num.a us[i].1.num.n us[i].1.num.c) ∧ M[i * 4 + 2]? = some (.bool us[i].1.den.g) ∧ M[i * 4 + 3]? = some (.slice us[i].1.den.a us[i].1.den.n us[i].1.den.c)) (hb : Below w.heap.size w w') : ∃ M, w'.ownsRow G 32 4 (.slice (some ⟨G, 0, none⟩) n n) n M ∧ ∀ i (h : i < us.length), M[i * 4]? = some (.bool us[i].1.num.g) ∧ M[i * 4 + 1]? = some (.slice us[i].1.num.a us[i].1.num.n us[i].1.num.c) ∧ M[i * 4 + 2]? = some (.bool us[i].1.den.g) ∧ M[i * 4 + 3]? = some (.slice us[i].1.den.a us[i].1.den.n us[i].1.den.c) := by
  obtain ⟨M, h1, h2⟩ := h
  exact ⟨M, ownsRow_later h1 hb, h2⟩
theorem one_bd2' {L : Nat} (h : 1 ≤ L) : Bd 1 L := (show Bd 1 1 from ⟨by decide⟩).mono h
theorem int_bd {n : Int} (h0 : 0 ≤ n) (h1 : n ≤ 1000) : Bd n 1 := ⟨by omega⟩
theorem good_of_mem {w : World} {a : Option Addr} {n c : Nat} {l : List (QV × QD)} (h : PArQ w a n c l) (hg : gP (l.map Prod.snd) = true) {y : QV × QD} (hy : y ∈ l) : IsGood w y.1 y.2 := isGood_of (h.rd y hy) ((gP_mem hg).2 y.2 (List.mem_map.2 ⟨y, hy, rfl⟩)).1
theorem isL_snoc {cs : List (Int × Int)} {us : List (QV × QD)} {N D : Int} {u : QV} {xs vs : List Int} (h : IsL cs (us.map Prod.snd)) (h1 : Nm xs N.natAbs) (h2 : Nm vs D.natAbs) : IsL (cs ++ [(N, D)]) ((us ++ [(u, (⟨⟨decide (N < 0), xs⟩, ⟨decide (D < 0), vs⟩⟩ : QD))]).map Prod.snd) := by
  rw [List.map_append]
  exact h.append ⟨⟨rfl, h1, rfl, h2⟩, trivial⟩
theorem PRo.none (B E : Nat) (w : World) : PRo B E w none 0 0 [] := ⟨rfl, by simp [lenPQ], fun p hp => (by cases hp), .inl rfl⟩
end Go.Proofs.YtcbmecnipldcfaaGreat
namespace Go.Proofs.YtcbmecnipldcfaaGreat
open Go.RowKit
set_option linter.unusedVariables false
set_option maxRecDepth 100000
set_option linter.unusedSimpArgs false

/-- Good fractions by value. -/
def goods (ds : List QD) : List (Int × Int) := ds.map fun d => (nQ d, dQ d)
theorem goods_snoc {l : List (QV × QD)} {i : Nat} {y : QV × QD} (h : i < l.length) (hy : y = l[i]) : goods ((l.map Prod.snd).take (i + 1)) = goods ((l.map Prod.snd).take i) ++ [(nQ y.2, dQ y.2)] := by
  have e : (l.map Prod.snd)[i]? = some y.2 := by rw [List.getElem?_map, List.getElem?_eq_getElem h, ← hy]; rfl
  rw [List.take_add_one, e]
  unfold goods
  rw [List.map_append]
  rfl
set_option maxHeartbeats 4000000 in
theorem copyPo (a : Option Addr) (n c : Nat) (l : List (QV × QD)) (w : World) (h : PArQ w a n c l) (hg : gP (l.map Prod.snd) = true) :
    Calls Tryz.prog 94 #[.slice a n c] w fun e w' => ∃ us : List (QV × QD), e = .returned (.slice (some ⟨w.heap.size, 0, none⟩) n n) ∧ Below w.heap.size w w' ∧ w.heap.size < w'.heap.size ∧ POwQ (w.heap.size + 1) w'.heap.size w' w.heap.size n n us ∧ IsL (goods (l.map Prod.snd)) (us.map Prod.snd) ∧ ∀ p ∈ us, p.1.num.n ≤ 50 ∧ p.1.den.n ≤ 50 := by
  have HS := hide h
  have HN := hide h.len
  have HG := hide hg
  have n7 : n ≤ 7 := by have := (gP_mem hg).1; rw [List.length_map, h.len] at this; exact this
  clear h hg
  obtain ⟨i0, hi, hz0, hz1, hz2⟩ := info_parts Tryz.info32
  go_enter Tryz.func94, Tryz.ntmps94
  go_wp2_with (at_make; refine wpList_make_full _ rfl _ _ 44 rfl w.heap.size 32 i0 (.agg #[.bool false, .slice none 0 0, .bool false, .slice none 0 0]) 4 Tryz.underlying44 hi hz0 hz1 .i64 .i64 _ _ n rfl rfl (by omega) (by omega) ?c1 ?c2 ?c3 ?_)
  case c1 => rw [hz2]; omega
  case c2 => unfold maxLen; omega
  case c3 => exact Nat.le_refl _
  intro w1 hown hgrow
  have hb0 : Below w.heap.size w w1 := (Below.refl _ _).grown hgrow (Nat.le_refl _) (fun k e => by cases e)
  have P0 : Hid (∃ M, w1.ownsRow w.heap.size 32 4 (.slice (some ⟨w.heap.size, 0, none⟩) n n) n M) := hide ⟨_, hown⟩
  have z0 : w.heap.size < w1.heap.size := by
    rcases hown.2 with ⟨h', _⟩ | ⟨g', cap, cur, hv, _, hg, _⟩
    · simp at h'
    · simp only [Value.slice.injEq, Option.some.injEq, Addr.mk.injEq, and_true, true_and] at hv
      have := (Array.getElem?_eq_some_iff.1 hg).1
      omega
  clear hown hgrow hi hz0 hz1 hz2
  have HB1 := hide hb0
  clear hb0
  go_wp2
  go_loopw [11] (fun iv wr => ∃ (i : Nat) (us : List (QV × QD)), i ≤ n ∧ iv = .int .i64 i ∧ us.length = i ∧ w.heap.size < wr.heap.size ∧ Hid (IsL (goods ((l.map Prod.snd).take i)) (us.map Prod.snd)) ∧ Hid (∃ M, wr.ownsRow w.heap.size 32 4 (.slice (some ⟨w.heap.size, 0, none⟩) n n) n M ∧ ∀ i (h : i < us.length), M[i * 4]? = some (.bool us[i].1.num.g) ∧ M[i * 4 + 1]? = some (.slice us[i].1.num.a us[i].1.num.n us[i].1.num.c) ∧ M[i * 4 + 2]? = some (.bool us[i].1.den.g) ∧ M[i * 4 + 3]? = some (.slice us[i].1.den.a us[i].1.den.n us[i].1.den.c)) ∧ Hid (AllOwn (w.heap.size + 1) wr.heap.size wr (zipPQ us)) ∧ Hid (∀ p ∈ us, AllAr wr [(p.1.num, p.2.num), (p.1.den, p.2.den)]) ∧ Hid (∀ p ∈ us, p.1.num.n ≤ 50 ∧ p.1.den.n ≤ 50) ∧ Hid (Below w.heap.size w wr)) (fun iv _ => n - (intOf iv).toNat)
  case atStart =>
    obtain ⟨M, hM⟩ := unhide P0
    exact ⟨0, [], Nat.zero_le _, rfl, rfl, z0, hide trivial, hide ⟨M, hM, fun i hi => absurd hi (by simp)⟩, hide (AllOwn.nil _ _ _), hide (fun p hp => by cases hp), hide (fun p hp => by cases hp), HB1⟩
  case round =>
    clear P0 HB1 z0
    obtain ⟨i, us, hi, rfl, hu, z1, ED, EM, OO, AA, LS, HB⟩ := hrel
    by_cases hlt : i < n
    · have hlt' : (i : Int) < (n : Int) := by omega
      rcases (unhide HS).at_ with e | ⟨b, off, rfl, hb, hc⟩
      · exact absurd (unhide HN) (by rw [e]; simp; omega)
      have e0 := hc i (by rw [unhide HN]; exact hlt)
      obtain ⟨y, hy⟩ : ∃ y, y = l[i]'(by rw [unhide HN]; exact hlt) := ⟨_, rfl⟩
      rw [← hy] at e0
      have MY : Hid (y ∈ l) := hide (by rw [hy]; exact List.getElem_mem _)
      have TK := hide (goods_snoc (by rw [unhide HN]; exact hlt) hy)
      clear hy
      have E0 : wr.cell? ⟨b, off + i * 4, none⟩ = some (.bool y.1.num.g) := ((unhide HB).cell (p := ⟨b, off + i * 4, none⟩) hb).trans (e0.1)
      have E1 : wr.cell? ⟨b, off + i * 4 + 1, none⟩ = some (.slice y.1.num.a y.1.num.n y.1.num.c) := ((unhide HB).cell (p := ⟨b, off + i * 4 + 1, none⟩) hb).trans (e0.2.1)
      have E2 : wr.cell? ⟨b, off + i * 4 + 2, none⟩ = some (.bool y.1.den.g) := ((unhide HB).cell (p := ⟨b, off + i * 4 + 2, none⟩) hb).trans (e0.2.2.1)
      have E3 : wr.cell? ⟨b, off + i * 4 + 3, none⟩ = some (.slice y.1.den.a y.1.den.n y.1.den.c) := ((unhide HB).cell (p := ⟨b, off + i * 4 + 3, none⟩) hb).trans (e0.2.2.2)
      clear e0 hc
      have JY := hide ((good_of_mem (unhide HS) (unhide HG) (unhide MY)).later (unhide HB))
      have al : Below wr.heap.size wr (wr.alloc (.cells #[.bool y.1.num.g, .slice y.1.num.a y.1.num.n y.1.num.c, .bool y.1.den.g, .slice y.1.den.a y.1.den.n y.1.den.c] 32)) := (Below.refl _ _).alloc (Nat.le_refl _) _
      have JA := hide ((unhide JY).later al)
      clear al
      go_wp2_with fail
      refine (copyQ y.1 (nQ y.2) (dQ y.2) _ (unhide JA).is ((unhide JY).kn.mono (by omega)) ((unhide JY).kd.mono (by omega))).mono ?_
      rintro e w2 ⟨u, lu, lv, rfl, hb2, o2, a2, m1, m2⟩
      have hbx := ba hb2
      have sz2 := hbx.size
      have sz3 := hb2.size
      have AU := hide (o2.wide (lo' := wr.heap.size) (by simp) (Nat.le_refl _))
      have AV := hide a2
      have NU := hide (And.intro m1 m2)
      replace HB := hide (below_on (unhide HB) hbx)
      replace EM := hide (row_later (unhide EM) hbx)
      replace OO := hide ((unhide OO).later hbx)
      replace AA := hide (fun p hp => ((unhide AA) p hp).later hbx)
      obtain ⟨M, hM, hL⟩ := unhide EM
      obtain ⟨x_0, old0⟩ : ∃ x, w2.cell? ⟨w.heap.size, i * 4, none⟩ = some x := ⟨_, (hM.cellAt _ (by omega)).trans (List.getElem?_eq_getElem (by have := hM.1; omega))⟩
      obtain ⟨x_1, old1⟩ : ∃ x, w2.cell? ⟨w.heap.size, i * 4 + 1, none⟩ = some x := ⟨_, (hM.cellAt _ (by omega)).trans (List.getElem?_eq_getElem (by have := hM.1; omega))⟩
      obtain ⟨x_2, old2⟩ : ∃ x, w2.cell? ⟨w.heap.size, i * 4 + 2, none⟩ = some x := ⟨_, (hM.cellAt _ (by omega)).trans (List.getElem?_eq_getElem (by have := hM.1; omega))⟩
      obtain ⟨x_3, old3⟩ : ∃ x, w2.cell? ⟨w.heap.size, i * 4 + 3, none⟩ = some x := ⟨_, (hM.cellAt _ (by omega)).trans (List.getElem?_eq_getElem (by have := hM.1; omega))⟩
      have fr : ∀ o, w2.frozen? ⟨w.heap.size, o, none⟩ = false := fun o => hM.frozenAt o
      have HM := hide hM
      have HL := hide hL
      clear hM hL hbx hb2 o2 a2 m1 m2 EM E0 E1 E2 E3 sz3
      go_wp2
      go_roundw
      case rel =>
        have hM := unhide HM
        have bt : But w.heap.size (w.heap.size + 1) w2 ((((w2.setCell ⟨w.heap.size, i * 4, none⟩ (.bool u.num.g)).setCell ⟨w.heap.size, i * 4 + 1, none⟩ (.slice u.num.a u.num.n u.num.c)).setCell ⟨w.heap.size, i * 4 + 2, none⟩ (.bool u.den.g)).setCell ⟨w.heap.size, i * 4 + 3, none⟩ (.slice u.den.a u.den.n u.den.c)) := but_rowQ
        refine ⟨i + 1, us ++ [(u, (⟨⟨decide (nQ y.2 < 0), lu⟩, ⟨decide (dQ y.2 < 0), lv⟩⟩ : QD))], by omega, by go_num, by simp [hu], Nat.lt_of_lt_of_le (by omega) bt.size, hide ?_, hide ⟨_, (World.ownsRow.stored (World.ownsRow.stored (World.ownsRow.stored (World.ownsRow.stored hM (i * 4) (.bool u.num.g)).1 (i * 4 + 1) (.slice u.num.a u.num.n u.num.c)).1 (i * 4 + 2) (.bool u.den.g)).1 (i * 4 + 3) (.slice u.den.a u.den.n u.den.c)).1, set_rowQ hM.1 hlt hu (unhide HL)⟩, hide ?_, hide ?_, hide ?_, hide ?_⟩
        · rw [unhide TK]
          exact isL_snoc (unhide ED) (unhide NU).1 (unhide NU).2
        · rw [zipPQ_append, zipPQ_one]
          exact (((unhide OO).join (unhide AU) (by omega) (by omega)).but bt (.inr (Nat.le_refl _))).wide (Nat.le_refl _) bt.size
        · intro p hp x hx
          have own := ((unhide OO).join (unhide AU) (by omega) (by omega))
          have hAr : AllAr w2 (zipPQ us ++ [(u.num, ⟨decide (nQ y.2 < 0), lu⟩), (u.den, ⟨decide (dQ y.2 < 0), lv⟩)]) := fun x hx => by
            rcases List.mem_append.1 hx with hx | hx
            · obtain ⟨p, hp, hx⟩ := List.mem_flatMap.1 hx
              exact (unhide AA) p hp x hx
            · exact (unhide AV) x hx
          refine ar_fin bt own hAr (Nat.le_refl _) x ?_
          rcases List.mem_append.1 hp with hp | hp
          · exact List.mem_append_left _ (zipPQ_mem hp hx)
          · obtain rfl := List.mem_singleton.1 hp
            exact List.mem_append_right _ hx
        · intro p hp
          rcases List.mem_append.1 hp with hp | hp
          · exact (unhide LS) p hp
          · obtain rfl := List.mem_singleton.1 hp
            have q1 := (unhide NU).1.len_le (unhide JY).kn
            have q2 := (unhide NU).2.len_le (unhide JY).kd
            have q3 : lu.length = u.num.n := (unhide AV).head.ar.len
            have q4 : lv.length = u.den.n := (unhide AV).tail.head.ar.len
            show u.num.n ≤ 50 ∧ u.den.n ≤ 50
            omega
        · exact bt.below (unhide HB) (Nat.le_refl _) (by have := (unhide HB).size; omega)
      case measure => simp [intOf]; omega
    · obtain rfl : i = n := by omega
      have EL : Hid (IsL (goods (l.map Prod.snd)) (us.map Prod.snd)) := hide (by
        have h := unhide ED
        rw [List.take_of_length_le (by simp; have := unhide HN; omega)] at h
        exact h)
      have PO : Hid (POwQ (w.heap.size + 1) wr.heap.size wr w.heap.size i i us) := hide ⟨unhide EM, unhide OO, unhide AA, hu⟩
      have hsz := lenPQ_le (unhide LS)
      go_wp2
      go_ret
      exact ⟨us, rfl, unhide HB, z1, unhide PO, unhide EL, unhide LS⟩
end Go.Proofs.YtcbmecnipldcfaaGreat
namespace Go.Proofs.YtcbmecnipldcfaaGreat
open Go.RowKit
set_option linter.unusedVariables false
set_option maxRecDepth 100000
set_option linter.unusedSimpArgs false

/-- The cells of some fractions, one after another. -/
def flatC : List (QV × QD) → List Value
  | [] => []
  | p :: l => (Value.bool p.1.num.g : Value) :: (Value.slice p.1.num.a p.1.num.n p.1.num.c : Value) :: (Value.bool p.1.den.g : Value) :: (Value.slice p.1.den.a p.1.den.n p.1.den.c : Value) :: flatC l
theorem flatC_len (l : List (QV × QD)) : (flatC l).length = l.length * 4 := by
  induction l with
  | nil => rfl
  | cons p l ih => show (flatC l).length + 1 + 1 + 1 + 1 = (l.length + 1) * 4; omega
theorem flatC_append (l l' : List (QV × QD)) : flatC (l ++ l') = flatC l ++ flatC l' := by
  induction l with
  | nil => rfl
  | cons p l ih => simp only [List.cons_append, flatC, ih]
theorem flatC_get (l : List (QV × QD)) : ∀ i (h : i < l.length), (flatC l)[i * 4]? = some (.bool l[i].1.num.g) ∧ (flatC l)[i * 4 + 1]? = some (.slice l[i].1.num.a l[i].1.num.n l[i].1.num.c) ∧ (flatC l)[i * 4 + 2]? = some (.bool l[i].1.den.g) ∧ (flatC l)[i * 4 + 3]? = some (.slice l[i].1.den.a l[i].1.den.n l[i].1.den.c) := by
  induction l with
  | nil => intro i h; simp at h
  | cons p l ih =>
    intro i h
    match i with
    | 0 => exact ⟨rfl, rfl, rfl, rfl⟩
    | i + 1 =>
      have h1 := ih i (by simpa using h)
      have e : ∀ c, (i + 1) * 4 + c = (i * 4 + c) + 1 + 1 + 1 + 1 := fun c => by omega
      have e0 : (i + 1) * 4 = (i * 4) + 1 + 1 + 1 + 1 := by omega
      refine ⟨?_, ?_, ?_, ?_⟩
      · rw [e0]; exact h1.1
      · rw [e]; exact h1.2.1
      · rw [e]; exact h1.2.2.1
      · rw [e]; exact h1.2.2.2
theorem flatC_one (l : List (QV × QD)) : ∀ u ∈ flatC l, u.oneCell' = true := by
  induction l with
  | nil => intro u hu; cases hu
  | cons p l ih =>
    intro u hu
    simp only [flatC, List.mem_cons] at hu
    rcases hu with rfl | rfl | rfl | rfl | hu
    · rfl
    · rfl
    · rfl
    · rfl
    · exact ih u hu
/-- Where the cells lie, they can be appended. -/
theorem flatC_cells {w : World} {b off : Nat} {l : List (QV × QD)} (h : ∀ i (h : i < l.length), w.cell? ⟨b, off + i * 4, none⟩ = some (.bool l[i].1.num.g) ∧ w.cell? ⟨b, off + i * 4 + 1, none⟩ = some (.slice l[i].1.num.a l[i].1.num.n l[i].1.num.c) ∧ w.cell? ⟨b, off + i * 4 + 2, none⟩ = some (.bool l[i].1.den.g) ∧ w.cell? ⟨b, off + i * 4 + 3, none⟩ = some (.slice l[i].1.den.a l[i].1.den.n l[i].1.den.c)) : ∀ j u, (flatC l)[j]? = some u → w.cell? ((⟨b, off, none⟩ : Addr).add j) = some u := by
  intro j u hu
  have hj : j < (flatC l).length := (List.getElem?_eq_some_iff.1 hu).1
  rw [flatC_len] at hj
  have hi : j / 4 < l.length := by omega
  have h1 := h (j / 4) hi
  have h2 := flatC_get l (j / 4) hi
  have ad : (⟨b, off, none⟩ : Addr).add j = ⟨b, off + j, none⟩ := by
    unfold Addr.add
    split
    · rename_i e; subst e; rfl
    · rfl
  rw [ad]
  have hm : j % 4 = 0 ∨ j % 4 = 1 ∨ j % 4 = 2 ∨ j % 4 = 3 := by omega
  rcases hm with e | e | e | e
  · have ej : j = j / 4 * 4 := by omega
    have hv := h2.1
    rw [← ej] at hv
    rw [hv] at hu
    obtain rfl := Option.some.inj hu
    have hw := h1.1
    rw [show off + j / 4 * 4 = off + j by omega] at hw
    exact hw
  · have ej : j = j / 4 * 4 + 1 := by omega
    have hv := h2.2.1
    rw [← ej] at hv
    rw [hv] at hu
    obtain rfl := Option.some.inj hu
    have hw := h1.2.1
    rw [show off + j / 4 * 4 + 1 = off + j by omega] at hw
    exact hw
  · have ej : j = j / 4 * 4 + 2 := by omega
    have hv := h2.2.2.1
    rw [← ej] at hv
    rw [hv] at hu
    obtain rfl := Option.some.inj hu
    have hw := h1.2.2.1
    rw [show off + j / 4 * 4 + 2 = off + j by omega] at hw
    exact hw
  · have ej : j = j / 4 * 4 + 3 := by omega
    have hv := h2.2.2.2
    rw [← ej] at hv
    rw [hv] at hu
    obtain rfl := Option.some.inj hu
    have hw := h1.2.2.2
    rw [show off + j / 4 * 4 + 3 = off + j by omega] at hw
    exact hw
theorem ownsRow_at {w : World} {B g n c : Nat} {l : List (QV × QD)} (h : w.ownsRow B 32 4 (.slice (some ⟨g, 0, none⟩) n c) n (flatC l)) (hn : l.length = n) : PAtQ w (some ⟨g, 0, none⟩) l ∧ n ≤ c ∧ c ≤ maxLen := by
  have h2 := h.2
  rcases h2 with ⟨h', _⟩ | ⟨g', cap, cur, hv, h1, hg, r1, r2, r3⟩
  · simp at h'
  simp only [Value.slice.injEq, Option.some.injEq, Addr.mk.injEq, and_true, true_and] at hv
  obtain ⟨rfl, rfl⟩ := hv
  refine ⟨.inr ⟨g, 0, rfl, (Array.getElem?_eq_some_iff.1 hg).1, fun i hi => ?_⟩, r1, r2⟩
  have hc := flatC_get l i hi
  refine ⟨?_, ?_, ?_, ?_⟩ <;> rw [Nat.zero_add, h.cellAt _ (by omega)]
  · exact hc.1
  · exact hc.2.1
  · exact hc.2.2.1
  · exact hc.2.2.2
theorem owns_emptyQ (w : World) : (w.alloc (.cells #[] 32)).ownsRow w.heap.size 32 4 (.slice (some ⟨w.heap.size, 0, none⟩) 0 0) 0 [] := by
  refine ⟨rfl, .inr ⟨w.heap.size, 0, #[], rfl, Nat.le_refl _, ?_, Nat.le_refl _, Nat.zero_le _, rfl, rfl⟩⟩
  show (w.heap.push _)[w.heap.size]? = _
  simp
/-- Where noughts at the end are cut off. -/
structure CutAt (ds : List QD) (m : Nat) : Prop where
  le : m ≤ ds.length
  out : ∀ j (h : j < ds.length), m ≤ j → nz ds[j] = true
  top : ∀ h : 0 < m, nz (ds[m - 1]'(by omega)) = false
theorem CutAt.same {ds : List QD} {m m' : Nat} (h : CutAt ds m) (k : CutAt ds m') : m = m' := by
  have h1 := h.le
  have k1 := k.le
  rcases Nat.lt_trichotomy m m' with c | c | c
  · have e1 := k.top (by omega)
    have e2 := h.out (m' - 1) (by omega) (by omega)
    rw [e1] at e2; cases e2
  · exact c
  · have e1 := h.top (by omega)
    have e2 := k.out (m - 1) (by omega) (by omega)
    rw [e1] at e2; cases e2

theorem cutS_none (w : World) : Calls Tryz.prog 47 #[.slice none 0 0] w fun e w' => ∃ a' c', e = .returned (.slice a' 0 c') ∧ Below w.heap.size w w' ∧ PArQ w' a' 0 c' [] := by
  obtain ⟨i0, hi, hz0, hz1, hz2⟩ := info_parts Tryz.info32
  go_enter Tryz.func47, Tryz.ntmps47
  go_wp2
  refine wp_loop_rounds 1 ?_
  rw [rounds_succ]
  go_wp2_with (at_builtin; refine wpList_append_own_none rfl (.tmp 20) (.tmp 21) 44 rfl w.heap.size 32 i0 4 Tryz.underlying44 hi _ 0 [] rfl (owns_emptyQ w) rfl ?_)
  go_wp2
  go_ret
  exact ⟨_, _, rfl, (Below.refl _ _).alloc (Nat.le_refl _) _, ⟨.inl rfl, fun p hp => (by cases hp), rfl, Nat.le_refl _, Nat.zero_le _⟩⟩
set_option maxHeartbeats 4000000 in
theorem cutS_some (ad : Addr) (n c : Nat) (l : List (QV × QD)) (w : World) (h : PArQ w (some ad) n c l) (h1 : n ≤ 1048576) :
    Calls Tryz.prog 47 #[.slice (some ad) n c] w fun e w' => ∃ a' m c', e = .returned (.slice a' m c') ∧ Below w.heap.size w w' ∧ CutAt (l.map Prod.snd) m ∧ PArQ w' a' m c' (l.take m) := by
  obtain ⟨i0, hi, hz0, hz1, hz2⟩ := info_parts Tryz.info32
  have HS := hide h
  have HN := hide h.len
  have hcap := h.cap
  have htop := h.top
  clear h
  unfold maxLen at htop
  go_enter Tryz.func47, Tryz.ntmps47
  go_wp2
  go_loopw [0] (fun v wr => ∃ m : Nat, m ≤ n ∧ v = .slice (some ad) m c ∧ Hid (∀ j (h : j < (l.map Prod.snd).length), m ≤ j → nz (l.map Prod.snd)[j] = true) ∧ Hid (Below w.heap.size w wr)) (fun v _ => lenOf v)
  case atStart => exact ⟨n, Nat.le_refl _, rfl, hide (fun j hj hm => by simp at hj; rw [unhide HN] at hj; omega), hide (Below.refl _ _)⟩
  case round =>
    obtain ⟨m, hm, rfl, EZ, HB⟩ := hrel
    by_cases h0 : m = 0
    · subst h0
      have CA : Hid (CutAt (l.map Prod.snd) 0) := hide ⟨Nat.zero_le _, unhide EZ, fun hh => absurd hh (by omega)⟩
      go_wp2_with (at_builtin; refine wpList_append_own _ rfl (.tmp 20) (.tmp 21) 44 rfl wr.heap.size 32 i0 (.agg #[.bool false, .slice none 0 0, .bool false, .slice none 0 0]) 4 64 Tryz.underlying44 hi hz0 hz1 hz2 rfl (by decide) _ _ _ rfl (owns_emptyQ wr) ad 0 c [] rfl rfl (fun j u hh => by simp at hh) (fun u hh => by cases hh) (by unfold maxLen; omega) (by omega) (by simp) ?_)
      intro v' w1' hown hg hnil
      have hB := hide (below_alloc_grown hg (fun k e => by simp [Value.ownBlock] at e; omega))
      have hown' : w1'.ownsRow wr.heap.size 32 4 v' 0 (flatC []) := by simpa [flatC] using hown
      have HX : Hid (∃ g c', v' = .slice (some ⟨g, 0, none⟩) 0 c') := by
        rcases hown'.2 with ⟨h', _⟩ | ⟨g', cap', cur, h', _⟩
        · exact (hnil h').elim
        · exact hide ⟨g', cap', h'⟩
      obtain ⟨g, c', rfl⟩ := unhide HX
      have HO := hide (ownsRow_at hown' rfl)
      clear hown hown' hg hnil HX
      go_wp2
      go_ret
      exact ⟨_, 0, c', rfl, below_on (unhide HB) (unhide hB), unhide CA, ⟨.inl rfl, fun p hp => (by simp at hp), rfl, (unhide HO).2.1, (unhide HO).2.2⟩⟩
    · have b0 : decide ((0 : Int) < (m : Int)) = true := by simp; omega
      have hlx : m - 1 < n := by omega
      rcases (unhide HS).at_ with e | ⟨b, off, ea, hb, hc⟩
      · exact absurd (unhide HN) (by rw [e]; simp; omega)
      obtain rfl : ad = ⟨b, off, none⟩ := Option.some.inj ea
      have e0 := hc (m - 1) (by rw [unhide HN]; exact hlx)
      obtain ⟨y, hy⟩ : ∃ y, y = l[(m - 1)]'(by rw [unhide HN]; exact hlx) := ⟨_, rfl⟩
      rw [← hy] at e0
      have MY : Hid (y ∈ l) := hide (by rw [hy]; exact List.getElem_mem _)
      have EY := hide hy
      clear hy
      have E0 : wr.cell? ⟨b, off + (m - 1) * 4, none⟩ = some (.bool y.1.num.g) := ((unhide HB).cell (p := ⟨b, off + (m - 1) * 4, none⟩) hb).trans (e0.1)
      have E1 : wr.cell? ⟨b, off + (m - 1) * 4 + 1, none⟩ = some (.slice y.1.num.a y.1.num.n y.1.num.c) := ((unhide HB).cell (p := ⟨b, off + (m - 1) * 4 + 1, none⟩) hb).trans (e0.2.1)
      have E2 : wr.cell? ⟨b, off + (m - 1) * 4 + 2, none⟩ = some (.bool y.1.den.g) := ((unhide HB).cell (p := ⟨b, off + (m - 1) * 4 + 2, none⟩) hb).trans (e0.2.2.1)
      have E3 : wr.cell? ⟨b, off + (m - 1) * 4 + 3, none⟩ = some (.slice y.1.den.a y.1.den.n y.1.den.c) := ((unhide HB).cell (p := ⟨b, off + (m - 1) * 4 + 3, none⟩) hb).trans (e0.2.2.2)
      clear e0
      clear hc ea
      have R1 := hide (((unhide HS).rd y (unhide MY)).later (unhide HB))
      have i1 : (0 : Int) ≤ (m : Int) - 1 := by omega
      have i2 : (m : Int) - 1 < (m : Int) := by omega
      have i3 : ((m : Int) - 1).toNat = m - 1 := by omega
      have iw : IntKind.i64.wrap ((m : Int) - 1) = (m : Int) - 1 := by rw [IntKind.wrap_i64]; omega
      have CC := hide (fun w1 (k : AllAr w1 [(y.1.num, y.2.num), (y.1.den, y.2.den)]) => zeroSq y.1 y.2 w1 k)
      cases hz : nz y.2
      · rw [hz] at CC
        have CA : Hid (CutAt (l.map Prod.snd) m) := hide ⟨by simp; rw [unhide HN]; exact hm, unhide EZ, fun hh => by rw [List.getElem_map, ← unhide EY]; exact hz⟩
        go_wp2_with fail
        refine (unhide CC _ (unhide R1)).mono ?_
        rintro e w1 ⟨rfl, hb1⟩
        replace HB := hide (below_on (unhide HB) hb1)
        clear hb1 E0 E1 E2 E3 CC R1
        have HT := hide (show ∀ j u, (flatC (l.take m))[j]? = some u → (w1.alloc (.cells #[] 32)).cell? ((⟨b, off, none⟩ : Addr).add j) = some u from by
          rcases (unhide HS).at_ with e | ⟨b2, off2, ea, hb, hc⟩
          · intro j u hu; rw [e] at hu; simp [flatC] at hu
          · have ead := Option.some.inj ea
            rw [ead]
            refine flatC_cells (fun i hi => ?_)
            have hi' : i < l.length := by rw [List.length_take] at hi; omega
            have hcc := hc i hi'
            rw [List.getElem_take]
            have bl : Below w.heap.size w (w1.alloc (.cells #[] 32)) := (unhide HB).alloc (unhide HB).size _
            exact ⟨(bl.cell (p := ⟨b2, off2 + i * 4, none⟩) hb).trans (hcc.1), (bl.cell (p := ⟨b2, off2 + i * 4 + 1, none⟩) hb).trans (hcc.2.1), (bl.cell (p := ⟨b2, off2 + i * 4 + 2, none⟩) hb).trans (hcc.2.2.1), (bl.cell (p := ⟨b2, off2 + i * 4 + 3, none⟩) hb).trans (hcc.2.2.2)⟩)
        have hl4 : Hid ((flatC (l.take m)).length = m * 4) := hide (by rw [flatC_len, List.length_take, unhide HN]; omega)
        have hlt : Hid ((l.take m).length = m) := hide (by rw [List.length_take, unhide HN]; omega)
        go_wp2_with (at_builtin; refine wpList_append_own _ rfl (.tmp 20) (.tmp 21) 44 rfl w1.heap.size 32 i0 (.agg #[.bool false, .slice none 0 0, .bool false, .slice none 0 0]) 4 64 Tryz.underlying44 hi hz0 hz1 hz2 rfl (by decide) _ _ _ rfl (owns_emptyQ w1) (⟨b, off, none⟩ : Addr) m c (flatC (l.take m)) rfl (unhide hl4) (unhide HT) (flatC_one _) (by unfold maxLen; omega) (by omega) (by simp) ?_)
        intro v' w1' hown hg hnil
        have hB := hide (below_alloc_grown hg (fun k e => by simp [Value.ownBlock] at e; omega))
        have hown' : w1'.ownsRow w1.heap.size 32 4 v' m (flatC (l.take m)) := by first | exact hown | (simpa using hown)
        have HX : Hid (∃ g c', v' = .slice (some ⟨g, 0, none⟩) m c') := by
          rcases hown'.2 with ⟨h', _⟩ | ⟨g', cap', cur, h', _⟩
          · exact (hnil h').elim
          · exact hide ⟨g', cap', h'⟩
        obtain ⟨g, c', rfl⟩ := unhide HX
        have HO := hide (ownsRow_at hown' (unhide hlt))
        clear hown hown' hg hnil HX
        go_wp2
        go_ret
        exact ⟨_, m, c', rfl, below_on (unhide HB) (unhide hB), unhide CA, ⟨(unhide HO).1, fun p hp => ((unhide HS).rd p (List.mem_of_mem_take hp)).later (below_on (unhide HB) (unhide hB)), unhide hlt, (unhide HO).2.1, (unhide HO).2.2⟩⟩
      · rw [hz] at CC
        go_wp2_with fail
        refine (unhide CC _ (unhide R1)).mono ?_
        rintro e w1 ⟨rfl, hb1⟩
        have HB1 := hide (below_on (unhide HB) hb1)
        clear hb1 E0 E1 E2 E3 CC R1
        have q1 : (m : Int) - 1 ≤ (c : Int) := by omega
        have q2 : ((m - 1 : Nat) : Int) = (m : Int) - 1 := by omega
        go_wp2
        go_roundw
        case rel =>
          refine ⟨m - 1, by omega, by simp [i3], hide (fun j hj hmj => ?_), HB1⟩
          by_cases e : m ≤ j
          · exact unhide EZ j hj e
          · obtain rfl : j = m - 1 := by omega
            rw [List.getElem_map, ← unhide EY]
            exact hz
        case measure => simp [lenOf]; omega

theorem cutS_v (a : Option Addr) (n c : Nat) (l : List (QV × QD)) (w : World) (h : PArQ w a n c l) (h1 : n ≤ 1048576) (h2 : a = none → c = 0) :
    Calls Tryz.prog 47 #[.slice a n c] w fun e w' => ∃ a' m c', e = .returned (.slice a' m c') ∧ Below w.heap.size w w' ∧ CutAt (l.map Prod.snd) m ∧ PArQ w' a' m c' (l.take m) := by
  cases a with
  | some ad => exact cutS_some ad n c l w h h1
  | none =>
    have hc := h2 rfl
    have h3 := h.cap
    subst hc
    obtain rfl : n = 0 := by omega
    have hl : l = [] := List.length_eq_zero_iff.1 h.len
    subst hl
    refine (cutS_none w).mono ?_
    rintro e w' ⟨a', c', rfl, hb, hp⟩
    exact ⟨a', 0, c', rfl, hb, ⟨Nat.le_refl _, fun j hj => absurd hj (by simp), fun hh => absurd hh (by omega)⟩, hp⟩
/-- Numbers whose limbs lie in blocks of integers. -/
def Typ (w : World) (l : List (BV × BD)) : Prop := ∀ p ∈ l, ∃ lo hi, Own2 lo hi w p.1.a p.2.xs
theorem Typ.later {w w' : World} {l : List (BV × BD)} (h : Typ w l) (hb : Below w.heap.size w w') : Typ w' l := fun p hp => by
  obtain ⟨lo, hi, ho⟩ := h p hp
  exact ⟨lo, hi, ho.later hb⟩
theorem Typ.append {w : World} {l m : List (BV × BD)} (h : Typ w l) (k : Typ w m) : Typ w (l ++ m) := fun p hp => by
  rcases List.mem_append.1 hp with hp | hp
  · exact h p hp
  · exact k p hp
theorem AllOwn.typ {lo hi : Nat} {w : World} {l : List (BV × BD)} (h : AllOwn lo hi w l) : Typ w l := fun p hp => ⟨lo, hi, (h.own p hp).own⟩
/-- They stay where a row of fractions grows. -/
theorem Typ.grown {w w' : World} {l : List (BV × BD)} {v : Value} {n B : Nat} {M : List Value} (h : Typ w l) (hg : w.grownBy w' v.ownBlock) (hr : w.ownsRow B 32 4 v n M) : Typ w' l := fun p hp => by
  obtain ⟨lo, hi, ho⟩ := h p hp
  refine ⟨lo, hi, ?_⟩
  rcases ho with e | ⟨b, cur, e, h1, h2, hb, hc⟩
  · exact .inl e
  · refine .inr ⟨b, cur, e, h1, h2, ?_, hc⟩
    rw [hg.block b (Array.getElem?_eq_some_iff.1 hb).1 (fun eb => ?_)]
    · exact hb
    · rcases hr.2 with ⟨h', _⟩ | ⟨g', cap, cur', hv, _, hgt, _⟩
      · rw [h'] at eb; simp [Value.ownBlock] at eb
      · rw [hv] at eb
        simp only [Value.ownBlock, Option.some.injEq] at eb
        subst eb
        rw [hb] at hgt
        simp only [Option.some.injEq, Obj.cells.injEq] at hgt
        exact absurd hgt.2.1 (by decide)
theorem Typ.ar {w w' : World} {l : List (BV × BD)} (ho : Typ w' l) (ha : AllAr w l) : AllAr w' l := fun p hp => by
  obtain ⟨lo, hi, h⟩ := ho p hp
  exact ⟨(ha p hp).sg, ⟨h.sl, (ha p hp).ar.len, (ha p hp).ar.cap, (ha p hp).ar.top, (ha p hp).ar.addr⟩⟩
theorem zip_ar {w : World} {us : List (QV × QD)} (h : AllAr w (zipPQ us)) : ∀ p ∈ us, AllAr w [(p.1.num, p.2.num), (p.1.den, p.2.den)] := fun p hp x hx => h x (zipPQ_mem hp hx)
theorem ow_two' {lo hi lo' hi' : Nat} {w : World} {q : QV} {N D : Int} (h : Ow lo hi w q.num N) (k : Ow lo' hi' w q.den D) : ∃ xs us, Typ w [(q.num, ⟨decide (N < 0), xs⟩), (q.den, ⟨decide (D < 0), us⟩)] ∧ AllAr w [(q.num, ⟨decide (N < 0), xs⟩), (q.den, ⟨decide (D < 0), us⟩)] ∧ Nm xs N.natAbs ∧ Nm us D.natAbs := by
  obtain ⟨xs, o1, a1, n1⟩ := h
  obtain ⟨us, o2, a2, n2⟩ := k
  exact ⟨xs, us, o1.typ.append o2.typ, a1.append a2, n1, n2⟩
theorem owns_later {w w' : World} {B n : Nat} {v : Value} {M : List Value} (h : w.ownsRow B 32 4 v n M) (hb : Below w.heap.size w w') : w'.ownsRow B 32 4 v n M := by
  refine ⟨h.1, ?_⟩
  rcases h.2 with h' | ⟨g', cap, cur, hv, h1, hg, r⟩
  · exact .inl h'
  · refine .inr ⟨g', cap, cur, hv, h1, ?_, r⟩
    rw [hb.block g' (Array.getElem?_eq_some_iff.1 hg).1]
    exact hg
theorem owns_base {w : World} {B n : Nat} {v : Value} {M : List Value} (h : w.ownsRow B 32 4 v n M) : ∀ k, v.ownBlock = some k → B ≤ k := fun k e => by
  rcases h.2 with ⟨h', _⟩ | ⟨g', cap, cur, hv, h1, _⟩
  · rw [h'] at e; simp [Value.ownBlock] at e
  · rw [hv] at e
    simp only [Value.ownBlock, Option.some.injEq] at e
    omega
/-- A row that is the call's own, as an argument. -/
theorem owns_arg {w : World} {B n : Nat} {v : Value} {us : List (QV × QD)} (h : w.ownsRow B 32 4 v n (flatC us)) (hn : us.length = n) (ha : AllAr w (zipPQ us)) : ∃ a c, v = .slice a n c ∧ (a = none → c = 0) ∧ PArQ w a n c us := by
  rcases h.2 with ⟨h', h0⟩ | ⟨g, cap, cur, hv, h1, hg, r⟩
  · subst h0
    exact ⟨none, 0, h', fun _ => rfl, ⟨.inl (List.length_eq_zero_iff.1 hn), zip_ar ha, hn, Nat.le_refl _, Nat.zero_le _⟩⟩
  · subst hv
    have ho := ownsRow_at h hn
    exact ⟨_, cap, rfl, fun e => (by cases e), ⟨ho.1, zip_ar ha, hn, ho.2.1, ho.2.2⟩⟩
theorem sv_nm {g : Bool} {xs : List Int} (h : goodB g xs = true) : g = decide (sv g xs < 0) ∧ Nm xs (sv g xs).natAbs := by
  have hn := goodB_neg h
  obtain ⟨h1, h2, h3, h4⟩ := good_parts h
  have hv := val_nonneg h1
  refine ⟨?_, ⟨h1, h2, ?_⟩⟩
  · cases g
    · exact (decide_eq_false (fun e => by cases hn.1.1 e)).symm
    · exact (decide_eq_true (hn.1.2 rfl)).symm
  · unfold sv
    split <;> omega
theorem good_isD {d : QD} (hg : gQ d = true) : IsD (nQ d, dQ d) d ∧ d.num.xs.length ≤ 40 ∧ d.den.xs.length ≤ 40 := by
  have hp := goodR_parts hg
  have a := sv_nm hp.1
  have b := sv_nm hp.2
  exact ⟨⟨a.1, a.2, b.1, b.2⟩, (good_parts hp.1).2.2.1, (good_parts hp.2).2.2.1⟩
theorem AllSl.append {w : World} {l m : List (BV × BD)} (h : AllSl w l) (k : AllSl w m) : AllSl w (l ++ m) := fun p hp => by
  rcases List.mem_append.1 hp with hp | hp
  · exact h p hp
  · exact k p hp
end Go.Proofs.YtcbmecnipldcfaaGreat
namespace Go.Proofs.YtcbmecnipldcfaaGreat
open Go.RowKit
set_option linter.unusedVariables false
set_option maxRecDepth 100000
set_option linter.unusedSimpArgs false

/-- A coefficient by value, 0 beyond the end. -/
def cf (ps : List (Int × Int)) (k : Nat) : Int × Int := (ps[k]?).getD (0, 1)
theorem cf_in {l : List (QV × QD)} {k : Nat} {y : QV × QD} (h : k < l.length) (hy : y = l[k]) : cf (goods (l.map Prod.snd)) k = (nQ y.2, dQ y.2) := by
  unfold cf goods
  rw [List.getElem?_map, List.getElem?_map, List.getElem?_eq_getElem h, ← hy]
  rfl
theorem cf_out {l : List (QV × QD)} {k : Nat} (h : ¬ k < l.length) : cf (goods (l.map Prod.snd)) k = (0, 1) := by
  unfold cf goods
  rw [List.getElem?_map, List.getElem?_map, List.getElem?_eq_none (by omega)]
  rfl
end Go.Proofs.YtcbmecnipldcfaaGreat
namespace Go.Proofs.YtcbmecnipldcfaaGreat
open Go.RowKit
set_option linter.unusedVariables false
set_option maxRecDepth 100000
set_option linter.unusedSimpArgs false

def sumAt (ps qs : List (Int × Int)) (k : Nat) : Int × Int := (lowN ((cf ps k).1 * (cf qs k).2 + (cf qs k).1 * (cf ps k).2) ((cf ps k).2 * (cf qs k).2), lowD ((cf ps k).1 * (cf qs k).2 + (cf qs k).1 * (cf ps k).2) ((cf ps k).2 * (cf qs k).2))
def sums (ps qs : List (Int × Int)) (m : Nat) : List (Int × Int) := (List.range m).map (sumAt ps qs)
theorem sums_snoc (ps qs : List (Int × Int)) (k : Nat) : sums ps qs (k + 1) = sums ps qs k ++ [sumAt ps qs k] := by
  unfold sums; rw [List.range_succ, List.map_append]; rfl
theorem sum_ne {x y : Int} (h : 0 < x) (k : 0 < y) : x * y ≠ 0 := by have := Int.mul_pos h k; omega
/-- Sums, noughts at the end cut off. -/
def OutCu (w : World) (cs : List (Int × Int)) (e : Ending) (w' : World) : Prop := ∃ (a : Option Addr) (m c : Nat) (us : List (QV × QD)), e = .returned (.slice a m c) ∧ Below w.heap.size w w' ∧ IsL cs (us.map Prod.snd) ∧ CutAt (us.map Prod.snd) m ∧ PArQ w' a m c (us.take m)
theorem IsL.take : ∀ {cs : List (Int × Int)} {ds : List QD} (m : Nat), IsL cs ds → IsL (cs.take m) (ds.take m)
  | _, _, 0, _ => by simp [IsL]
  | [], [], m + 1, _ => by simp [IsL]
  | c :: cs, d :: ds, m + 1, h => ⟨h.1, IsL.take m h.2⟩
/-- What a sum answers: P says whether both are good. -/
def AnsS4 (P : Bool) (cs : List (Int × Int)) (ds : List QD) (ok : Bool) : Prop := (P = true ∧ ∃ es m, IsL cs es ∧ CutAt es m ∧ AnsP true (cs.take m) ds ok) ∨ (P = false ∧ ok = false ∧ ds = [])
theorem AnsS4.same {P : Bool} {cs : List (Int × Int)} {d d' : List QD} {ok ok' : Bool} (h : AnsS4 P cs d ok) (k : AnsS4 P cs d' ok') : d = d' ∧ ok = ok' := by
  rcases h with ⟨p, es, m, a, b, c⟩ | ⟨p, o, e⟩ <;> rcases k with ⟨p', es', m', a', b', c'⟩ | ⟨p', o', e'⟩
  · have e1 := a.same a'
    subst e1
    have e2 := b.same b'
    subst e2
    exact c.same c'
  · rw [p] at p'; cases p'
  · rw [p] at p'; cases p'
  · exact ⟨by rw [e, e'], by rw [o, o']⟩
end Go.Proofs.YtcbmecnipldcfaaGreat
namespace Go.Proofs.YtcbmecnipldcfaaGreat
open Go.RowKit
set_option linter.unusedVariables false
set_option maxRecDepth 100000
set_option linter.unusedSimpArgs false

theorem rep_rowQ {M : List Value} {us : List (QV × QD)} {n k : Nat} {u : QV} {d : QD} (hM : M.length = n * 4) (hn : us.length = n) (hk : k < n) (h : ∀ i (h : i < us.length), M[i * 4]? = some (.bool us[i].1.num.g) ∧ M[i * 4 + 1]? = some (.slice us[i].1.num.a us[i].1.num.n us[i].1.num.c) ∧ M[i * 4 + 2]? = some (.bool us[i].1.den.g) ∧ M[i * 4 + 3]? = some (.slice us[i].1.den.a us[i].1.den.n us[i].1.den.c)) :
    ∀ i (h : i < (us.set k (u, d)).length), ((((M.set (k * 4) (.bool u.num.g)).set (k * 4 + 1) (.slice u.num.a u.num.n u.num.c)).set (k * 4 + 2) (.bool u.den.g)).set (k * 4 + 3) (.slice u.den.a u.den.n u.den.c))[i * 4]? = some (.bool (us.set k (u, d))[i].1.num.g) ∧ ((((M.set (k * 4) (.bool u.num.g)).set (k * 4 + 1) (.slice u.num.a u.num.n u.num.c)).set (k * 4 + 2) (.bool u.den.g)).set (k * 4 + 3) (.slice u.den.a u.den.n u.den.c))[i * 4 + 1]? = some (.slice (us.set k (u, d))[i].1.num.a (us.set k (u, d))[i].1.num.n (us.set k (u, d))[i].1.num.c) ∧ ((((M.set (k * 4) (.bool u.num.g)).set (k * 4 + 1) (.slice u.num.a u.num.n u.num.c)).set (k * 4 + 2) (.bool u.den.g)).set (k * 4 + 3) (.slice u.den.a u.den.n u.den.c))[i * 4 + 2]? = some (.bool (us.set k (u, d))[i].1.den.g) ∧ ((((M.set (k * 4) (.bool u.num.g)).set (k * 4 + 1) (.slice u.num.a u.num.n u.num.c)).set (k * 4 + 2) (.bool u.den.g)).set (k * 4 + 3) (.slice u.den.a u.den.n u.den.c))[i * 4 + 3]? = some (.slice (us.set k (u, d))[i].1.den.a (us.set k (u, d))[i].1.den.n (us.set k (u, d))[i].1.den.c) := by
  intro i hi
  have hi' : i < us.length := by simpa using hi
  by_cases e : i = k
  · subst e
    rw [List.getElem_set_self]
    refine ⟨?_, ?_, ?_, ?_⟩
    · simp only [List.getElem?_set, List.length_set]; rw [if_neg (by omega), if_neg (by omega), if_neg (by omega)]; rw [if_pos trivial, if_pos (by omega)]
    · simp only [List.getElem?_set, List.length_set]; rw [if_neg (by omega), if_neg (by omega)]; rw [if_pos trivial, if_pos (by omega)]
    · simp only [List.getElem?_set, List.length_set]; rw [if_neg (by omega)]; rw [if_pos trivial, if_pos (by omega)]
    · simp only [List.getElem?_set, List.length_set]; rw [if_pos trivial, if_pos (by omega)]
  · have h1 := h i hi'
    rw [List.getElem_set_ne (Ne.symm e)]
    simp only [List.getElem?_set]
    refine ⟨?_, ?_, ?_, ?_⟩
    · rw [if_neg (by omega), if_neg (by omega), if_neg (by omega), if_neg (by omega)]; exact h1.1
    · rw [if_neg (by omega), if_neg (by omega), if_neg (by omega), if_neg (by omega)]; exact h1.2.1
    · rw [if_neg (by omega), if_neg (by omega), if_neg (by omega), if_neg (by omega)]; exact h1.2.2.1
    · rw [if_neg (by omega), if_neg (by omega), if_neg (by omega), if_neg (by omega)]; exact h1.2.2.2
/-- Numbers in the midst are replaced by newer ones. -/
theorem AllOwn.repl {lo hi hi' : Nat} {w : World} {A R B U : List (BV × BD)} (h : AllOwn lo hi w (A ++ R ++ B)) (k : AllOwn hi hi' w U) (h1 : lo ≤ hi) (h2 : hi ≤ hi') : AllOwn lo hi' w (A ++ U ++ B) := by
  have hAp : (A ++ R).Pairwise Ap ∧ B.Pairwise Ap ∧ ∀ p ∈ A ++ R, ∀ q ∈ B, Ap p q := List.pairwise_append.1 h.ap
  have hA := (List.pairwise_append.1 hAp.1).1
  have oA : ∀ p ∈ A, OwB2 lo hi w p.1 p.2 := fun p hp => h.own p (List.mem_append_left _ (List.mem_append_left _ hp))
  have oB : ∀ p ∈ B, OwB2 lo hi w p.1 p.2 := fun p hp => h.own p (List.mem_append_right _ hp)
  refine ⟨fun p hp => ?_, List.pairwise_append.2 ⟨List.pairwise_append.2 ⟨hA, k.ap, fun p hp q hq => dis_parts (oA p hp).own (k.own q hq).own (.inl (Nat.le_refl _))⟩, hAp.2.1, fun p hp q hq => ?_⟩⟩
  · rcases List.mem_append.1 hp with hp | hp
    · rcases List.mem_append.1 hp with hp | hp
      · exact ⟨(oA p hp).sg, (oA p hp).own.wide (Nat.le_refl _) h2, (oA p hp).len⟩
      · exact ⟨(k.own p hp).sg, (k.own p hp).own.wide h1 (Nat.le_refl _), (k.own p hp).len⟩
    · exact ⟨(oB p hp).sg, (oB p hp).own.wide (Nat.le_refl _) h2, (oB p hp).len⟩
  · rcases List.mem_append.1 hp with hp | hp
    · exact hAp.2.2 p (List.mem_append_left _ hp) q hq
    · exact dis_parts (k.own p hp).own (oB q hq).own (.inr (Nat.le_refl _))
theorem zip_set {us : List (QV × QD)} {k : Nat} {u : QV × QD} (h : k < us.length) : zipPQ us = zipPQ (us.take k) ++ zipPQ [us[k]] ++ zipPQ (us.drop (k + 1)) ∧ zipPQ (us.set k u) = zipPQ (us.take k) ++ zipPQ [u] ++ zipPQ (us.drop (k + 1)) := by
  constructor
  · rw [← zipPQ_append, ← zipPQ_append]
    congr 1
    rw [List.append_assoc]
    show us = us.take k ++ (us[k] :: us.drop (k + 1))
    rw [← List.drop_eq_getElem_cons h, List.take_append_drop]
  · rw [← zipPQ_append, ← zipPQ_append]
    congr 1
    rw [List.set_eq_take_append_cons_drop, if_pos h, List.append_assoc]
    rfl
theorem IsL.set : ∀ {cs : List (Int × Int)} {ds : List QD} {c : Int × Int} {d : QD} (k : Nat), IsL cs ds → IsD c d → IsL (cs.set k c) (ds.set k d)
  | [], [], _, _, _, _, _ => by simp [IsL]
  | _ :: _, _ :: _, _, _, 0, h, hd => ⟨hd, h.2⟩
  | _ :: _, _ :: _, _, _, k + 1, h, hd => ⟨h.1, IsL.set k h.2 hd⟩
theorem IsL.get : ∀ {cs : List (Int × Int)} {ds : List QD} {c : Int × Int} {d : QD} (k : Nat), IsL cs ds → cs[k]? = some c → ds[k]? = some d → IsD c d
  | [], [], _, _, _, _, hc, _ => by simp at hc
  | _ :: _, _ :: _, _, _, 0, h, hc, hd => by
    simp only [List.getElem?_cons_zero, Option.some.injEq] at hc hd
    subst hc hd
    exact h.1
  | _ :: _, _ :: _, _, _, k + 1, h, hc, hd => IsL.get k h.2 (by simpa using hc) (by simpa using hd)
end Go.Proofs.YtcbmecnipldcfaaGreat
namespace Go.Proofs.YtcbmecnipldcfaaGreat
open Go.RowKit
set_option linter.unusedVariables false
set_option maxRecDepth 100000
set_option linter.unusedSimpArgs false

end Go.Proofs.YtcbmecnipldcfaaGreat
namespace Go.Proofs.YtcbmecnipldcfaaGreat
open Go.RowKit
set_option linter.unusedVariables false
set_option maxRecDepth 100000
set_option linter.unusedSimpArgs false

def wholes (xs : List Int) : List (Int × Int) := xs.map fun x => (x, 1)
/-- What PolyOf answers: P says whether the integers are taken. -/
def AnsO (P : Bool) (xs : List Int) (ds : List QD) (ok : Bool) : Prop := (P = true ∧ ok = true ∧ ∃ es m, IsL (wholes xs) es ∧ CutAt es m ∧ ds = es.take m) ∨ (P = false ∧ ok = false ∧ ds = [])
theorem AnsO.same {P : Bool} {xs : List Int} {d d' : List QD} {ok ok' : Bool} (h : AnsO P xs d ok) (k : AnsO P xs d' ok') : d = d' ∧ ok = ok' := by
  rcases h with ⟨p, o, es, m, a, b, c⟩ | ⟨p, o, e⟩ <;> rcases k with ⟨p', o', es', m', a', b', c'⟩ | ⟨p', o', e'⟩
  · have e1 := a.same a'
    subst e1
    have e2 := b.same b'
    subst e2
    exact ⟨by rw [c, c'], by rw [o, o']⟩
  · rw [p] at p'; cases p'
  · rw [p] at p'; cases p'
  · exact ⟨by rw [e, e'], by rw [o, o']⟩
end Go.Proofs.YtcbmecnipldcfaaGreat
namespace Go.Proofs.YtcbmecnipldcfaaGreat
open Go.RowKit
set_option linter.unusedVariables false
set_option maxRecDepth 100000
set_option linter.unusedSimpArgs false

/-- One more product is added. -/
def mulAt (x c d : Int × Int) : Int × Int := (lowN (x.1 * lowD (c.1 * d.1) (c.2 * d.2) + lowN (c.1 * d.1) (c.2 * d.2) * x.2) (x.2 * lowD (c.1 * d.1) (c.2 * d.2)), lowD (x.1 * lowD (c.1 * d.1) (c.2 * d.2) + lowN (c.1 * d.1) (c.2 * d.2) * x.2) (x.2 * lowD (c.1 * d.1) (c.2 * d.2)))
def setAt (cs : List (Int × Int)) (k : Nat) (c d : Int × Int) : List (Int × Int) := cs.set k (mulAt (cf cs k) c d)
def mrow (c : Int × Int) (qs : List (Int × Int)) (i : Nat) : Nat → List (Int × Int) → List (Int × Int)
  | 0, cs => cs
  | j + 1, cs => setAt (mrow c qs i j cs) (i + j) c (cf qs j)
def mall (ps qs : List (Int × Int)) (m : Nat) : Nat → List (Int × Int) → List (Int × Int)
  | 0, cs => cs
  | i + 1, cs => mrow (cf ps i) qs i m (mall ps qs m i cs)
theorem setAt_len (cs : List (Int × Int)) (k : Nat) (c d : Int × Int) : (setAt cs k c d).length = cs.length := by unfold setAt; rw [List.length_set]
theorem mrow_len (c : Int × Int) (qs : List (Int × Int)) (i : Nat) (cs : List (Int × Int)) : ∀ j, (mrow c qs i j cs).length = cs.length
  | 0 => rfl
  | j + 1 => by show (setAt (mrow c qs i j cs) _ _ _).length = _; rw [setAt_len]; exact mrow_len c qs i cs j
theorem mall_len (ps qs : List (Int × Int)) (m : Nat) (cs : List (Int × Int)) : ∀ i, (mall ps qs m i cs).length = cs.length
  | 0 => rfl
  | i + 1 => by show (mrow _ _ _ _ _).length = _; rw [mrow_len]; exact mall_len ps qs m cs i
theorem cf_get {cs : List (Int × Int)} {k : Nat} (h : k < cs.length) : cs[k]? = some (cf cs k) := by unfold cf; rw [List.getElem?_eq_getElem h]; rfl
def noughts (N : Nat) : List (Int × Int) := List.replicate N (0, 1)
theorem noughts_snoc (N : Nat) : noughts (N + 1) = noughts N ++ [(0, 1)] := by unfold noughts; exact List.replicate_succ'
structure Mg (t : Nat) (c : Int × Int) : Prop where
  low : Low c.1 c.2
  kn : Bd c.1 (200 * t + 1)
  kd : Bd c.2 (200 * t + 1)
theorem Mg.mono {t t' : Nat} {c : Int × Int} (h : Mg t c) (k : t ≤ t') : Mg t' c := ⟨h.low, h.kn.mono (by omega), h.kd.mono (by omega)⟩
theorem mg_nought (t : Nat) : Mg t (0, 1) := ⟨⟨by decide, rfl⟩, (Bd.small (by decide)).mono (by omega), (Bd.small (by decide)).mono (by omega)⟩
def MgL (t : Nat) (cs : List (Int × Int)) : Prop := ∀ c ∈ cs, Mg t c
theorem MgL.cf {t : Nat} {cs : List (Int × Int)} (h : MgL t cs) (k : Nat) : Mg t (cf cs k) := by
  unfold Go.Proofs.YtcbmecnipldcfaaGreat.cf
  by_cases hk : k < cs.length
  · rw [List.getElem?_eq_getElem hk]; exact h _ (List.getElem_mem hk)
  · rw [List.getElem?_eq_none (by omega)]; exact mg_nought t
end Go.Proofs.YtcbmecnipldcfaaGreat
namespace Go.Proofs.YtcbmecnipldcfaaGreat
open Go.RowKit
set_option linter.unusedVariables false
set_option maxRecDepth 100000
set_option linter.unusedSimpArgs false

end Go.Proofs.YtcbmecnipldcfaaGreat
namespace Go.Proofs.YtcbmecnipldcfaaGreat
open Go.RowKit
set_option linter.unusedVariables false
set_option maxRecDepth 100000
set_option linter.unusedSimpArgs false

theorem low_cross2 {N D : Int} (h : D ≠ 0) : lowN N D * D = N * lowD N D := by
  by_cases hD : 0 < D
  · exact low_cross hD
  · have hD : D < 0 := by omega
    have hg := gcd_pos_right (N := N) h
    have d1 : ((Nat.gcd N.natAbs D.natAbs : Nat) : Int) ∣ (N.natAbs : Int) := by exact_mod_cast Nat.gcd_dvd_left _ _
    have d2 : ((Nat.gcd N.natAbs D.natAbs : Nat) : Int) ∣ (D.natAbs : Int) := by exact_mod_cast Nat.gcd_dvd_right _ _
    have m1 := Int.ediv_mul_cancel d1
    have m2 := Int.ediv_mul_cancel d2
    unfold lowN lowD lowU sU
    generalize (N.natAbs : Int) / ((Nat.gcd N.natAbs D.natAbs : Nat) : Int) = a at *
    generalize (D.natAbs : Int) / ((Nat.gcd N.natAbs D.natAbs : Nat) : Int) = b at *
    generalize ((Nat.gcd N.natAbs D.natAbs : Nat) : Int) = g at *
    rw [decide_eq_true hD]
    have hD : D = -(b * g) := by omega
    by_cases c : N < 0
    · have hN : N = -(a * g) := by omega
      rw [decide_eq_true c, if_neg (by simp), hN, hD]
      simp only [Int.neg_mul, Int.mul_neg, Int.mul_comm, Int.mul_left_comm]
    · have hN : N = a * g := by omega
      rw [decide_eq_false c, if_pos (by rfl), hN, hD]
      simp only [Int.neg_mul, Int.mul_neg, Int.neg_neg, Int.mul_comm, Int.mul_left_comm]
end Go.Proofs.YtcbmecnipldcfaaGreat
namespace Go.Proofs.YtcbmecnipldcfaaGreat
open Go.RowKit
set_option linter.unusedVariables false
set_option maxRecDepth 100000
set_option linter.unusedSimpArgs false

/-- A rational number as numerator and denominator. -/
def rp (q : Rat) : Int × Int := (q.num, (q.den : Int))
theorem rp_pos (q : Rat) : 0 < (rp q).2 := by have := q.den_nz; show (0 : Int) < (q.den : Int); omega
theorem rp_low (q : Rat) : Low (rp q).1 (rp q).2 := ⟨rp_pos q, by show Nat.gcd q.num.natAbs ((q.den : Int)).natAbs = 1; rw [Int.natAbs_natCast]; exact q.reduced⟩
theorem rp_self (q : Rat) : Rat.divInt (rp q).1 (rp q).2 = q := Rat.num_divInt_den q
theorem low_rp {N D : Int} (h : D ≠ 0) : (lowN N D, lowD N D) = rp (Rat.divInt N D) := by
  have h1 := rp_self (Rat.divInt N D)
  have h2 := (Rat.divInt_eq_divInt_iff (Int.ne_of_gt (rp_pos _)) h).1 h1
  have h3 := low_cross2 (N := N) h
  have h4 := (low_low (N := N) h).same (rp_low (Rat.divInt N D)) (by
    generalize (rp (Rat.divInt N D)).1 = a at *
    generalize (rp (Rat.divInt N D)).2 = b at *
    refine Int.eq_of_mul_eq_mul_right h ?_
    grind)
  exact Prod.ext h4.1 h4.2
theorem low_is {c : Int × Int} (h : Low c.1 c.2) : c = rp (Rat.divInt c.1 c.2) := by
  have h1 := low_rp (N := c.1) (Int.ne_of_gt h.pos)
  have h2 := (low_low (N := c.1) (Int.ne_of_gt h.pos)).same h (low_cross h.pos)
  rw [← h1, h2.1, h2.2]
theorem rp_nz (q : Rat) : (rp q).1 = 0 ↔ q = 0 := Rat.num_eq_zero
theorem rp_add (x y : Rat) : (lowN ((rp x).1 * (rp y).2 + (rp y).1 * (rp x).2) ((rp x).2 * (rp y).2), lowD ((rp x).1 * (rp y).2 + (rp y).1 * (rp x).2) ((rp x).2 * (rp y).2)) = rp (x + y) := by
  have hx := Int.ne_of_gt (rp_pos x)
  have hy := Int.ne_of_gt (rp_pos y)
  rw [low_rp (Int.mul_ne_zero hx hy), ← Rat.divInt_add_divInt _ _ hx hy, rp_self, rp_self]
theorem rp_mul (x y : Rat) : (lowN ((rp x).1 * (rp y).1) ((rp x).2 * (rp y).2), lowD ((rp x).1 * (rp y).1) ((rp x).2 * (rp y).2)) = rp (x * y) := by
  have hx := Int.ne_of_gt (rp_pos x)
  have hy := Int.ne_of_gt (rp_pos y)
  rw [low_rp (Int.mul_ne_zero hx hy), ← Rat.divInt_mul_divInt, rp_self, rp_self]
theorem mulAt_rp (x c d : Rat) : mulAt (rp x) (rp c) (rp d) = rp (x + c * d) := by
  have h := rp_mul c d
  have h1 := congrArg Prod.fst h
  have h2 := congrArg Prod.snd h
  unfold mulAt
  simp only at h1 h2
  rw [h1, h2]
  exact rp_add x (c * d)
/-- A rational number of few limbs. -/
structure BdR (q : Rat) (L : Nat) : Prop where
  n : Bd (rp q).1 L
  d : Bd (rp q).2 L
theorem BdR.mono {q : Rat} {L L' : Nat} (h : BdR q L) (k : L ≤ L') : BdR q L' := ⟨h.n.mono k, h.d.mono k⟩
theorem BdR.add {x y : Rat} {L K : Nat} (h : BdR x L) (k : BdR y K) : BdR (x + y) (L + K + 1) := by
  have e := rp_add x y
  constructor
  · rw [← congrArg Prod.fst e]
    exact lowN_bd ((((h.n.mul k.d).mono (Nat.le_refl _)).add ((k.n.mul h.d).mono (by omega))))
  · rw [← congrArg Prod.snd e]
    exact lowD_bd ((h.d.mul k.d).mono (by omega))
theorem BdR.mul {x y : Rat} {L K : Nat} (h : BdR x L) (k : BdR y K) : BdR (x * y) (L + K) := by
  have e := rp_mul x y
  constructor
  · rw [← congrArg Prod.fst e]
    exact lowN_bd (h.n.mul k.n)
  · rw [← congrArg Prod.snd e]
    exact lowD_bd (h.d.mul k.d)
theorem bdR_zero : BdR 0 1 := ⟨⟨by decide⟩, ⟨by decide⟩⟩
theorem bdR_one : BdR 1 1 := ⟨⟨by decide⟩, ⟨by decide⟩⟩
/-- Coefficients as rational numbers. -/
def rps (qs : List Rat) : List (Int × Int) := qs.map rp
def ct (qs : List Rat) (k : Nat) : Rat := (qs[k]?).getD 0
theorem cf_rps (qs : List Rat) (k : Nat) : cf (rps qs) k = rp (ct qs k) := by
  unfold cf rps ct
  rw [List.getElem?_map]
  cases qs[k]? <;> rfl
theorem sumAt_rps (ps qs : List Rat) (k : Nat) : sumAt (rps ps) (rps qs) k = rp (ct ps k + ct qs k) := by
  unfold sumAt
  rw [cf_rps, cf_rps]
  exact rp_add _ _
theorem sums_rps (ps qs : List Rat) (m : Nat) : sums (rps ps) (rps qs) m = rps ((List.range m).map fun k => ct ps k + ct qs k) := by
  unfold sums rps
  rw [List.map_map]
  congr 1
  funext k
  exact sumAt_rps ps qs k
theorem noughts_rps (N : Nat) : noughts N = rps (List.replicate N 0) := by unfold noughts rps; rw [List.map_replicate]; rfl
/-- A row of a product, as rational numbers. -/
def mrw (c : Rat) (qs : List Rat) (i : Nat) : Nat → List Rat → List Rat
  | 0, cs => cs
  | j + 1, cs => (mrw c qs i j cs).set (i + j) (ct (mrw c qs i j cs) (i + j) + c * ct qs j)
def mll (ps qs : List Rat) (m : Nat) : Nat → List Rat → List Rat
  | 0, cs => cs
  | i + 1, cs => mrw (ct ps i) qs i m (mll ps qs m i cs)
theorem mrow_rps (c : Rat) (qs : List Rat) (i : Nat) (cs : List Rat) : ∀ j, mrow (rp c) (rps qs) i j (rps cs) = rps (mrw c qs i j cs)
  | 0 => rfl
  | j + 1 => by
    show setAt (mrow (rp c) (rps qs) i j (rps cs)) (i + j) (rp c) (cf (rps qs) j) = _
    rw [mrow_rps c qs i cs j, cf_rps]
    unfold setAt
    rw [cf_rps, mulAt_rp]
    show (rps (mrw c qs i j cs)).set (i + j) (rp (ct (mrw c qs i j cs) (i + j) + c * ct qs j)) = rps ((mrw c qs i j cs).set (i + j) (ct (mrw c qs i j cs) (i + j) + c * ct qs j))
    unfold rps
    rw [List.map_set]
theorem mall_rps (ps qs : List Rat) (m : Nat) (cs : List Rat) : ∀ i, mall (rps ps) (rps qs) m i (rps cs) = rps (mll ps qs m i cs)
  | 0 => rfl
  | i + 1 => by
    show mrow (cf (rps ps) i) (rps qs) i m (mall (rps ps) (rps qs) m i (rps cs)) = _
    rw [mall_rps ps qs m cs i, cf_rps, mrow_rps]
    rfl
/-- A polynomial at x and a more, by its values from the highest one down. -/
def hs (a : Rat) : List Rat → List Rat
  | [] => []
  | c :: t => (c + ct (hs a t) 0 * a) :: hs a t
theorem hs_len (a : Rat) : ∀ u, (hs a u).length = u.length
  | [] => rfl
  | c :: t => by simp [hs, hs_len a t]
def pS (a : Rat) : Nat → List Rat → List Rat
  | 0, _ => []
  | n + 1, u => ct (hs a u) 0 :: pS a n (hs a u).tail
/-- The next coefficients: those of x and a more, times what is known. -/
def stp (a : Rat) : List Rat → List Rat
  | [] => []
  | [x] => [x]
  | x :: y :: t => (x + y * a) :: stp a (y :: t)
def hS (a : Rat) : List Rat → List Rat
  | [] => []
  | c :: t => (c + ct (hS a t) 0 * a) :: stp a (hS a t)
theorem pS_hs (a : Rat) : ∀ (n : Nat) (u : List Rat), u.length = n → pS a n (hs a u) = stp a (pS a n u)
  | 0, u, h => rfl
  | 1, [c], h => by simp [pS, hs, ct, stp]; grind
  | n + 2, c :: d :: t, h => by
    have hl : (hs a (d :: t)).length = n + 1 := by rw [hs_len]; simpa using h
    obtain ⟨x, r, e⟩ : ∃ x r, hs a (d :: t) = x :: r := by
      cases e : hs a (d :: t) with
      | nil => rw [e] at hl; simp at hl
      | cons x r => exact ⟨x, r, rfl⟩
    have e2 : hs a (c :: d :: t) = (c + x * a) :: x :: r := by
      show (c + ct (hs a (d :: t)) 0 * a) :: hs a (d :: t) = _
      rw [e]
      rfl
    have ih := pS_hs a (n + 1) (x :: r) (by rw [← e]; exact hl)
    show ct (hs a (hs a (c :: d :: t))) 0 :: pS a (n + 1) (hs a (hs a (c :: d :: t))).tail = stp a (ct (hs a (c :: d :: t)) 0 :: pS a (n + 1) (hs a (c :: d :: t)).tail)
    rw [e2]
    show ((c + x * a) + ct (hs a (x :: r)) 0 * a) :: pS a (n + 1) (hs a (x :: r)) = stp a ((c + x * a) :: pS a (n + 1) (x :: r))
    rw [ih]
    rfl
theorem pS_hS (a : Rat) : ∀ (u : List Rat), pS a u.length u = hS a u
  | [] => rfl
  | c :: t => by
    show ct (hs a (c :: t)) 0 :: pS a t.length (hs a (c :: t)).tail = _
    have e : (hs a (c :: t)).tail = hs a t := rfl
    rw [e, pS_hs a t.length t rfl, pS_hS a t]
    show (c + ct (hs a t) 0 * a) :: _ = (c + ct (hS a t) 0 * a) :: _
    congr 2
    rw [← pS_hS a t]
    cases t with
    | nil => rfl
    | cons d r => rfl
end Go.Proofs.YtcbmecnipldcfaaGreat
namespace Go.Proofs.YtcbmecnipldcfaaGreat
open Go.RowKit
set_option linter.unusedVariables false
set_option maxRecDepth 100000
set_option linter.unusedSimpArgs false

theorem ct_cons0 (c : Rat) (t : List Rat) : ct (c :: t) 0 = c := rfl
theorem ct_consS (c : Rat) (t : List Rat) (k : Nat) : ct (c :: t) (k + 1) = ct t k := rfl
theorem ct_nil (k : Nat) : ct [] k = 0 := rfl
theorem ct_out {l : List Rat} {k : Nat} (h : l.length ≤ k) : ct l k = 0 := by unfold ct; rw [List.getElem?_eq_none h]; rfl
theorem ct_append_left {l m : List Rat} {k : Nat} (h : k < l.length) : ct (l ++ m) k = ct l k := by unfold ct; rw [List.getElem?_append_left h]
theorem ct_append_right {l m : List Rat} {k : Nat} (h : l.length ≤ k) : ct (l ++ m) k = ct m (k - l.length) := by unfold ct; rw [List.getElem?_append_right h]
theorem ct_take {l : List Rat} {k j : Nat} (h : j < k) : ct (l.take k) j = ct l j := by unfold ct; rw [List.getElem?_take, if_pos h]
theorem ct_drop (l : List Rat) (k j : Nat) : ct (l.drop k) j = ct l (k + j) := by unfold ct; rw [List.getElem?_drop]
theorem ct_set {l : List Rat} {k j : Nat} {x : Rat} (h : k < l.length) : ct (l.set k x) j = if j = k then x else ct l j := by
  unfold ct
  rw [List.getElem?_set]
  by_cases e : k = j
  · subst e; simp [h]
  · rw [if_neg e, if_neg (fun e' => e e'.symm)]
theorem ct_ext {l m : List Rat} (hl : l.length = m.length) (h : ∀ k, k < l.length → ct l k = ct m k) : l = m := by
  refine List.ext_getElem hl fun k h1 h2 => ?_
  have := h k h1
  unfold ct at this
  rw [List.getElem?_eq_getElem h1, List.getElem?_eq_getElem h2] at this
  exact this
theorem ct_get {l : List Rat} {k : Nat} (h : k < l.length) : l[k]? = some (ct l k) := by unfold ct; rw [List.getElem?_eq_getElem h]; rfl
/-- A round of divisions, done down to k. -/
def inn (a : Rat) (u : List Rat) (k : Nat) : List Rat := u.take k ++ hs a (u.drop k)
theorem inn_len {a : Rat} {u : List Rat} {k : Nat} (h : k ≤ u.length) : (inn a u k).length = u.length := by
  unfold inn; rw [List.length_append, hs_len, List.length_take, List.length_drop]; omega
theorem hs_cons (a c : Rat) (t : List Rat) : hs a (c :: t) = (c + ct (hs a t) 0 * a) :: hs a t := rfl
theorem inn_step {a : Rat} {u : List Rat} {i : Nat} (h : i < u.length) : (inn a u (i + 1)).set i (ct (inn a u (i + 1)) i + ct (inn a u (i + 1)) (i + 1) * a) = inn a u i := by
  have e1 : u.drop i = ct u i :: u.drop (i + 1) := by rw [List.drop_eq_getElem_cons h]; unfold ct; rw [List.getElem?_eq_getElem h]; rfl
  have l1 : (u.take (i + 1)).length = i + 1 := by rw [List.length_take]; omega
  have c1 : ct (inn a u (i + 1)) i = ct u i := by unfold inn; rw [ct_append_left (by omega), ct_take (by omega)]
  have c2 : ct (inn a u (i + 1)) (i + 1) = ct (hs a (u.drop (i + 1))) 0 := by unfold inn; rw [ct_append_right (by omega), l1, Nat.sub_self]
  rw [c1, c2]
  have hl := inn_len (a := a) (u := u) (k := i + 1) (by omega)
  refine ct_ext (by rw [List.length_set, hl, inn_len (by omega)]) fun k hk => ?_
  rw [List.length_set, hl] at hk
  rw [ct_set (by omega)]
  have l0 : (u.take i).length = i := by rw [List.length_take]; omega
  by_cases e : k = i
  · subst e
    rw [if_pos rfl]
    unfold inn
    rw [ct_append_right (by omega), l0, Nat.sub_self, e1, hs_cons, ct_cons0]
  · rw [if_neg e]
    unfold inn
    by_cases e2 : k < i
    · rw [ct_append_left (by omega), ct_append_left (by omega), ct_take (by omega), ct_take (by omega)]
    · rw [ct_append_right (by omega), ct_append_right (by omega), l0, l1, e1, hs_cons]
      obtain ⟨j, rfl⟩ : ∃ j, k = i + 1 + j := ⟨k - (i + 1), by omega⟩
      rw [show i + 1 + j - (i + 1) = j by omega, show i + 1 + j - i = j + 1 by omega, ct_consS]
theorem inn_start {a : Rat} {u : List Rat} (h : 0 < u.length) : inn a u (u.length - 1) = u := by
  have h1 : u.length - 1 < u.length := by omega
  have e1 : u.drop (u.length - 1) = [ct u (u.length - 1)] := by
    rw [List.drop_eq_getElem_cons h1, List.drop_eq_nil_of_le (by omega)]; unfold ct; rw [List.getElem?_eq_getElem h1]; rfl
  unfold inn
  rw [e1]
  have e2 : hs a [ct u (u.length - 1)] = [ct u (u.length - 1)] := by show [ct u (u.length - 1) + ct [] 0 * a] = _; rw [ct_nil]; congr 1; grind
  rw [e2, ← e1, List.take_append_drop]
def rnds (a : Rat) (ps : List Rat) : Nat → List Rat
  | 0 => ps
  | r + 1 => inn a (rnds a ps r) r
theorem rnds_len {a : Rat} {ps : List Rat} : ∀ {r : Nat}, r ≤ ps.length → (rnds a ps r).length = ps.length
  | 0, _ => rfl
  | r + 1, h => by show (inn a (rnds a ps r) r).length = _; rw [inn_len (by rw [rnds_len (by omega)]; omega), rnds_len (by omega)]
theorem rnds_pS (a : Rat) (ps : List Rat) : ∀ (k r : Nat) (xs ys : List Rat), rnds a ps r = xs ++ ys → xs.length = r → ys.length = k → rnds a ps (r + k) = xs ++ pS a k ys
  | 0, r, xs, ys, h, hx, hy => by
    have : ys = [] := List.length_eq_zero_iff.1 hy
    subst this
    show rnds a ps r = xs ++ []
    rw [h]
  | k + 1, r, xs, ys, h, hx, hy => by
    have e : rnds a ps (r + 1) = xs ++ hs a ys := by
      show inn a (rnds a ps r) r = _
      unfold inn
      rw [h, List.take_left' hx, List.drop_left' hx]
    have hl : (hs a ys).length = k + 1 := by rw [hs_len]; exact hy
    obtain ⟨x, t, e2⟩ : ∃ x t, hs a ys = x :: t := by
      cases e2 : hs a ys with
      | nil => rw [e2] at hl; simp at hl
      | cons x t => exact ⟨x, t, rfl⟩
    rw [e2] at hl
    have ih := rnds_pS a ps k (r + 1) (xs ++ [x]) t (by rw [e, e2]; simp) (by simp [hx]) (by simpa using hl)
    rw [show r + (k + 1) = r + 1 + k by omega, ih]
    show xs ++ [x] ++ pS a k t = xs ++ (ct (hs a ys) 0 :: pS a k (hs a ys).tail)
    rw [e2]
    simp [ct]
theorem rnds_hS (a : Rat) (ps : List Rat) : rnds a ps ps.length = hS a ps := by
  have h := rnds_pS a ps ps.length 0 [] ps rfl rfl rfl
  rw [Nat.zero_add, List.nil_append] at h
  rw [h, pS_hS]
/-- How long coefficients may be behind r rounds. -/
def mB : Nat → Nat
  | 0 => 6
  | r + 1 => (7 - r) * (mB r + 7) + 1
theorem mB_le {r : Nat} (h : r ≤ 7) : mB r ≤ 72600 := by
  have : ∀ k : Fin 8, mB k.val ≤ 72600 := by decide
  exact this ⟨r, by omega⟩
theorem mB_up {r : Nat} (h : r ≤ 6) : mB r ≤ mB (r + 1) := by
  have : ∀ k : Fin 7, mB k.val ≤ mB (k.val + 1) := by decide
  exact this ⟨r, by omega⟩
theorem hs_bd {a : Rat} {M : Nat} (ha : BdR a 6) : ∀ {u : List Rat}, (∀ q ∈ u, BdR q M) → ∀ j, BdR (ct (hs a u) j) (u.length * (M + 7) + 1)
  | [], h, j => by rw [show ct (hs a []) j = 0 from rfl]; exact bdR_zero.mono (by omega)
  | c :: t, h, 0 => by
    rw [hs_cons, ct_cons0]
    refine ((h c List.mem_cons_self).add ((hs_bd ha (fun q hq => h q (List.mem_cons_of_mem _ hq)) 0).mul ha)).mono ?_
    rw [List.length_cons, Nat.succ_mul]
    omega
  | c :: t, h, j + 1 => by
    rw [hs_cons, ct_consS]
    refine (hs_bd ha (fun q hq => h q (List.mem_cons_of_mem _ hq)) j).mono ?_
    rw [List.length_cons, Nat.succ_mul]
    omega
def AllB (u : List Rat) (M : Nat) : Prop := ∀ q ∈ u, BdR q M
theorem AllB.ct {u : List Rat} {M : Nat} (h : AllB u M) (hM : 1 ≤ M) (j : Nat) : BdR (ct u j) M := by
  by_cases hj : j < u.length
  · unfold Go.Proofs.YtcbmecnipldcfaaGreat.ct; rw [List.getElem?_eq_getElem hj]; exact h _ (List.getElem_mem hj)
  · rw [ct_out (by omega)]; exact bdR_zero.mono hM
theorem allB_of {u : List Rat} {M : Nat} (h : ∀ j, BdR (ct u j) M) : AllB u M := fun q hq => by
  obtain ⟨j, hj, rfl⟩ := List.mem_iff_getElem.1 hq
  have := h j
  unfold ct at this
  rw [List.getElem?_eq_getElem hj] at this
  exact this
theorem mB_pos (r : Nat) : 1 ≤ mB r := by cases r <;> simp [mB]
theorem inn_bd {a : Rat} {u : List Rat} {r k : Nat} (ha : BdR a 6) (h : AllB u (mB r)) (hr : r ≤ 6) (hk : r ≤ k) (hu : u.length ≤ 7) : AllB (inn a u k) (mB (r + 1)) := allB_of fun j => by
  unfold inn
  have h1 : AllB (u.drop k) (mB r) := fun q hq => h q (List.mem_of_mem_drop hq)
  by_cases hj : j < (u.take k).length
  · rw [ct_append_left hj, ct_take (by rw [List.length_take] at hj; omega)]
    exact (h.ct (mB_pos r) j).mono (mB_up hr)
  · rw [ct_append_right (by omega)]
    refine (hs_bd ha h1 _).mono ?_
    show _ ≤ (7 - r) * (mB r + 7) + 1
    have : (u.drop k).length * (mB r + 7) ≤ (7 - r) * (mB r + 7) := Nat.mul_le_mul_right _ (by rw [List.length_drop]; omega)
    omega
theorem rnds_bd {a : Rat} {ps : List Rat} (ha : BdR a 6) (h : AllB ps 6) (hp : ps.length ≤ 7) : ∀ {r : Nat}, r ≤ ps.length → AllB (rnds a ps r) (mB r)
  | 0, _ => h
  | r + 1, hr => inn_bd ha (rnds_bd ha h hp (by omega)) (by omega) (Nat.le_refl _) (by rw [rnds_len (by omega)]; exact hp)
end Go.Proofs.YtcbmecnipldcfaaGreat
namespace Go.Proofs.YtcbmecnipldcfaaGreat
open Go.RowKit
set_option linter.unusedVariables false
set_option maxRecDepth 100000
set_option linter.unusedSimpArgs false

theorem isQ_isD {w : World} {q : QV} {d : QD} {c : Int × Int} (h : AllAr w [(q.num, d.num), (q.den, d.den)]) (k : IsD c d) : IsQ w q c.1 c.2 := by
  obtain ⟨⟨g, xs⟩, ⟨g', us⟩⟩ := d
  obtain ⟨g1, n1, g2, n2⟩ := k
  simp only at g1 g2 n1 n2 h
  subst g1 g2
  exact isQ_of h n1 n2
end Go.Proofs.YtcbmecnipldcfaaGreat
namespace Go.Proofs.YtcbmecnipldcfaaGreat
open Go.RowKit
set_option linter.unusedVariables false
set_option maxRecDepth 100000
set_option linter.unusedSimpArgs false

theorem flatC_set : ∀ (us : List (QV × QD)) (k : Nat) (u : QV) (d : QD), k < us.length → ((((flatC us).set (k * 4) (.bool u.num.g)).set (k * 4 + 1) (.slice u.num.a u.num.n u.num.c)).set (k * 4 + 2) (.bool u.den.g)).set (k * 4 + 3) (.slice u.den.a u.den.n u.den.c) = flatC (us.set k (u, d))
  | [], k, u, d, h => by simp at h
  | p :: us, 0, u, d, h => by simp [flatC]
  | p :: us, k + 1, u, d, h => by
    have ih := flatC_set us k u d (by simpa using h)
    rw [show (k + 1) * 4 = k * 4 + 4 by omega]
    simp only [flatC, List.set_cons_succ]
    rw [← ih]
theorem typ_set {w : World} {us : List (QV × QD)} {k : Nat} {u : QV} {d : QD} (h : Typ w (zipPQ us)) (hu : Typ w [(u.num, d.num), (u.den, d.den)]) : Typ w (zipPQ (us.set k (u, d))) := fun p hp => by
  obtain ⟨q, hq, hp⟩ := List.mem_flatMap.1 hp
  rcases List.mem_or_eq_of_mem_set hq with e | e
  · exact h p (zipPQ_mem e hp)
  · subst e; exact hu p hp
theorem ar_set {w : World} {us : List (QV × QD)} {k : Nat} {u : QV} {d : QD} (h : AllAr w (zipPQ us)) (hu : AllAr w [(u.num, d.num), (u.den, d.den)]) : AllAr w (zipPQ (us.set k (u, d))) := fun p hp => by
  obtain ⟨q, hq, hp⟩ := List.mem_flatMap.1 hp
  rcases List.mem_or_eq_of_mem_set hq with e | e
  · exact h p (zipPQ_mem e hp)
  · subst e; exact hu p hp
theorem But.grown {g : Nat} {w w' : World} (h : But g (g + 1) w w') : w.grownBy w' (some g) := ⟨h.os, h.tape, h.output, h.size, fun k hk hr => h.block k hk (by have : k ≠ g := fun e => hr (by rw [e]); omega)⟩
end Go.Proofs.YtcbmecnipldcfaaGreat
namespace Go.Proofs.YtcbmecnipldcfaaGreat
open Go.RowKit
set_option linter.unusedVariables false
set_option maxRecDepth 100000
set_option linter.unusedSimpArgs false

/-- What may stand as a coefficient on the way. -/
structure GqE (d : QD) : Prop where
  is : IsD (nQ d, dQ d) d
  pos : 0 < dQ d
  kn : Bd (nQ d) 2200
  kd : Bd (dQ d) 2200
def Gq (l : List (QV × QD)) : Prop := ∀ y ∈ l, GqE y.2
structure IsGk (w : World) (q : QV) (d : QD) : Prop where
  is : IsQ w q (nQ d) (dQ d)
  e : GqE d
theorem IsGk.later {w w' : World} {q : QV} {d : QD} (h : IsGk w q d) (hb : Below w.heap.size w w') : IsGk w' q d := ⟨h.is.later hb, h.e⟩
theorem good7_of_mem {w : World} {a : Option Addr} {n c : Nat} {l : List (QV × QD)} (h : PArQ w a n c l) (hg : Gq l) {y : QV × QD} (hy : y ∈ l) : IsGk w y.1 y.2 := by
  have e := hg y hy
  have r := h.rd y hy
  refine ⟨⟨⟨y.2.num.xs, ?_, e.is.n1⟩, ⟨y.2.den.xs, ?_, e.is.n2⟩⟩, e⟩
  · have := r.head
    rw [show (⟨decide (nQ y.2 < 0), y.2.num.xs⟩ : BD) = y.2.num from by rw [← e.is.g1]]
    exact this
  · have := r.tail.head
    rw [show (⟨decide (dQ y.2 < 0), y.2.den.xs⟩ : BD) = y.2.den from by rw [← e.is.g2]]
    exact this
set_option maxHeartbeats 2000000 in
theorem coefS7 (a : Option Addr) (n c k : Nat) (l : List (QV × QD)) (w : World) (h : PArQ w a n c l) (hg : Gq l) (hk : k ≤ 1048576) :
    Calls Tryz.prog 88 #[.slice a n c, .int .i64 k] w fun e w' => ∃ u : QV, e = .returned (.agg #[.bool u.num.g, .slice u.num.a u.num.n u.num.c, .bool u.den.g, .slice u.den.a u.den.n u.den.c]) ∧ Below w.heap.size w w' ∧ IsQ w' u (cf (goods (l.map Prod.snd)) k).1 (cf (goods (l.map Prod.snd)) k).2 := by
  have HS := hide h
  have HN := hide h.len
  have HG := hide hg
  clear h hg
  have B0 := hide (show Below w.heap.size w (w.alloc (.cells #[.bool false, .slice none 0 0, .bool false, .slice none 0 0] 32)) from (Below.refl _ _).alloc (Nat.le_refl _) _)
  by_cases hlt : k < n
  · have hlt' : (k : Int) < (n : Int) := by omega
    rcases (unhide HS).at_ with e | ⟨b, off, rfl, hb, hc⟩
    · exact absurd (unhide HN) (by rw [e]; simp; omega)
    have e0 := hc k (by rw [unhide HN]; exact hlt)
    obtain ⟨y, hy⟩ : ∃ y, y = l[k]'(by rw [unhide HN]; exact hlt) := ⟨_, rfl⟩
    rw [← hy] at e0
    have MY : Hid (y ∈ l) := hide (by rw [hy]; exact List.getElem_mem _)
    have CF := hide (cf_in (by rw [unhide HN]; exact hlt) hy)
    clear hy
    have E0 : (w.alloc (.cells #[.bool false, .slice none 0 0, .bool false, .slice none 0 0] 32)).cell? ⟨b, off + k * 4, none⟩ = some (.bool y.1.num.g) := ca_other (e0.1)
    have E1 : (w.alloc (.cells #[.bool false, .slice none 0 0, .bool false, .slice none 0 0] 32)).cell? ⟨b, off + k * 4 + 1, none⟩ = some (.slice y.1.num.a y.1.num.n y.1.num.c) := ca_other (e0.2.1)
    have E2 : (w.alloc (.cells #[.bool false, .slice none 0 0, .bool false, .slice none 0 0] 32)).cell? ⟨b, off + k * 4 + 2, none⟩ = some (.bool y.1.den.g) := ca_other (e0.2.2.1)
    have E3 : (w.alloc (.cells #[.bool false, .slice none 0 0, .bool false, .slice none 0 0] 32)).cell? ⟨b, off + k * 4 + 3, none⟩ = some (.slice y.1.den.a y.1.den.n y.1.den.c) := ca_other (e0.2.2.2)
    clear e0 hc
    have JY := hide (good7_of_mem (unhide HS) (unhide HG) (unhide MY))
    go_enter Tryz.func88, Tryz.ntmps88
    go_wp2
    refine bodyPost_ret (v := .agg #[.bool y.1.num.g, .slice y.1.num.a y.1.num.n y.1.num.c, .bool y.1.den.g, .slice y.1.den.a y.1.den.n y.1.den.c]) (by simp [results, Tryz.results88, go_sem]) rfl ?_
    exact ⟨y.1, rfl, (Below.refl _ _).alloc (Nat.le_refl _) _, by rw [unhide CF]; exact (unhide JY).is.later ((Below.refl _ _).alloc (Nat.le_refl _) _)⟩
  · have hlt' : ¬ ((k : Int) < (n : Int)) := by omega
    have CF := hide (cf_out (l := l) (k := k) (by rw [unhide HN]; exact hlt))
    go_enter Tryz.func88, Tryz.ntmps88
    go_wp2_with fail
    refine (wholeS 0 _ (by omega) (by omega)).mono ?_
    rintro e w1 ⟨u, lu, lv, rfl, hb, o1, a1, m1, m2⟩
    have r0 : w1.cell? ⟨w.heap.size, 0, none⟩ = some (.bool false) := cell_later hb (by simp [go_sem])
    have r1 : w1.cell? ⟨w.heap.size, 1, none⟩ = some (.slice none 0 0) := cell_later hb (by simp [go_sem])
    have r2 : w1.cell? ⟨w.heap.size, 2, none⟩ = some (.bool false) := cell_later hb (by simp [go_sem])
    have r3 : w1.cell? ⟨w.heap.size, 3, none⟩ = some (.slice none 0 0) := cell_later hb (by simp [go_sem])
    have f0 : ∀ o, w1.frozen? ⟨w.heap.size, o, none⟩ = false := fun o => frozen_later hb (by simp) (by simp [go_sem])
    have HB := hide (below_on (unhide B0) hb)
    have O1 := hide (o1.wide (lo' := w.heap.size + 1) (by simp) (Nat.le_refl _))
    have A1 := hide a1
    have N1 := hide (And.intro m1 m2)
    clear hb o1 a1 m1 m2
    go_wp2
    refine bodyPost_ret (v := .agg #[.bool u.num.g, .slice u.num.a u.num.n u.num.c, .bool u.den.g, .slice u.den.a u.den.n u.den.c]) (by simp [results, Tryz.results88, go_sem, r0, r1, r2, r3]) rfl ?_
    have bt := metQ_but (w5 := w1) (v := u) (G := w.heap.size)
    refine ⟨u, rfl, bt.below (unhide HB) (Nat.le_refl _) (unhide HB).size, ?_⟩
    rw [unhide CF]
    exact isQ_of (ar_fin bt (unhide O1) (unhide A1) (Nat.le_refl _)) (unhide N1).1 (unhide N1).2
theorem cf_good7 {w : World} {a : Option Addr} {n c : Nat} {l : List (QV × QD)} (h : PArQ w a n c l) (hg : Gq l) (k : Nat) : 0 < (cf (goods (l.map Prod.snd)) k).2 ∧ Bd (cf (goods (l.map Prod.snd)) k).1 2200 ∧ Bd (cf (goods (l.map Prod.snd)) k).2 2200 := by
  by_cases hlt : k < l.length
  · rw [cf_in hlt rfl]
    have j := good7_of_mem h hg (List.getElem_mem hlt)
    exact ⟨j.e.pos, j.e.kn, j.e.kd⟩
  · rw [cf_out hlt]
    exact ⟨by decide, (int_bd (by omega) (by omega)).mono (by omega), one_bd2' (by omega)⟩
set_option maxHeartbeats 8000000 in
theorem addS7 (a : Option Addr) (n c : Nat) (l : List (QV × QD)) (a' : Option Addr) (n' c' : Nat) (l' : List (QV × QD)) (w : World) (h : PArQ w a n c l) (h' : PArQ w a' n' c' l') (hg : Gq l) (hg' : Gq l') (n7 : n ≤ 8) (n7' : n' ≤ 8) :
    Calls Tryz.prog 45 #[.slice a n c, .slice a' n' c'] w (OutCu w (sums (goods (l.map Prod.snd)) (goods (l'.map Prod.snd)) (max n n'))) := by
  obtain ⟨i0, hi, hz0, hz1, hz2⟩ := info_parts Tryz.info32
  have HS := hide h
  have HS' := hide h'
  have HG := hide hg
  have HG' := hide hg'
  have CG0 := hide (cf_good7 h hg)
  have CG0' := hide (cf_good7 h' hg')
  obtain ⟨m, hm⟩ : ∃ m, m = max n n' := ⟨_, rfl⟩
  rw [← hm]
  have hm1 : n ≤ m ∧ n' ≤ m ∧ m ≤ 8 ∧ (m = n ∨ m = n') := by omega
  clear h h' hg hg' hm
  go_enter Tryz.func45, Tryz.ntmps45
  go_wp2
  go_loopw [5, 6] (fun v iv wr => ∃ (k : Nat) (us : List (QV × QD)), k ≤ m ∧ iv = .int .i64 k ∧ us.length = k ∧ Hid (IsL (sums (goods (l.map Prod.snd)) (goods (l'.map Prod.snd)) k) (us.map Prod.snd)) ∧ Hid (wr.ownsRow w.heap.size 32 4 v k (flatC us)) ∧ Hid (Typ wr (zipPQ us)) ∧ Hid (AllAr wr (zipPQ us)) ∧ Hid (Below w.heap.size w wr)) (fun _ iv _ => m - (intOf iv).toNat)
  case atStart => exact ⟨0, [], Nat.zero_le _, rfl, rfl, hide trivial, hide ⟨rfl, .inl ⟨rfl, rfl⟩⟩, hide (fun p hp => by cases hp), hide (fun p hp => by cases hp), hide (Below.refl _ _)⟩
  case round =>
    obtain ⟨k, us, hk, rfl, hu, ED, OW, OO, AA, HB⟩ := hrel
    have CG := hide (unhide CG0 k)
    have CG' := hide (unhide CG0' k)
    by_cases hlt : k < n
    · have g1 : decide ((k : Int) < (n : Int)) = true := by simp; omega
      go_wp2_with fail
      refine (coefS7 a n c k l _ ((unhide HS).later (unhide HB)) (unhide HG) (by omega)).mono ?_
      rintro e w1 ⟨x1, rfl, hb1, q1⟩
      have Q1 := hide q1
      replace HB := hide (below_on (unhide HB) hb1)
      replace OW := hide (owns_later (unhide OW) hb1)
      replace OO := hide ((unhide OO).later hb1)
      replace AA := hide ((unhide AA).later hb1)
      have sz1 := hb1.size
      clear hb1 q1
      go_wp2_with fail
      refine (coefS7 a' n' c' k l' _ ((unhide HS').later (unhide HB)) (unhide HG') (by omega)).mono ?_
      rintro e w2 ⟨x2, rfl, hb1, q2⟩
      have Q2 := hide q2
      replace Q1 := hide ((unhide Q1).later hb1)
      replace HB := hide (below_on (unhide HB) hb1)
      replace OW := hide (owns_later (unhide OW) hb1)
      replace OO := hide ((unhide OO).later hb1)
      replace AA := hide ((unhide AA).later hb1)
      have sz2 := hb1.size
      clear hb1 q2
      go_wp2_with fail
      refine (addQS x1 x2 _ _ _ _ _ (unhide Q1) (unhide Q2) (sum_ne (unhide CG).1 (unhide CG').1) ((unhide CG).2.1.mono (by omega)) ((unhide CG).2.2.mono (by omega)) ((unhide CG').2.1.mono (by omega)) ((unhide CG').2.2.mono (by omega))).mono ?_
      rintro e w3 ⟨u, rfl, hbx, o1, o2⟩
      have ou := ow_two' (N := (sumAt (goods (l.map Prod.snd)) (goods (l'.map Prod.snd)) k).1) (D := (sumAt (goods (l.map Prod.snd)) (goods (l'.map Prod.snd)) k).2) o1 o2
      obtain ⟨lu, lv, tu, au, m1, m2⟩ := ou
      have al : Below w3.heap.size w3 (w3.alloc (.cells #[.bool u.num.g, .slice u.num.a u.num.n u.num.c, .bool u.den.g, .slice u.den.a u.den.n u.den.c] 32)) := (Below.refl _ _).alloc (Nat.le_refl _) _
      have HB2 := hide (below_on (unhide HB) hbx)
      have HB3 := hide (below_on (unhide HB2) al)
      have OW2 := hide (owns_later (owns_later (unhide OW) hbx) al)
      have OO2 := hide ((((unhide OO).later hbx).append tu).later al)
      have AA2 := hide ((((unhide AA).later hbx).append au).later al)
      have NU := hide (And.intro m1 m2)
      have zv : w.heap.size ≤ w3.heap.size := (unhide HB2).size
      clear hbx o1 o2 tu au m1 m2 al OW OO AA HB Q1 Q2
      go_wp2_with (at_builtin; refine wpList_append_lies _ rfl (.tmp 19) (.tmp 27) 44 rfl w.heap.size 32 i0 (.agg #[.bool false, .slice none 0 0, .bool false, .slice none 0 0]) 4 64 Tryz.underlying44 hi hz0 hz1 hz2 rfl (by decide) _ k (flatC us) rfl (unhide OW2) ⟨w3.heap.size, 0, none⟩ 1 1 [.bool u.num.g, .slice u.num.a u.num.n u.num.c, .bool u.den.g, .slice u.den.a u.den.n u.den.c] rfl rfl (World.news_of_block (cs := #[.bool u.num.g, .slice u.num.a u.num.n u.num.c, .bool u.den.g, .slice u.den.a u.den.n u.den.c]) (t := 32) (fr := (0, 0)) (by show (w3.heap.push _)[w3.heap.size]? = _; simp)) (by intro u' hu'; simp at hu'; rcases hu' with rfl | rfl | rfl | rfl <;> rfl) (by omega) (by unfold maxLen; omega) (by omega) (by simp; omega) _ rfl ?_)
      intro g cap w4 hown hgrow hor hlt3
      have OW3 : Hid (w4.ownsRow w.heap.size 32 4 (.slice (some ⟨g, 0, none⟩) (k + 1) cap) (k + 1) (flatC (us ++ [(u, (⟨⟨decide ((sumAt (goods (l.map Prod.snd)) (goods (l'.map Prod.snd)) k).1 < 0), lu⟩, ⟨decide ((sumAt (goods (l.map Prod.snd)) (goods (l'.map Prod.snd)) k).2 < 0), lv⟩⟩ : QD))]))) := hide (by rw [flatC_append]; exact hown)
      have OO3 := hide ((unhide OO2).grown hgrow (unhide OW2))
      have AA3 : Hid (AllAr w4 (zipPQ (us ++ [(u, (⟨⟨decide ((sumAt (goods (l.map Prod.snd)) (goods (l'.map Prod.snd)) k).1 < 0), lu⟩, ⟨decide ((sumAt (goods (l.map Prod.snd)) (goods (l'.map Prod.snd)) k).2 < 0), lv⟩⟩ : QD))]))) := hide (by rw [zipPQ_append, zipPQ_one]; exact Typ.ar (unhide OO3) (unhide AA2))
      have OO4 : Hid (Typ w4 (zipPQ (us ++ [(u, (⟨⟨decide ((sumAt (goods (l.map Prod.snd)) (goods (l'.map Prod.snd)) k).1 < 0), lu⟩, ⟨decide ((sumAt (goods (l.map Prod.snd)) (goods (l'.map Prod.snd)) k).2 < 0), lv⟩⟩ : QD))]))) := hide (by rw [zipPQ_append, zipPQ_one]; exact unhide OO3)
      have HB4 := hide ((unhide HB3).grown hgrow (unhide HB3).size (owns_base (unhide OW2)))
      have ED3 : Hid (IsL (sums (goods (l.map Prod.snd)) (goods (l'.map Prod.snd)) (k + 1)) ((us ++ [(u, (⟨⟨decide ((sumAt (goods (l.map Prod.snd)) (goods (l'.map Prod.snd)) k).1 < 0), lu⟩, ⟨decide ((sumAt (goods (l.map Prod.snd)) (goods (l'.map Prod.snd)) k).2 < 0), lv⟩⟩ : QD))]).map Prod.snd)) := hide (by rw [sums_snoc]; exact isL_snoc (unhide ED) (unhide NU).1 (unhide NU).2)
      clear hown hgrow hor hlt3 OW2 OO2 AA2 HB2 HB3 OO3
      go_wp2
      go_roundw
      case rel => exact ⟨k + 1, us ++ [(u, (⟨⟨decide ((sumAt (goods (l.map Prod.snd)) (goods (l'.map Prod.snd)) k).1 < 0), lu⟩, ⟨decide ((sumAt (goods (l.map Prod.snd)) (goods (l'.map Prod.snd)) k).2 < 0), lv⟩⟩ : QD))], by omega, by go_num, by simp [hu], ED3, OW3, OO4, AA3, HB4⟩
      case measure => simp [intOf]; omega
    · have g1 : decide ((k : Int) < (n : Int)) = false := by simp; omega
      by_cases hlt' : k < n'
      · have g2 : decide ((k : Int) < (n' : Int)) = true := by simp; omega
        go_wp2_with fail
        refine (coefS7 a n c k l _ ((unhide HS).later (unhide HB)) (unhide HG) (by omega)).mono ?_
        rintro e w1 ⟨x1, rfl, hb1, q1⟩
        have Q1 := hide q1
        replace HB := hide (below_on (unhide HB) hb1)
        replace OW := hide (owns_later (unhide OW) hb1)
        replace OO := hide ((unhide OO).later hb1)
        replace AA := hide ((unhide AA).later hb1)
        have sz1 := hb1.size
        clear hb1 q1
        go_wp2_with fail
        refine (coefS7 a' n' c' k l' _ ((unhide HS').later (unhide HB)) (unhide HG') (by omega)).mono ?_
        rintro e w2 ⟨x2, rfl, hb1, q2⟩
        have Q2 := hide q2
        replace Q1 := hide ((unhide Q1).later hb1)
        replace HB := hide (below_on (unhide HB) hb1)
        replace OW := hide (owns_later (unhide OW) hb1)
        replace OO := hide ((unhide OO).later hb1)
        replace AA := hide ((unhide AA).later hb1)
        have sz2 := hb1.size
        clear hb1 q2
        go_wp2_with fail
        refine (addQS x1 x2 _ _ _ _ _ (unhide Q1) (unhide Q2) (sum_ne (unhide CG).1 (unhide CG').1) ((unhide CG).2.1.mono (by omega)) ((unhide CG).2.2.mono (by omega)) ((unhide CG').2.1.mono (by omega)) ((unhide CG').2.2.mono (by omega))).mono ?_
        rintro e w3 ⟨u, rfl, hbx, o1, o2⟩
        have ou := ow_two' (N := (sumAt (goods (l.map Prod.snd)) (goods (l'.map Prod.snd)) k).1) (D := (sumAt (goods (l.map Prod.snd)) (goods (l'.map Prod.snd)) k).2) o1 o2
        obtain ⟨lu, lv, tu, au, m1, m2⟩ := ou
        have al : Below w3.heap.size w3 (w3.alloc (.cells #[.bool u.num.g, .slice u.num.a u.num.n u.num.c, .bool u.den.g, .slice u.den.a u.den.n u.den.c] 32)) := (Below.refl _ _).alloc (Nat.le_refl _) _
        have HB2 := hide (below_on (unhide HB) hbx)
        have HB3 := hide (below_on (unhide HB2) al)
        have OW2 := hide (owns_later (owns_later (unhide OW) hbx) al)
        have OO2 := hide ((((unhide OO).later hbx).append tu).later al)
        have AA2 := hide ((((unhide AA).later hbx).append au).later al)
        have NU := hide (And.intro m1 m2)
        have zv : w.heap.size ≤ w3.heap.size := (unhide HB2).size
        clear hbx o1 o2 tu au m1 m2 al OW OO AA HB Q1 Q2
        go_wp2_with (at_builtin; refine wpList_append_lies _ rfl (.tmp 19) (.tmp 27) 44 rfl w.heap.size 32 i0 (.agg #[.bool false, .slice none 0 0, .bool false, .slice none 0 0]) 4 64 Tryz.underlying44 hi hz0 hz1 hz2 rfl (by decide) _ k (flatC us) rfl (unhide OW2) ⟨w3.heap.size, 0, none⟩ 1 1 [.bool u.num.g, .slice u.num.a u.num.n u.num.c, .bool u.den.g, .slice u.den.a u.den.n u.den.c] rfl rfl (World.news_of_block (cs := #[.bool u.num.g, .slice u.num.a u.num.n u.num.c, .bool u.den.g, .slice u.den.a u.den.n u.den.c]) (t := 32) (fr := (0, 0)) (by show (w3.heap.push _)[w3.heap.size]? = _; simp)) (by intro u' hu'; simp at hu'; rcases hu' with rfl | rfl | rfl | rfl <;> rfl) (by omega) (by unfold maxLen; omega) (by omega) (by simp; omega) _ rfl ?_)
        intro g cap w4 hown hgrow hor hlt3
        have OW3 : Hid (w4.ownsRow w.heap.size 32 4 (.slice (some ⟨g, 0, none⟩) (k + 1) cap) (k + 1) (flatC (us ++ [(u, (⟨⟨decide ((sumAt (goods (l.map Prod.snd)) (goods (l'.map Prod.snd)) k).1 < 0), lu⟩, ⟨decide ((sumAt (goods (l.map Prod.snd)) (goods (l'.map Prod.snd)) k).2 < 0), lv⟩⟩ : QD))]))) := hide (by rw [flatC_append]; exact hown)
        have OO3 := hide ((unhide OO2).grown hgrow (unhide OW2))
        have AA3 : Hid (AllAr w4 (zipPQ (us ++ [(u, (⟨⟨decide ((sumAt (goods (l.map Prod.snd)) (goods (l'.map Prod.snd)) k).1 < 0), lu⟩, ⟨decide ((sumAt (goods (l.map Prod.snd)) (goods (l'.map Prod.snd)) k).2 < 0), lv⟩⟩ : QD))]))) := hide (by rw [zipPQ_append, zipPQ_one]; exact Typ.ar (unhide OO3) (unhide AA2))
        have OO4 : Hid (Typ w4 (zipPQ (us ++ [(u, (⟨⟨decide ((sumAt (goods (l.map Prod.snd)) (goods (l'.map Prod.snd)) k).1 < 0), lu⟩, ⟨decide ((sumAt (goods (l.map Prod.snd)) (goods (l'.map Prod.snd)) k).2 < 0), lv⟩⟩ : QD))]))) := hide (by rw [zipPQ_append, zipPQ_one]; exact unhide OO3)
        have HB4 := hide ((unhide HB3).grown hgrow (unhide HB3).size (owns_base (unhide OW2)))
        have ED3 : Hid (IsL (sums (goods (l.map Prod.snd)) (goods (l'.map Prod.snd)) (k + 1)) ((us ++ [(u, (⟨⟨decide ((sumAt (goods (l.map Prod.snd)) (goods (l'.map Prod.snd)) k).1 < 0), lu⟩, ⟨decide ((sumAt (goods (l.map Prod.snd)) (goods (l'.map Prod.snd)) k).2 < 0), lv⟩⟩ : QD))]).map Prod.snd)) := hide (by rw [sums_snoc]; exact isL_snoc (unhide ED) (unhide NU).1 (unhide NU).2)
        clear hown hgrow hor hlt3 OW2 OO2 AA2 HB2 HB3 OO3
        go_wp2
        go_roundw
        case rel => exact ⟨k + 1, us ++ [(u, (⟨⟨decide ((sumAt (goods (l.map Prod.snd)) (goods (l'.map Prod.snd)) k).1 < 0), lu⟩, ⟨decide ((sumAt (goods (l.map Prod.snd)) (goods (l'.map Prod.snd)) k).2 < 0), lv⟩⟩ : QD))], by omega, by go_num, by simp [hu], ED3, OW3, OO4, AA3, HB4⟩
        case measure => simp [intOf]; omega
      · have g2 : decide ((k : Int) < (n' : Int)) = false := by simp; omega
        obtain rfl : k = m := by omega
        obtain ⟨a3, c3, rfl, h3, p3⟩ := owns_arg (unhide OW) hu (unhide AA)
        have P3 := hide p3
        have H3 := hide h3
        clear p3 h3 OW OO AA
        go_wp2_with fail
        refine (cutS_v a3 k c3 us _ (unhide P3) (by omega) (unhide H3)).mono ?_
        rintro e w4 ⟨a4, m4, c4, rfl, hb4, ca4, p4⟩
        have P4 := hide p4
        have C4 := hide ca4
        replace HB := hide (below_on (unhide HB) hb4)
        clear hb4 ca4 p4
        go_wp2
        go_ret
        exact ⟨_, m4, c4, us, rfl, unhide HB, unhide ED, unhide C4, unhide P4⟩
structure Mh (t : Nat) (c : Int × Int) : Prop where
  low : Low c.1 c.2
  kn : Bd c.1 (5000 * t + 1)
  kd : Bd c.2 (5000 * t + 1)
theorem Mh.mono {t t' : Nat} {c : Int × Int} (h : Mh t c) (k : t ≤ t') : Mh t' c := ⟨h.low, h.kn.mono (by omega), h.kd.mono (by omega)⟩
theorem mh_nought (t : Nat) : Mh t (0, 1) := ⟨⟨by decide, rfl⟩, (Bd.small (by decide)).mono (by omega), (Bd.small (by decide)).mono (by omega)⟩
theorem mul_midh {c d : Int × Int} (hc : 0 < c.2 ∧ Bd c.1 2200 ∧ Bd c.2 2200) (hd : 0 < d.2 ∧ Bd d.1 2200 ∧ Bd d.2 2200) : 0 < lowD (c.1 * d.1) (c.2 * d.2) ∧ Bd (lowN (c.1 * d.1) (c.2 * d.2)) 4400 ∧ Bd (lowD (c.1 * d.1) (c.2 * d.2)) 4400 :=
  ⟨lowD_pos (sum_ne hc.1 hd.1), lowN_bd (hc.2.1.mul hd.2.1), lowD_bd (hc.2.2.mul hd.2.2)⟩
theorem mulAt_mh {t : Nat} {x c d : Int × Int} (h : Mh t x) (hc : 0 < c.2 ∧ Bd c.1 2200 ∧ Bd c.2 2200) (hd : 0 < d.2 ∧ Bd d.1 2200 ∧ Bd d.2 2200) : Mh (t + 1) (mulAt x c d) := by
  obtain ⟨m1, m2, m3⟩ := mul_midh hc hd
  refine ⟨low_low (sum_ne h.low.pos m1), lowN_bd ?_, lowD_bd ?_⟩
  · exact (((h.kn.mul m3).mono (L' := 5000 * t + 4401) (by omega)).add ((m2.mul h.kd).mono (by omega))).mono (by omega)
  · exact (h.kd.mul m3).mono (by omega)
def MhL (t : Nat) (cs : List (Int × Int)) : Prop := ∀ c ∈ cs, Mh t c
theorem MhL.cf {t : Nat} {cs : List (Int × Int)} (h : MhL t cs) (k : Nat) : Mh t (cf cs k) := by
  unfold Go.Proofs.YtcbmecnipldcfaaGreat.cf
  by_cases hk : k < cs.length
  · rw [List.getElem?_eq_getElem hk]; exact h _ (List.getElem_mem hk)
  · rw [List.getElem?_eq_none (by omega)]; exact mh_nought t
def Gh (cs : List (Int × Int)) : Prop := ∀ k, 0 < (cf cs k).2 ∧ Bd (cf cs k).1 2200 ∧ Bd (cf cs k).2 2200
theorem setAt_mh {t k : Nat} {cs : List (Int × Int)} {c d : Int × Int} (h : MhL t cs) (hc : 0 < c.2 ∧ Bd c.1 2200 ∧ Bd c.2 2200) (hd : 0 < d.2 ∧ Bd d.1 2200 ∧ Bd d.2 2200) : MhL (t + 1) (setAt cs k c d) := fun x hx => by
  unfold setAt at hx
  rcases List.mem_or_eq_of_mem_set hx with e | e
  · exact (h x e).mono (by omega)
  · rw [e]; exact mulAt_mh (h.cf k) hc hd
theorem mrow_mh {t : Nat} {c : Int × Int} {qs cs : List (Int × Int)} (i : Nat) (h : MhL t cs) (hc : 0 < c.2 ∧ Bd c.1 2200 ∧ Bd c.2 2200) (hq : Gh qs) : ∀ j, MhL (t + j) (mrow c qs i j cs)
  | 0 => h
  | j + 1 => setAt_mh (mrow_mh i h hc hq j) hc (hq j)
theorem mall_mh {ps qs : List (Int × Int)} (m N : Nat) (hp : Gh ps) (hq : Gh qs) : ∀ i, MhL (i * m) (mall ps qs m i (noughts N))
  | 0 => fun c hc => by
    have : c = (0, 1) := List.eq_of_mem_replicate hc
    rw [this]; exact mh_nought _
  | i + 1 => by
    rw [Nat.succ_mul]
    exact mrow_mh i (mall_mh m N hp hq i) (hp i) hq m
set_option maxRecDepth 100000 in
set_option maxHeartbeats 16000000 in
theorem mulS7 (a : Option Addr) (n c : Nat) (l : List (QV × QD)) (a' : Option Addr) (n' c' : Nat) (l' : List (QV × QD)) (w : World) (h : PArQ w a n c l) (h' : PArQ w a' n' c' l') (hg : Gq l) (hg' : Gq l') (n7 : n ≤ 7) (n7' : n' ≤ 2) :
    Calls Tryz.prog 46 #[.slice a n c, .slice a' n' c'] w (OutCu w (mall (goods (l.map Prod.snd)) (goods (l'.map Prod.snd)) n' n (noughts (n + n')))) := by
  obtain ⟨i0, hi, hz0, hz1, hz2⟩ := info_parts Tryz.info32
  have HS := hide h
  have HS' := hide h'
  have HG := hide hg
  have HG' := hide hg'
  have GP : Hid (Gh (goods (l.map Prod.snd))) := hide (fun k => cf_good7 h hg k)
  have GQ : Hid (Gh (goods (l'.map Prod.snd))) := hide (fun k => cf_good7 h' hg' k)
  obtain ⟨N, hN⟩ : ∃ N, N = n + n' := ⟨_, rfl⟩
  rw [← hN]
  have N1 : N ≤ n + n' := by omega
  have N2 : n + n' ≤ N := by omega
  have N14 : N ≤ 14 := by omega
  clear h h' hg hg' hN
  go_enter Tryz.func46, Tryz.ntmps46
  go_wp2
  go_loopw [5, 6] (fun v iv wr => ∃ (k : Nat) (us : List (QV × QD)), k ≤ N ∧ iv = .int .i64 k ∧ us.length = k ∧ Hid (IsL (noughts k) (us.map Prod.snd)) ∧ Hid (wr.ownsRow w.heap.size 32 4 v k (flatC us)) ∧ Hid (Typ wr (zipPQ us)) ∧ Hid (AllAr wr (zipPQ us)) ∧ Hid (Below w.heap.size w wr)) (fun _ iv _ => N - (intOf iv).toNat)
  case atStart => exact ⟨0, [], Nat.zero_le _, rfl, rfl, hide trivial, hide ⟨rfl, .inl ⟨rfl, rfl⟩⟩, hide (fun p hp => by cases hp), hide (fun p hp => by cases hp), hide (Below.refl _ _)⟩
  case round =>
    obtain ⟨k, us, hk, rfl, hu, ED, OW, OO, AA, HB⟩ := hrel
    by_cases hlt : k < N
    · have hlt' : (k : Int) < (n : Int) + (n' : Int) := by omega
      go_wp2_with fail
      refine (wholeS 0 _ (by omega) (by omega)).mono ?_
      rintro e w3 ⟨u, lu, lv, rfl, hbx, o1, au, m1, m2⟩
      have tu := o1.typ
      have al : Below w3.heap.size w3 (w3.alloc (.cells #[.bool u.num.g, .slice u.num.a u.num.n u.num.c, .bool u.den.g, .slice u.den.a u.den.n u.den.c] 32)) := (Below.refl _ _).alloc (Nat.le_refl _) _
      have HB2 := hide (below_on (unhide HB) hbx)
      have HB3 := hide (below_on (unhide HB2) al)
      have OW2 := hide (owns_later (owns_later (unhide OW) hbx) al)
      have OO2 := hide ((((unhide OO).later hbx).append tu).later al)
      have AA2 := hide ((((unhide AA).later hbx).append au).later al)
      have NU := hide (And.intro m1 m2)
      have zv : w.heap.size ≤ w3.heap.size := (unhide HB2).size
      clear hbx o1 tu au m1 m2 al OW OO AA HB
      go_wp2_with (at_builtin; refine wpList_append_lies _ rfl (.tmp 20) (.tmp 22) 44 rfl w.heap.size 32 i0 (.agg #[.bool false, .slice none 0 0, .bool false, .slice none 0 0]) 4 64 Tryz.underlying44 hi hz0 hz1 hz2 rfl (by decide) _ k (flatC us) rfl (unhide OW2) ⟨w3.heap.size, 0, none⟩ 1 1 [.bool u.num.g, .slice u.num.a u.num.n u.num.c, .bool u.den.g, .slice u.den.a u.den.n u.den.c] rfl rfl (World.news_of_block (cs := #[.bool u.num.g, .slice u.num.a u.num.n u.num.c, .bool u.den.g, .slice u.den.a u.den.n u.den.c]) (t := 32) (fr := (0, 0)) (by show (w3.heap.push _)[w3.heap.size]? = _; simp)) (by intro u' hu'; simp at hu'; rcases hu' with rfl | rfl | rfl | rfl <;> rfl) (by omega) (by unfold maxLen; omega) (by omega) (by simp; omega) _ rfl ?_)
      intro g cap w4 hown hgrow hor hlt3
      have OW3 : Hid (w4.ownsRow w.heap.size 32 4 (.slice (some ⟨g, 0, none⟩) (k + 1) cap) (k + 1) (flatC (us ++ [(u, (⟨⟨decide ((0 : Int) < 0), lu⟩, ⟨decide ((1 : Int) < 0), lv⟩⟩ : QD))]))) := hide (by rw [flatC_append]; exact hown)
      have OO3 := hide ((unhide OO2).grown hgrow (unhide OW2))
      have AA3 : Hid (AllAr w4 (zipPQ (us ++ [(u, (⟨⟨decide ((0 : Int) < 0), lu⟩, ⟨decide ((1 : Int) < 0), lv⟩⟩ : QD))]))) := hide (by rw [zipPQ_append, zipPQ_one]; exact Typ.ar (unhide OO3) (unhide AA2))
      have OO4 : Hid (Typ w4 (zipPQ (us ++ [(u, (⟨⟨decide ((0 : Int) < 0), lu⟩, ⟨decide ((1 : Int) < 0), lv⟩⟩ : QD))]))) := hide (by rw [zipPQ_append, zipPQ_one]; exact unhide OO3)
      have HB4 := hide ((unhide HB3).grown hgrow (unhide HB3).size (owns_base (unhide OW2)))
      have ED3 : Hid (IsL (noughts (k + 1)) ((us ++ [(u, (⟨⟨decide ((0 : Int) < 0), lu⟩, ⟨decide ((1 : Int) < 0), lv⟩⟩ : QD))]).map Prod.snd)) := hide (by rw [noughts_snoc]; exact isL_snoc (unhide ED) (unhide NU).1 (unhide NU).2)
      clear hown hgrow hor hlt3 OW2 OO2 AA2 HB2 HB3 OO3
      go_wp2
      go_roundw
      case rel => exact ⟨k + 1, us ++ [(u, (⟨⟨decide ((0 : Int) < 0), lu⟩, ⟨decide ((1 : Int) < 0), lv⟩⟩ : QD))], by omega, by go_num, by simp [hu], ED3, OW3, OO4, AA3, HB4⟩
      case measure => simp [intOf]; omega
    · obtain rfl : N = k := by omega
      have hlt' : ¬ ((N : Int) < (n : Int) + (n' : Int)) := by omega
      clear hi hz0 hz1 hz2
      obtain ⟨a0, cap, rfl, hnone, pa⟩ := owns_arg (unhide OW) hu (unhide AA)
      have GL : Hid (N = 0 ∨ ∃ b off, a0 = some ⟨b, off, none⟩ ∧ b < wr.heap.size) := hide (by
        rcases pa.at_ with e | ⟨b, off, e, hb, _⟩
        · exact .inl (by rw [← hu, e]; rfl)
        · exact .inr ⟨b, off, e, hb⟩)
      have HNO := hide hnone
      clear pa hnone
      obtain ⟨ws, hws⟩ : ∃ x, x = wr := ⟨_, rfl⟩
      subst hws
      go_wp2
      go_loopw [26] (fun iv wp => ∃ (i : Nat) (us : List (QV × QD)), i ≤ n ∧ iv = .int .i64 i ∧ us.length = N ∧ ws.heap.size ≤ wp.heap.size ∧ Hid (IsL (mall (goods (l.map Prod.snd)) (goods (l'.map Prod.snd)) n' i (noughts N)) (us.map Prod.snd)) ∧ Hid (wp.ownsRow w.heap.size 32 4 (.slice a0 N cap) N (flatC us)) ∧ Hid (Typ wp (zipPQ us)) ∧ Hid (AllAr wp (zipPQ us)) ∧ Hid (Below w.heap.size w wp)) (fun iv _ => n - (intOf iv).toNat)
      case atStart => exact ⟨0, us, Nat.zero_le _, rfl, hu, Nat.le_refl _, ED, OW, OO, AA, HB⟩
      case round =>
        clear ED OW OO AA HB hu us
        obtain ⟨i, us, hi, rfl, hu, zp, ED, OW, OO, AA, HB⟩ := hrel
        obtain ⟨wp, hwp⟩ : ∃ x, x = wr := ⟨_, rfl⟩
        subst hwp
        by_cases hlt : i < n
        · have hlt' : (i : Int) < (n : Int) := by omega
          rcases (unhide HS).at_ with e | ⟨b, off, ea, hb, hc⟩
          · exact absurd (unhide HS).len (by rw [e]; simp; omega)
          subst ea
          have e0 := hc i (by rw [(unhide HS).len]; exact hlt)
          obtain ⟨y, hy⟩ : ∃ y, y = l[i]'(by rw [(unhide HS).len]; exact hlt) := ⟨_, rfl⟩
          rw [← hy] at e0
          have MY : Hid (y ∈ l) := hide (by rw [hy]; exact List.getElem_mem _)
          have CY := hide (cf_in (by rw [(unhide HS).len]; exact hlt) hy)
          clear hy
          have E0 : wp.cell? ⟨b, off + i * 4, none⟩ = some (.bool y.1.num.g) := ((unhide HB).cell (p := ⟨b, off + i * 4, none⟩) hb).trans (e0.1)
          have E1 : wp.cell? ⟨b, off + i * 4 + 1, none⟩ = some (.slice y.1.num.a y.1.num.n y.1.num.c) := ((unhide HB).cell (p := ⟨b, off + i * 4 + 1, none⟩) hb).trans (e0.2.1)
          have E2 : wp.cell? ⟨b, off + i * 4 + 2, none⟩ = some (.bool y.1.den.g) := ((unhide HB).cell (p := ⟨b, off + i * 4 + 2, none⟩) hb).trans (e0.2.2.1)
          have E3 : wp.cell? ⟨b, off + i * 4 + 3, none⟩ = some (.slice y.1.den.a y.1.den.n y.1.den.c) := ((unhide HB).cell (p := ⟨b, off + i * 4 + 3, none⟩) hb).trans (e0.2.2.2)
          clear e0 hc
          have JY := hide ((good7_of_mem (unhide HS) (unhide HG) (unhide MY)).later (unhide HB))
          go_wp2
          have al : Below wp.heap.size wp (wp.alloc (.cells #[.bool y.1.num.g, .slice y.1.num.a y.1.num.n y.1.num.c, .bool y.1.den.g, .slice y.1.den.a y.1.den.n y.1.den.c] 32)) := (Below.refl _ _).alloc (Nat.le_refl _) _
          have T0 : (wp.alloc (.cells #[.bool y.1.num.g, .slice y.1.num.a y.1.num.n y.1.num.c, .bool y.1.den.g, .slice y.1.den.a y.1.den.n y.1.den.c] 32)).cell? ⟨wp.heap.size, 0, none⟩ = some (.bool y.1.num.g) := by simp [go_sem]
          have T1 : (wp.alloc (.cells #[.bool y.1.num.g, .slice y.1.num.a y.1.num.n y.1.num.c, .bool y.1.den.g, .slice y.1.den.a y.1.den.n y.1.den.c] 32)).cell? ⟨wp.heap.size, 1, none⟩ = some (.slice y.1.num.a y.1.num.n y.1.num.c) := by simp [go_sem]
          have T2 : (wp.alloc (.cells #[.bool y.1.num.g, .slice y.1.num.a y.1.num.n y.1.num.c, .bool y.1.den.g, .slice y.1.den.a y.1.den.n y.1.den.c] 32)).cell? ⟨wp.heap.size, 2, none⟩ = some (.bool y.1.den.g) := by simp [go_sem]
          have T3 : (wp.alloc (.cells #[.bool y.1.num.g, .slice y.1.num.a y.1.num.n y.1.num.c, .bool y.1.den.g, .slice y.1.den.a y.1.den.n y.1.den.c] 32)).cell? ⟨wp.heap.size, 3, none⟩ = some (.slice y.1.den.a y.1.den.n y.1.den.c) := by simp [go_sem]
          have sp : wp.heap.size < (wp.alloc (.cells #[.bool y.1.num.g, .slice y.1.num.a y.1.num.n y.1.num.c, .bool y.1.den.g, .slice y.1.den.a y.1.den.n y.1.den.c] 32)).heap.size := by simp
          replace JY := hide ((unhide JY).later al)
          replace HB := hide (below_on (unhide HB) al)
          replace OW := hide (owns_later (unhide OW) al)
          replace OO := hide ((unhide OO).later al)
          replace AA := hide ((unhide AA).later al)
          clear al E0 E1 E2 E3
          go_loopw [33] (fun jv wq => ∃ (j : Nat) (us : List (QV × QD)), j ≤ n' ∧ jv = .int .i64 j ∧ us.length = N ∧ ws.heap.size ≤ wq.heap.size ∧ Hid (IsL (mrow (cf (goods (l.map Prod.snd)) i) (goods (l'.map Prod.snd)) i j (mall (goods (l.map Prod.snd)) (goods (l'.map Prod.snd)) n' i (noughts N))) (us.map Prod.snd)) ∧ Hid (wq.ownsRow w.heap.size 32 4 (.slice a0 N cap) N (flatC us)) ∧ Hid (Typ wq (zipPQ us)) ∧ Hid (AllAr wq (zipPQ us)) ∧ Hid (Below w.heap.size w wq) ∧ wp.heap.size < wq.heap.size ∧ Hid (IsGk wq y.1 y.2) ∧ Hid (wq.cell? ⟨wp.heap.size, 0, none⟩ = some (.bool y.1.num.g)) ∧ Hid (wq.cell? ⟨wp.heap.size, 1, none⟩ = some (.slice y.1.num.a y.1.num.n y.1.num.c)) ∧ Hid (wq.cell? ⟨wp.heap.size, 2, none⟩ = some (.bool y.1.den.g)) ∧ Hid (wq.cell? ⟨wp.heap.size, 3, none⟩ = some (.slice y.1.den.a y.1.den.n y.1.den.c))) (fun jv _ => n' - (intOf jv).toNat)
          case atStart => exact ⟨0, us, Nat.zero_le _, rfl, hu, by omega, ED, OW, OO, AA, HB, sp, JY, hide T0, hide T1, hide T2, hide T3⟩
          case round =>
            clear ED OW OO AA HB hu us sp JY T0 T1 T2 T3
            obtain ⟨j, us, hj, rfl, hu, z1, ED, OW, OO, AA, HB, zq, JY, T0, T1, T2, T3⟩ := hrel
            obtain ⟨wq, hwq⟩ : ∃ x, x = wr := ⟨_, rfl⟩
            subst hwq
            replace T0 := unhide T0
            replace T1 := unhide T1
            replace T2 := unhide T2
            replace T3 := unhide T3
            by_cases hjm : j < n'
            · have hjm' : (j : Int) < (n' : Int) := by omega
              have hk : i + j < N := by omega
              have k0 : (0 : Int) ≤ (i : Int) + (j : Int) := by omega
              have k1 : (i : Int) + (j : Int) < (N : Int) := by omega
              have k2 : ((i : Int) + (j : Int)).toNat = i + j := by omega
              have iw : IntKind.i64.wrap ((i : Int) + (j : Int)) = (i : Int) + (j : Int) := by rw [IntKind.wrap_i64]; omega
              obtain ⟨g, ea0, glt⟩ : ∃ g, a0 = some ⟨g, 0, none⟩ ∧ g < ws.heap.size := by
                rcases (unhide OW).2 with ⟨h', _⟩ | ⟨g', cap', cur, hv, _, hgt, _⟩
                · simp only [Value.slice.injEq] at h'
                  omega
                · simp only [Value.slice.injEq] at hv
                  refine ⟨g', hv.1, ?_⟩
                  rcases unhide GL with e | ⟨b1, off1, e1, h1⟩
                  · omega
                  · rw [hv.1] at e1
                    simp only [Option.some.injEq, Addr.mk.injEq] at e1
                    omega
              have gb : w.heap.size ≤ g := by
                refine owns_base (unhide OW) g ?_
                rw [ea0]
                rfl
              subst ea0
              rcases (unhide HS').at_ with e | ⟨b', off', ea, hb', hc'⟩
              · exact absurd (unhide HS').len (by rw [e]; simp; omega)
              subst ea
              have e0 := hc' j (by rw [(unhide HS').len]; exact hjm)
              obtain ⟨z, hz⟩ : ∃ z, z = l'[j]'(by rw [(unhide HS').len]; exact hjm) := ⟨_, rfl⟩
              rw [← hz] at e0
              have MZ : Hid (z ∈ l') := hide (by rw [hz]; exact List.getElem_mem _)
              have CZ := hide (cf_in (by rw [(unhide HS').len]; exact hjm) hz)
              clear hz
              have E0 : wq.cell? ⟨b', off' + j * 4, none⟩ = some (.bool z.1.num.g) := ((unhide HB).cell (p := ⟨b', off' + j * 4, none⟩) hb').trans (e0.1)
              have E1 : wq.cell? ⟨b', off' + j * 4 + 1, none⟩ = some (.slice z.1.num.a z.1.num.n z.1.num.c) := ((unhide HB).cell (p := ⟨b', off' + j * 4 + 1, none⟩) hb').trans (e0.2.1)
              have E2 : wq.cell? ⟨b', off' + j * 4 + 2, none⟩ = some (.bool z.1.den.g) := ((unhide HB).cell (p := ⟨b', off' + j * 4 + 2, none⟩) hb').trans (e0.2.2.1)
              have E3 : wq.cell? ⟨b', off' + j * 4 + 3, none⟩ = some (.slice z.1.den.a z.1.den.n z.1.den.c) := ((unhide HB).cell (p := ⟨b', off' + j * 4 + 3, none⟩) hb').trans (e0.2.2.2)
              clear e0 hc'
              have JZ := hide ((good7_of_mem (unhide HS') (unhide HG') (unhide MZ)).later (unhide HB))
              have MG : Hid (Mh (i * n' + j) (cf (mrow (cf (goods (l.map Prod.snd)) i) (goods (l'.map Prod.snd)) i j (mall (goods (l.map Prod.snd)) (goods (l'.map Prod.snd)) n' i (noughts N))) (i + j))) := hide ((mrow_mh i (mall_mh n' N (unhide GP) (unhide GQ) i) ((unhide GP) i) (unhide GQ) j).cf (i + j))
              have tb : i * n' + j ≤ 14 := by
                have q1 : i * n' ≤ 6 * n' := Nat.mul_le_mul_right _ (by omega)
                omega
              have TB := hide tb
              clear tb
              obtain ⟨x, hx⟩ : ∃ x, x = us[i + j]'(by omega) := ⟨_, rfl⟩
              have MX : Hid (x ∈ us) := hide (by rw [hx]; exact List.getElem_mem _)
              have sx := flatC_get us (i + j) (by omega)
              rw [← hx] at sx
              have hM := unhide OW
              have S0 : wq.cell? ⟨g, (i + j) * 4, none⟩ = some (.bool x.1.num.g) := (hM.cellAt _ (by omega)).trans (sx.1)
              have S1 : wq.cell? ⟨g, (i + j) * 4 + 1, none⟩ = some (.slice x.1.num.a x.1.num.n x.1.num.c) := (hM.cellAt _ (by omega)).trans (sx.2.1)
              have S2 : wq.cell? ⟨g, (i + j) * 4 + 2, none⟩ = some (.bool x.1.den.g) := (hM.cellAt _ (by omega)).trans (sx.2.2.1)
              have S3 : wq.cell? ⟨g, (i + j) * 4 + 3, none⟩ = some (.slice x.1.den.a x.1.den.n x.1.den.c) := (hM.cellAt _ (by omega)).trans (sx.2.2.2)
              have CX : Hid (IsD (cf (mrow (cf (goods (l.map Prod.snd)) i) (goods (l'.map Prod.snd)) i j (mall (goods (l.map Prod.snd)) (goods (l'.map Prod.snd)) n' i (noughts N))) (i + j)) x.2) := hide (by
                have k1 : i + j < (mrow (cf (goods (l.map Prod.snd)) i) (goods (l'.map Prod.snd)) i j (mall (goods (l.map Prod.snd)) (goods (l'.map Prod.snd)) n' i (noughts N))).length := by rw [mrow_len, mall_len]; unfold noughts; simp; exact hk
                refine (unhide ED).get (i + j) (c := cf (mrow (cf (goods (l.map Prod.snd)) i) (goods (l'.map Prod.snd)) i j (mall (goods (l.map Prod.snd)) (goods (l'.map Prod.snd)) n' i (noughts N))) (i + j)) ?_ (by rw [List.getElem?_map, List.getElem?_eq_getElem (by omega), ← hx]; rfl)
                exact cf_get k1)
              clear sx hM hx
              have GY := hide ((unhide GP) i)
              have GZ := hide ((unhide GQ) j)
              have ES : Hid (mrow (cf (goods (l.map Prod.snd)) i) (goods (l'.map Prod.snd)) i (j + 1) (mall (goods (l.map Prod.snd)) (goods (l'.map Prod.snd)) n' i (noughts N)) = (mrow (cf (goods (l.map Prod.snd)) i) (goods (l'.map Prod.snd)) i j (mall (goods (l.map Prod.snd)) (goods (l'.map Prod.snd)) n' i (noughts N))).set (i + j) (mulAt (cf (mrow (cf (goods (l.map Prod.snd)) i) (goods (l'.map Prod.snd)) i j (mall (goods (l.map Prod.snd)) (goods (l'.map Prod.snd)) n' i (noughts N))) (i + j)) (cf (goods (l.map Prod.snd)) i) (cf (goods (l'.map Prod.snd)) j))) := hide rfl
              obtain ⟨CS2, hCS2⟩ : ∃ CS2, CS2 = mrow (cf (goods (l.map Prod.snd)) i) (goods (l'.map Prod.snd)) i (j + 1) (mall (goods (l.map Prod.snd)) (goods (l'.map Prod.snd)) n' i (noughts N)) := ⟨_, rfl⟩
              rw [← hCS2] at ES
              have HC2 := hide hCS2
              clear hCS2
              generalize mrow (cf (goods (l.map Prod.snd)) i) (goods (l'.map Prod.snd)) i j (mall (goods (l.map Prod.snd)) (goods (l'.map Prod.snd)) n' i (noughts N)) = CS at *
              generalize cf (goods (l.map Prod.snd)) i = cy at *
              generalize cf (goods (l'.map Prod.snd)) j = cz at *
              obtain ⟨cx, hcx⟩ : ∃ cx, cx = cf CS (i + j) := ⟨_, rfl⟩
              rw [← hcx] at MG CX ES
              clear hcx
              go_upto_region 12 with fail
              have al : Below wq.heap.size wq (wq.alloc (.cells #[.bool z.1.num.g, .slice z.1.num.a z.1.num.n z.1.num.c, .bool z.1.den.g, .slice z.1.den.a z.1.den.n z.1.den.c] 32)) := (Below.refl _ _).alloc (Nat.le_refl _) _
              replace S0 : (wq.alloc (.cells #[.bool z.1.num.g, .slice z.1.num.a z.1.num.n z.1.num.c, .bool z.1.den.g, .slice z.1.den.a z.1.den.n z.1.den.c] 32)).cell? ⟨g, (i + j) * 4, none⟩ = some (.bool x.1.num.g) := ca_other S0
              replace S1 : (wq.alloc (.cells #[.bool z.1.num.g, .slice z.1.num.a z.1.num.n z.1.num.c, .bool z.1.den.g, .slice z.1.den.a z.1.den.n z.1.den.c] 32)).cell? ⟨g, (i + j) * 4 + 1, none⟩ = some (.slice x.1.num.a x.1.num.n x.1.num.c) := ca_other S1
              replace S2 : (wq.alloc (.cells #[.bool z.1.num.g, .slice z.1.num.a z.1.num.n z.1.num.c, .bool z.1.den.g, .slice z.1.den.a z.1.den.n z.1.den.c] 32)).cell? ⟨g, (i + j) * 4 + 2, none⟩ = some (.bool x.1.den.g) := ca_other S2
              replace S3 : (wq.alloc (.cells #[.bool z.1.num.g, .slice z.1.num.a z.1.num.n z.1.num.c, .bool z.1.den.g, .slice z.1.den.a z.1.den.n z.1.den.c] 32)).cell? ⟨g, (i + j) * 4 + 3, none⟩ = some (.slice x.1.den.a x.1.den.n x.1.den.c) := ca_other S3
              replace T0 : (wq.alloc (.cells #[.bool z.1.num.g, .slice z.1.num.a z.1.num.n z.1.num.c, .bool z.1.den.g, .slice z.1.den.a z.1.den.n z.1.den.c] 32)).cell? ⟨wp.heap.size, 0, none⟩ = some (.bool y.1.num.g) := ca_other T0
              replace T1 : (wq.alloc (.cells #[.bool z.1.num.g, .slice z.1.num.a z.1.num.n z.1.num.c, .bool z.1.den.g, .slice z.1.den.a z.1.den.n z.1.den.c] 32)).cell? ⟨wp.heap.size, 1, none⟩ = some (.slice y.1.num.a y.1.num.n y.1.num.c) := ca_other T1
              replace T2 : (wq.alloc (.cells #[.bool z.1.num.g, .slice z.1.num.a z.1.num.n z.1.num.c, .bool z.1.den.g, .slice z.1.den.a z.1.den.n z.1.den.c] 32)).cell? ⟨wp.heap.size, 2, none⟩ = some (.bool y.1.den.g) := ca_other T2
              replace T3 : (wq.alloc (.cells #[.bool z.1.num.g, .slice z.1.num.a z.1.num.n z.1.num.c, .bool z.1.den.g, .slice z.1.den.a z.1.den.n z.1.den.c] 32)).cell? ⟨wp.heap.size, 3, none⟩ = some (.slice y.1.den.a y.1.den.n y.1.den.c) := ca_other T3
              have U0 : (wq.alloc (.cells #[.bool z.1.num.g, .slice z.1.num.a z.1.num.n z.1.num.c, .bool z.1.den.g, .slice z.1.den.a z.1.den.n z.1.den.c] 32)).cell? ⟨wq.heap.size, 0, none⟩ = some (.bool z.1.num.g) := by simp [go_sem]
              have U1 : (wq.alloc (.cells #[.bool z.1.num.g, .slice z.1.num.a z.1.num.n z.1.num.c, .bool z.1.den.g, .slice z.1.den.a z.1.den.n z.1.den.c] 32)).cell? ⟨wq.heap.size, 1, none⟩ = some (.slice z.1.num.a z.1.num.n z.1.num.c) := by simp [go_sem]
              have U2 : (wq.alloc (.cells #[.bool z.1.num.g, .slice z.1.num.a z.1.num.n z.1.num.c, .bool z.1.den.g, .slice z.1.den.a z.1.den.n z.1.den.c] 32)).cell? ⟨wq.heap.size, 2, none⟩ = some (.bool z.1.den.g) := by simp [go_sem]
              have U3 : (wq.alloc (.cells #[.bool z.1.num.g, .slice z.1.num.a z.1.num.n z.1.num.c, .bool z.1.den.g, .slice z.1.den.a z.1.den.n z.1.den.c] 32)).cell? ⟨wq.heap.size, 3, none⟩ = some (.slice z.1.den.a z.1.den.n z.1.den.c) := by simp [go_sem]
              replace JY := hide ((unhide JY).later al)
              replace JZ := hide ((unhide JZ).later al)
              replace HB := hide (below_on (unhide HB) al)
              replace OW := hide (owns_later (unhide OW) al)
              replace OO := hide ((unhide OO).later al)
              replace AA := hide ((unhide AA).later al)
              have sza := al.size
              have nwr : wq.heap.size ≠ g := by omega
              clear al E0 E1 E2 E3
              generalize (wq.alloc (.cells #[.bool z.1.num.g, .slice z.1.num.a z.1.num.n z.1.num.c, .bool z.1.den.g, .slice z.1.den.a z.1.den.n z.1.den.c] 32)) = w1 at *
              have IX : Hid (IsQ w1 x.1 cx.1 cx.2) := hide (isQ_isD (zip_ar (unhide AA) x (unhide MX)) (unhide CX))
              have IY : Hid (IsQ w1 y.1 cy.1 cy.2) := hide (by rw [unhide CY]; exact (unhide JY).is)
              have IZ : Hid (IsQ w1 z.1 cz.1 cz.2) := hide (by rw [unhide CZ]; exact (unhide JZ).is)
              have MM := hide (mul_midh (unhide GY) (unhide GZ))
              have TB2 : i * n' + j ≤ 14 := unhide TB
              have SD0 := cd_other S0
              have SD1 := cd_other S1
              have SD2 := cd_other S2
              have SD3 := cd_other S3
              have TD0 := cd_other T0
              have TD1 := cd_other T1
              have TD2 := cd_other T2
              have TD3 := cd_other T3
              have UD0 := cd_other U0
              have UD1 := cd_other U1
              have UD2 := cd_other U2
              have UD3 := cd_other U3
              go_region_with
                (first
                | (go_at_call 89; refine (mulQS y.1 z.1 cy.1 cy.2 cz.1 cz.2 _ ?_ ?_ (sum_ne (unhide GY).1 (unhide GZ).1) ((unhide GY).2.1.mono (by omega)) ((unhide GY).2.2.mono (by omega)) ((unhide GZ).2.1.mono (by omega)) ((unhide GZ).2.2.mono (by omega))).mono ?_; exact (unhide IY).drew; exact (unhide IZ).drew; rintro e w2 ⟨mm, rfl, hb1, o2, o2'⟩; have hbx := below_of_drew hb1; have sz2 := hbx.size; have IM : Hid (IsQ w2 mm (lowN (cy.1 * cz.1) (cy.2 * cz.2)) (lowD (cy.1 * cz.1) (cy.2 * cz.2))) := hide ⟨o2.is, o2'.is⟩; replace S0 := cell_later hbx S0; replace S1 := cell_later hbx S1; replace S2 := cell_later hbx S2; replace S3 := cell_later hbx S3; replace T0 := cell_later hbx T0; replace T1 := cell_later hbx T1; replace T2 := cell_later hbx T2; replace T3 := cell_later hbx T3; replace U0 := cell_later hbx U0; replace U1 := cell_later hbx U1; replace U2 := cell_later hbx U2; replace U3 := cell_later hbx U3; replace IX := hide ((unhide IX).later hbx); replace HB := hide (below_on (unhide HB) hbx); replace OW := hide (owns_later (unhide OW) hbx); replace OO := hide ((unhide OO).later hbx); replace AA := hide ((unhide AA).later hbx); replace JY := hide ((unhide JY).later hbx); clear hbx hb1 o2 o2' SD0 SD1 SD2 SD3 TD0 TD1 TD2 TD3 UD0 UD1 UD2 UD3)
                | (go_at_call 87; refine (addQS x.1 mm cx.1 cx.2 (lowN (cy.1 * cz.1) (cy.2 * cz.2)) (lowD (cy.1 * cz.1) (cy.2 * cz.2)) _ (unhide IX) (unhide IM) (sum_ne (unhide MG).low.pos (unhide MM).1) ((unhide MG).kn.mono (by omega)) ((unhide MG).kd.mono (by omega)) ((unhide MM).2.1.mono (by omega)) ((unhide MM).2.2.mono (by omega))).mono ?_; rintro e w3 ⟨u, rfl, hb2, o3, o3'⟩; have sz3 := hb2.size; obtain ⟨lu, lv, tu, au, m1, m2⟩ := ow_two' (N := (mulAt cx cy cz).1) (D := (mulAt cx cy cz).2) o3 o3'; have TU := hide tu; have AV := hide au; have NU := hide (And.intro m1 m2); replace T0 := cell_later hb2 T0; replace T1 := cell_later hb2 T1; replace T2 := cell_later hb2 T2; replace T3 := cell_later hb2 T3; replace HB := hide (below_on (unhide HB) hb2); replace OW := hide (owns_later (unhide OW) hb2); replace OO := hide ((unhide OO).later hb2); replace AA := hide ((unhide AA).later hb2); replace JY := hide ((unhide JY).later hb2); have hM := unhide OW; obtain ⟨x_0, old0⟩ : ∃ x, w3.cell? ⟨g, (i + j) * 4, none⟩ = some x := ⟨_, (hM.cellAt _ (by omega)).trans (List.getElem?_eq_getElem (by rw [flatC_len]; omega))⟩; obtain ⟨x_1, old1⟩ : ∃ x, w3.cell? ⟨g, (i + j) * 4 + 1, none⟩ = some x := ⟨_, (hM.cellAt _ (by omega)).trans (List.getElem?_eq_getElem (by rw [flatC_len]; omega))⟩; obtain ⟨x_2, old2⟩ : ∃ x, w3.cell? ⟨g, (i + j) * 4 + 2, none⟩ = some x := ⟨_, (hM.cellAt _ (by omega)).trans (List.getElem?_eq_getElem (by rw [flatC_len]; omega))⟩; obtain ⟨x_3, old3⟩ : ∃ x, w3.cell? ⟨g, (i + j) * 4 + 3, none⟩ = some x := ⟨_, (hM.cellAt _ (by omega)).trans (List.getElem?_eq_getElem (by rw [flatC_len]; omega))⟩; have fr : ∀ o, w3.frozen? ⟨g, o, none⟩ = false := fun o => hM.frozenAt o; clear hM hb2 o3 o3' tu au m1 m2 S0 S1 S2 S3 U0 U1 U2 U3 IX IM))
              all_goals go_wp2
              all_goals go_roundw
              all_goals (first | (simp [intOf]; omega; done) | skip)
              all_goals
                have hM := unhide OW
                have bt : But g (g + 1) w3 ((((w3.setCell ⟨g, (i + j) * 4, none⟩ (.bool u.num.g)).setCell ⟨g, (i + j) * 4 + 1, none⟩ (.slice u.num.a u.num.n u.num.c)).setCell ⟨g, (i + j) * 4 + 2, none⟩ (.bool u.den.g)).setCell ⟨g, (i + j) * 4 + 3, none⟩ (.slice u.den.a u.den.n u.den.c)) := but_rowQ
                have row : ((((w3.setCell ⟨g, (i + j) * 4, none⟩ (.bool u.num.g)).setCell ⟨g, (i + j) * 4 + 1, none⟩ (.slice u.num.a u.num.n u.num.c)).setCell ⟨g, (i + j) * 4 + 2, none⟩ (.bool u.den.g)).setCell ⟨g, (i + j) * 4 + 3, none⟩ (.slice u.den.a u.den.n u.den.c)).ownsRow w.heap.size 32 4 (.slice (some ⟨g, 0, none⟩) N cap) N (flatC (us.set (i + j) (u, (⟨⟨decide ((mulAt cx cy cz).1 < 0), lu⟩, ⟨decide ((mulAt cx cy cz).2 < 0), lv⟩⟩ : QD)))) := by
                  rw [← flatC_set us (i + j) u (⟨⟨decide ((mulAt cx cy cz).1 < 0), lu⟩, ⟨decide ((mulAt cx cy cz).2 < 0), lv⟩⟩ : QD) (by omega)]
                  exact (World.ownsRow.stored (World.ownsRow.stored (World.ownsRow.stored (World.ownsRow.stored hM ((i + j) * 4) (.bool u.num.g)).1 ((i + j) * 4 + 1) (.slice u.num.a u.num.n u.num.c)).1 ((i + j) * 4 + 2) (.bool u.den.g)).1 ((i + j) * 4 + 3) (.slice u.den.a u.den.n u.den.c)).1
                have ty := typ_set (k := i + j) (u := u) (d := (⟨⟨decide ((mulAt cx cy cz).1 < 0), lu⟩, ⟨decide ((mulAt cx cy cz).2 < 0), lv⟩⟩ : QD)) (unhide OO) (unhide TU)
                have ar := ar_set (k := i + j) (u := u) (d := (⟨⟨decide ((mulAt cx cy cz).1 < 0), lu⟩, ⟨decide ((mulAt cx cy cz).2 < 0), lv⟩⟩ : QD)) (unhide AA) (unhide AV)
                have ty2 := ty.grown (v := .slice (some ⟨g, 0, none⟩) N cap) bt.grown hM
                have hbw := bt.below (unhide HB) gb (by have := (unhide HB).size; omega)
                refine ⟨j + 1, us.set (i + j) (u, (⟨⟨decide ((mulAt cx cy cz).1 < 0), lu⟩, ⟨decide ((mulAt cx cy cz).2 < 0), lv⟩⟩ : QD)), by omega, by go_num, by simp [hu], Nat.le_trans (by omega) bt.size, hide ?_, hide row, hide ty2, hide (Typ.ar ty2 ar), hide hbw, Nat.lt_of_lt_of_le (by omega) bt.size, hide ((good7_of_mem (unhide HS) (unhide HG) (unhide MY)).later hbw), hide (bt.cell T0 (.inr (by omega))), hide (bt.cell T1 (.inr (by omega))), hide (bt.cell T2 (.inr (by omega))), hide (bt.cell T3 (.inr (by omega)))⟩
                rw [← unhide HC2, unhide ES, List.map_set]
                exact (unhide ED).set (i + j) ⟨rfl, (unhide NU).1, rfl, (unhide NU).2⟩
            · obtain rfl : n' = j := by omega
              clear T0 T1 T2 T3 JY
              go_wp2
              go_roundw
              case rel => exact ⟨i + 1, us, by omega, by go_num, hu, z1, ED, OW, OO, AA, HB⟩
              case measure => simp [intOf]; omega
        · obtain rfl : n = i := by omega
          obtain ⟨a1, cap1, hv, hn1, pa⟩ := owns_arg (unhide OW) hu (unhide AA)
          simp only [Value.slice.injEq, true_and] at hv
          obtain ⟨e1, e2⟩ := hv
          subst e1 e2
          have PA := hide pa
          clear pa hn1
          go_wp2_with fail
          refine (cutS_v a0 N cap us _ (unhide PA) (by omega) (unhide HNO)).mono ?_
          rintro e w9 ⟨a9, m9, c9, rfl, hb9, ct9, p9⟩
          replace HB := hide (below_on (unhide HB) hb9)
          have CT := hide ct9
          have P9 := hide p9
          clear hb9 ct9 p9
          go_wp2
          go_ret
          exact ⟨_, _, _, us, rfl, unhide HB, unhide ED, unhide CT, unhide P9⟩
end Go.Proofs.YtcbmecnipldcfaaGreat
namespace Go.Proofs.YtcbmecnipldcfaaGreat
open Go.RowKit
set_option linter.unusedVariables false
set_option maxRecDepth 100000
set_option linter.unusedSimpArgs false

set_option maxRecDepth 100000 in
set_option maxHeartbeats 16000000 in
theorem shI (a : Option Addr) (n c : Nat) (l : List (QV × QD)) (x : QV) (ps : List Rat) (A : Rat) (w : World) (h : PArQ w a n c l) (hg : gP (l.map Prod.snd) = true) (hp : goods (l.map Prod.snd) = rps ps) (hx : IsQ w x (rp A).1 (rp A).2) (hA : BdR A 6) (hB : AllB ps 6) :
    Calls Tryz.prog 54 #[.slice a n c, .agg #[.bool x.num.g, .slice x.num.a x.num.n x.num.c, .bool x.den.g, .slice x.den.a x.den.n x.den.c]] w (OutP w (rps (hS A ps))) := by
  have n7 : n ≤ 7 := by have := (gP_mem hg).1; rw [List.length_map, h.len] at this; exact this
  have pl : ps.length = n := by have := congrArg List.length hp; unfold goods rps at this; simp only [List.length_map] at this; rw [← this]; exact h.len
  have HG := hide hg
  have HP := hide hp
  have HX := hide hx
  have KA := hide hA
  have KP := hide hB
  have HS := hide h
  clear h hg hp hx hA hB
  have al : Below w.heap.size w (w.alloc (.cells #[.bool x.num.g, .slice x.num.a x.num.n x.num.c, .bool x.den.g, .slice x.den.a x.den.n x.den.c] 32)) := (Below.refl _ _).alloc (Nat.le_refl _) _
  go_enter Tryz.func54, Tryz.ntmps54
  go_wp2_with fail
  refine (copyPo a n c l _ ((unhide HS).later al) (unhide HG)).mono ?_
  rintro e w1 ⟨us0, rfl, hb, hlt, po, il, ls⟩
  rw [unhide HP] at il
  have T0 : w1.cell? ⟨w.heap.size, 0, none⟩ = some (.bool x.num.g) := cell_later hb (by simp [go_sem])
  have T1 : w1.cell? ⟨w.heap.size, 1, none⟩ = some (.slice x.num.a x.num.n x.num.c) := cell_later hb (by simp [go_sem])
  have T2 : w1.cell? ⟨w.heap.size, 2, none⟩ = some (.bool x.den.g) := cell_later hb (by simp [go_sem])
  have T3 : w1.cell? ⟨w.heap.size, 3, none⟩ = some (.slice x.den.a x.den.n x.den.c) := cell_later hb (by simp [go_sem])
  have e1 : (w.alloc (.cells #[.bool x.num.g, .slice x.num.a x.num.n x.num.c, .bool x.den.g, .slice x.den.a x.den.n x.den.c] 32)).heap.size = w.heap.size + 1 := by simp
  rw [e1] at hlt po
  rw [e1]
  have PO0 := hide po
  have IL0 := hide il
  have LS0 := hide ls
  have HB0 := hide (below_on al hb)
  have hu0 := po.len
  clear po il ls hb al e1
  go_wp2
  go_loopw [12] (fun iv wr => ∃ (r : Nat) (us : List (QV × QD)), r ≤ n ∧ iv = .int .i64 r ∧ us.length = n ∧ w.heap.size + 1 < wr.heap.size ∧ Hid (IsL (rps (rnds A ps r)) (us.map Prod.snd)) ∧ Hid (∃ M, wr.ownsRow (w.heap.size + 1) 32 4 (.slice (some ⟨w.heap.size + 1, 0, none⟩) n n) n M ∧ ∀ i (h : i < us.length), M[i * 4]? = some (.bool us[i].1.num.g) ∧ M[i * 4 + 1]? = some (.slice us[i].1.num.a us[i].1.num.n us[i].1.num.c) ∧ M[i * 4 + 2]? = some (.bool us[i].1.den.g) ∧ M[i * 4 + 3]? = some (.slice us[i].1.den.a us[i].1.den.n us[i].1.den.c)) ∧ Hid (AllOwn (w.heap.size + 1 + 1) wr.heap.size wr (zipPQ us)) ∧ Hid (∀ p ∈ us, AllAr wr [(p.1.num, p.2.num), (p.1.den, p.2.den)]) ∧ Hid (∀ p ∈ us, p.1.num.n ≤ 90000 ∧ p.1.den.n ≤ 90000) ∧ Hid (Below w.heap.size w wr) ∧ Hid (wr.cell? ⟨w.heap.size, 0, none⟩ = some (.bool x.num.g)) ∧ Hid (wr.cell? ⟨w.heap.size, 1, none⟩ = some (.slice x.num.a x.num.n x.num.c)) ∧ Hid (wr.cell? ⟨w.heap.size, 2, none⟩ = some (.bool x.den.g)) ∧ Hid (wr.cell? ⟨w.heap.size, 3, none⟩ = some (.slice x.den.a x.den.n x.den.c))) (fun iv _ => n - (intOf iv).toNat)
  case atStart => exact ⟨0, us0, Nat.zero_le _, rfl, hu0, by omega, IL0, hide (unhide PO0).row, hide (unhide PO0).own, hide (unhide PO0).ar, hide (fun p hp => by have := unhide LS0 p hp; omega), HB0, hide T0, hide T1, hide T2, hide T3⟩
  case round =>
    clear IL0 PO0 LS0 HB0 hu0 T0 T1 T2 T3 hlt
    obtain ⟨r, us, hr, rfl, hu, z1, ED, EM, OO, AA, LS, HB, T0, T1, T2, T3⟩ := hrel
    obtain ⟨wp, hwp⟩ : ∃ x, x = wr := ⟨_, rfl⟩
    subst hwp
    by_cases hlt : r < n
    · have hlt' : (r : Int) < (n : Int) := by omega
      have n0 : 1 ≤ n := by omega
      have UB : Hid (AllB (rnds A ps r) (mB r)) := hide (rnds_bd (unhide KA) (unhide KP) (by omega) (by omega))
      have UL : Hid ((rnds A ps r).length = n) := hide (by rw [rnds_len (by omega)]; exact pl)
      have ED2 : Hid (IsL (rps (inn A (rnds A ps r) (n - 1))) (us.map Prod.snd)) := hide (by have h := inn_start (a := A) (u := rnds A ps r) (by rw [unhide UL]; omega); rw [unhide UL] at h; rw [h]; exact unhide ED)
      clear ED
      go_wp2
      go_loopw [7] (fun iv wq => ∃ (k : Nat) (us : List (QV × QD)), r ≤ k ∧ k ≤ n - 1 ∧ iv = .int .i64 ((k : Int) - 1) ∧ us.length = n ∧ w.heap.size + 1 < wq.heap.size ∧ Hid (IsL (rps (inn A (rnds A ps r) k)) (us.map Prod.snd)) ∧ Hid (∃ M, wq.ownsRow (w.heap.size + 1) 32 4 (.slice (some ⟨w.heap.size + 1, 0, none⟩) n n) n M ∧ ∀ i (h : i < us.length), M[i * 4]? = some (.bool us[i].1.num.g) ∧ M[i * 4 + 1]? = some (.slice us[i].1.num.a us[i].1.num.n us[i].1.num.c) ∧ M[i * 4 + 2]? = some (.bool us[i].1.den.g) ∧ M[i * 4 + 3]? = some (.slice us[i].1.den.a us[i].1.den.n us[i].1.den.c)) ∧ Hid (AllOwn (w.heap.size + 1 + 1) wq.heap.size wq (zipPQ us)) ∧ Hid (∀ p ∈ us, AllAr wq [(p.1.num, p.2.num), (p.1.den, p.2.den)]) ∧ Hid (∀ p ∈ us, p.1.num.n ≤ 90000 ∧ p.1.den.n ≤ 90000) ∧ Hid (Below w.heap.size w wq) ∧ Hid (wq.cell? ⟨w.heap.size, 0, none⟩ = some (.bool x.num.g)) ∧ Hid (wq.cell? ⟨w.heap.size, 1, none⟩ = some (.slice x.num.a x.num.n x.num.c)) ∧ Hid (wq.cell? ⟨w.heap.size, 2, none⟩ = some (.bool x.den.g)) ∧ Hid (wq.cell? ⟨w.heap.size, 3, none⟩ = some (.slice x.den.a x.den.n x.den.c))) (fun iv _ => (intOf iv + 1).toNat)
      case atStart => exact ⟨n - 1, us, by omega, Nat.le_refl _, by go_num, hu, z1, ED2, EM, OO, AA, LS, HB, T0, T1, T2, T3⟩
      case round =>
        clear ED2 EM OO AA LS HB hu us T0 T1 T2 T3 z1
        obtain ⟨k, us, hk0, hk1, rfl, hu, z1, ED, EM, OO, AA, LS, HB, T0, T1, T2, T3⟩ := hrel
        obtain ⟨wq, hwq⟩ : ∃ x, x = wr := ⟨_, rfl⟩
        subst hwq
        by_cases hkr : r < k
        · obtain ⟨i, rfl⟩ : ∃ i, k = i + 1 := ⟨k - 1, by omega⟩
          have ei : (((i + 1 : Nat) : Int) - 1) = (i : Int) := by omega
          rw [ei]
          clear ei
          have hge : (r : Int) ≤ (i : Int) := by omega
          have hin : (i : Int) < (n : Int) := by omega
          have hi0 : (0 : Int) ≤ (i : Int) := by omega
          have iw : IntKind.i64.wrap ((i : Int) + 1) = (i : Int) + 1 := by rw [IntKind.wrap_i64]; omega
          have k0 : (0 : Int) ≤ (i : Int) + 1 := by omega
          have k1 : (i : Int) + 1 < (n : Int) := by omega
          have k2 : ((i : Int) + 1).toNat = i + 1 := by omega
          have k3 : ((i : Int)).toNat = i := by omega
          replace T0 := unhide T0
          replace T1 := unhide T1
          replace T2 := unhide T2
          replace T3 := unhide T3
          obtain ⟨xe, hxe⟩ : ∃ xe, xe = us[i]'(by omega) := ⟨_, rfl⟩
          obtain ⟨ye, hye⟩ : ∃ ye, ye = us[i + 1]'(by omega) := ⟨_, rfl⟩
          have MX : Hid (xe ∈ us) := hide (by rw [hxe]; exact List.getElem_mem _)
          have MY : Hid (ye ∈ us) := hide (by rw [hye]; exact List.getElem_mem _)
          obtain ⟨M, hM, hL⟩ := unhide EM
          have sx := hL i (by omega)
          rw [← hxe] at sx
          have sy := hL (i + 1) (by omega)
          rw [← hye] at sy
          have S0 : wq.cell? ⟨w.heap.size + 1, i * 4, none⟩ = some (.bool xe.1.num.g) := (hM.cellAt _ (by omega)).trans (sx.1)
          have S1 : wq.cell? ⟨w.heap.size + 1, i * 4 + 1, none⟩ = some (.slice xe.1.num.a xe.1.num.n xe.1.num.c) := (hM.cellAt _ (by omega)).trans (sx.2.1)
          have S2 : wq.cell? ⟨w.heap.size + 1, i * 4 + 2, none⟩ = some (.bool xe.1.den.g) := (hM.cellAt _ (by omega)).trans (sx.2.2.1)
          have S3 : wq.cell? ⟨w.heap.size + 1, i * 4 + 3, none⟩ = some (.slice xe.1.den.a xe.1.den.n xe.1.den.c) := (hM.cellAt _ (by omega)).trans (sx.2.2.2)
          have Y0 : wq.cell? ⟨w.heap.size + 1, (i + 1) * 4, none⟩ = some (.bool ye.1.num.g) := (hM.cellAt _ (by omega)).trans (sy.1)
          have Y1 : wq.cell? ⟨w.heap.size + 1, (i + 1) * 4 + 1, none⟩ = some (.slice ye.1.num.a ye.1.num.n ye.1.num.c) := (hM.cellAt _ (by omega)).trans (sy.2.1)
          have Y2 : wq.cell? ⟨w.heap.size + 1, (i + 1) * 4 + 2, none⟩ = some (.bool ye.1.den.g) := (hM.cellAt _ (by omega)).trans (sy.2.2.1)
          have Y3 : wq.cell? ⟨w.heap.size + 1, (i + 1) * 4 + 3, none⟩ = some (.slice ye.1.den.a ye.1.den.n ye.1.den.c) := (hM.cellAt _ (by omega)).trans (sy.2.2.2)
          have CL : Hid ((inn A (rnds A ps r) (i + 1)).length = n) := hide (by rw [inn_len (by rw [unhide UL]; omega), unhide UL])
          have CB : Hid (AllB (inn A (rnds A ps r) (i + 1)) 72600) := hide (fun q hq => (inn_bd (unhide KA) (unhide UB) (by omega) (by omega) (by rw [unhide UL]; omega) q hq).mono (mB_le (by omega)))
          have CX : Hid (IsD (rp (ct (inn A (rnds A ps r) (i + 1)) i)) xe.2) := hide (by
            refine (unhide ED).get i (c := rp (ct (inn A (rnds A ps r) (i + 1)) i)) ?_ (by rw [List.getElem?_map, List.getElem?_eq_getElem (by omega), ← hxe]; rfl)
            unfold rps; rw [List.getElem?_map, ct_get (by rw [unhide CL]; omega)]; rfl)
          have CY : Hid (IsD (rp (ct (inn A (rnds A ps r) (i + 1)) (i + 1))) ye.2) := hide (by
            refine (unhide ED).get (i + 1) (c := rp (ct (inn A (rnds A ps r) (i + 1)) (i + 1))) ?_ (by rw [List.getElem?_map, List.getElem?_eq_getElem (by omega), ← hye]; rfl)
            unfold rps; rw [List.getElem?_map, ct_get (by rw [unhide CL]; omega)]; rfl)
          clear sx sy hM hL hxe hye M
          have ES : Hid (rps (inn A (rnds A ps r) i) = (rps (inn A (rnds A ps r) (i + 1))).set i (mulAt (rp (ct (inn A (rnds A ps r) (i + 1)) i)) (rp (ct (inn A (rnds A ps r) (i + 1)) (i + 1))) (rp A))) := hide (by
            rw [mulAt_rp, ← inn_step (by rw [unhide UL]; omega)]
            unfold rps
            rw [List.map_set])
          have GX : Hid (0 < (rp (ct (inn A (rnds A ps r) (i + 1)) i)).2 ∧ Bd (rp (ct (inn A (rnds A ps r) (i + 1)) i)).1 100000 ∧ Bd (rp (ct (inn A (rnds A ps r) (i + 1)) i)).2 100000) := hide ⟨rp_pos _, ((unhide CB).ct (by omega) i).n.mono (by omega), ((unhide CB).ct (by omega) i).d.mono (by omega)⟩
          have GY : Hid (0 < (rp (ct (inn A (rnds A ps r) (i + 1)) (i + 1))).2 ∧ Bd (rp (ct (inn A (rnds A ps r) (i + 1)) (i + 1))).1 72600 ∧ Bd (rp (ct (inn A (rnds A ps r) (i + 1)) (i + 1))).2 72600) := hide ⟨rp_pos _, ((unhide CB).ct (by omega) (i + 1)).n, ((unhide CB).ct (by omega) (i + 1)).d⟩
          have GZ : Hid (0 < (rp A).2 ∧ Bd (rp A).1 6 ∧ Bd (rp A).2 6) := hide ⟨rp_pos _, (unhide KA).n, (unhide KA).d⟩
          have NB : Hid (Bd (mulAt (rp (ct (inn A (rnds A ps r) (i + 1)) i)) (rp (ct (inn A (rnds A ps r) (i + 1)) (i + 1))) (rp A)).1 72600 ∧ Bd (mulAt (rp (ct (inn A (rnds A ps r) (i + 1)) i)) (rp (ct (inn A (rnds A ps r) (i + 1)) (i + 1))) (rp A)).2 72600) := hide (by
            have hb := (inn_bd (k := i) (unhide KA) (unhide UB) (by omega) (by omega) (by rw [unhide UL]; omega)).ct (mB_pos _) i
            rw [← inn_step (by rw [unhide UL]; omega), ct_set (by rw [unhide CL]; omega), if_pos rfl] at hb
            rw [mulAt_rp]
            have hm := hb.mono (mB_le (by omega))
            exact ⟨hm.n, hm.d⟩)
          obtain ⟨CS2, hCS2⟩ : ∃ CS2, CS2 = rps (inn A (rnds A ps r) i) := ⟨_, rfl⟩
          rw [← hCS2] at ES
          have HC2 := hide hCS2
          clear hCS2
          have IZ : Hid (IsQ wq x (rp A).1 (rp A).2) := hide ((unhide HX).later (unhide HB))
          obtain ⟨CS, hCS⟩ : ∃ CS, CS = rps (inn A (rnds A ps r) (i + 1)) := ⟨_, rfl⟩
          rw [← hCS] at ES ED
          obtain ⟨cx, hcx⟩ : ∃ cx, cx = rp (ct (inn A (rnds A ps r) (i + 1)) i) := ⟨_, rfl⟩
          obtain ⟨cy, hcy⟩ : ∃ cy, cy = rp (ct (inn A (rnds A ps r) (i + 1)) (i + 1)) := ⟨_, rfl⟩
          obtain ⟨cz, hcz⟩ : ∃ cz, cz = rp A := ⟨_, rfl⟩
          rw [← hcx] at GX NB ES CX
          rw [← hcy] at GY NB ES CY
          rw [← hcz] at GZ NB ES IZ
          clear hcx hcy hcz hCS CL CB
          have MM : Hid (0 < lowD (cy.1 * cz.1) (cy.2 * cz.2) ∧ Bd (lowN (cy.1 * cz.1) (cy.2 * cz.2)) 100000 ∧ Bd (lowD (cy.1 * cz.1) (cy.2 * cz.2)) 100000) := hide ⟨lowD_pos (sum_ne (unhide GY).1 (unhide GZ).1), (lowN_bd ((unhide GY).2.1.mul (unhide GZ).2.1)).mono (by omega), (lowD_bd ((unhide GY).2.2.mul (unhide GZ).2.2)).mono (by omega)⟩
          have IX : Hid (IsQ wq xe.1 cx.1 cx.2) := hide (isQ_isD (unhide AA xe (unhide MX)) (unhide CX))
          have IY : Hid (IsQ wq ye.1 cy.1 cy.2) := hide (isQ_isD (unhide AA ye (unhide MY)) (unhide CY))
          go_upto_region 8 with fail
          have SD0 := cd_other S0
          have SD1 := cd_other S1
          have SD2 := cd_other S2
          have SD3 := cd_other S3
          have YD0 := cd_other Y0
          have YD1 := cd_other Y1
          have YD2 := cd_other Y2
          have YD3 := cd_other Y3
          have TD0 := cd_other T0
          have TD1 := cd_other T1
          have TD2 := cd_other T2
          have TD3 := cd_other T3
          go_region_with
            (first
            | (go_at_call 96; refine (mulQI ye.1 x cy.1 cy.2 cz.1 cz.2 _ ?_ ?_ (sum_ne (unhide GY).1 (unhide GZ).1) ((unhide GY).2.1.mono (by omega)) ((unhide GY).2.2.mono (by omega)) ((unhide GZ).2.1.mono (by omega)) ((unhide GZ).2.2.mono (by omega))).mono ?_; exact (unhide IY).drew; exact (unhide IZ).drew; rintro e w2 ⟨mm, lz, lm, rfl, hb1, o2, a2, m1, m2⟩; have hbx := below_of_drew hb1; have sz2 := hbx.size; have IM := hide (isQ_of a2 m1 m2); replace T0 := cell_later hbx T0; replace T1 := cell_later hbx T1; replace T2 := cell_later hbx T2; replace T3 := cell_later hbx T3; replace S0 := cell_later hbx S0; replace S1 := cell_later hbx S1; replace S2 := cell_later hbx S2; replace S3 := cell_later hbx S3; replace Y0 := cell_later hbx Y0; replace Y1 := cell_later hbx Y1; replace Y2 := cell_later hbx Y2; replace Y3 := cell_later hbx Y3; replace HB := hide (below_on (unhide HB) hbx); replace EM := hide (row_later (unhide EM) hbx); replace OO := hide ((unhide OO).later hbx); replace AA := hide (fun p hp => ((unhide AA) p hp).later hbx); replace IX := hide ((unhide IX).later hbx); clear hbx hb1 o2 a2 m1 m2 SD0 SD1 SD2 SD3 YD0 YD1 YD2 YD3 TD0 TD1 TD2 TD3)
            | (go_at_call 95; refine (addQI xe.1 mm cx.1 cx.2 (lowN (cy.1 * cz.1) (cy.2 * cz.2)) (lowD (cy.1 * cz.1) (cy.2 * cz.2)) _ (unhide IX) (unhide IM) (sum_ne (unhide GX).1 (unhide MM).1) (unhide GX).2.1 (unhide GX).2.2 (unhide MM).2.1 (unhide MM).2.2).mono ?_; rintro e w3 ⟨u, lu, lv, rfl, hb2, o3, a3, m1, m2⟩; have sz3 := hb2.size; have AU := hide (show AllOwn w2.heap.size w3.heap.size w3 [(u.num, ⟨decide ((mulAt cx cy cz).1 < 0), lu⟩), (u.den, ⟨decide ((mulAt cx cy cz).2 < 0), lv⟩)] from o3); have AV := hide (show AllAr w3 [(u.num, ⟨decide ((mulAt cx cy cz).1 < 0), lu⟩), (u.den, ⟨decide ((mulAt cx cy cz).2 < 0), lv⟩)] from a3); have NU := hide (show Nm lu (mulAt cx cy cz).1.natAbs ∧ Nm lv (mulAt cx cy cz).2.natAbs from ⟨m1, m2⟩); replace T0 := cell_later hb2 T0; replace T1 := cell_later hb2 T1; replace T2 := cell_later hb2 T2; replace T3 := cell_later hb2 T3; replace HB := hide (below_on (unhide HB) hb2); replace EM := hide (row_later (unhide EM) hb2); replace OO := hide ((unhide OO).later hb2); replace AA := hide (fun p hp => ((unhide AA) p hp).later hb2); obtain ⟨M, hM, hL⟩ := unhide EM; obtain ⟨x_0, old0⟩ : ∃ x, w3.cell? ⟨w.heap.size + 1, i * 4, none⟩ = some x := ⟨_, (hM.cellAt _ (by omega)).trans (List.getElem?_eq_getElem (by have := hM.1; omega))⟩; obtain ⟨x_1, old1⟩ : ∃ x, w3.cell? ⟨w.heap.size + 1, i * 4 + 1, none⟩ = some x := ⟨_, (hM.cellAt _ (by omega)).trans (List.getElem?_eq_getElem (by have := hM.1; omega))⟩; obtain ⟨x_2, old2⟩ : ∃ x, w3.cell? ⟨w.heap.size + 1, i * 4 + 2, none⟩ = some x := ⟨_, (hM.cellAt _ (by omega)).trans (List.getElem?_eq_getElem (by have := hM.1; omega))⟩; obtain ⟨x_3, old3⟩ : ∃ x, w3.cell? ⟨w.heap.size + 1, i * 4 + 3, none⟩ = some x := ⟨_, (hM.cellAt _ (by omega)).trans (List.getElem?_eq_getElem (by have := hM.1; omega))⟩; have fr : ∀ o, w3.frozen? ⟨w.heap.size + 1, o, none⟩ = false := fun o => hM.frozenAt o; have HM := hide hM; have HL := hide hL; clear hM hL hb2 o3 a3 m1 m2 EM S0 S1 S2 S3 Y0 Y1 Y2 Y3 IX IM))
          all_goals go_wp2
          all_goals go_roundw
          all_goals (first | (simp [intOf]; done) | (simp [intOf]; omega; done) | skip)
          all_goals
            have hM := unhide HM
            have bt : But (w.heap.size + 1) (w.heap.size + 1 + 1) w3 ((((w3.setCell ⟨w.heap.size + 1, i * 4, none⟩ (.bool u.num.g)).setCell ⟨w.heap.size + 1, i * 4 + 1, none⟩ (.slice u.num.a u.num.n u.num.c)).setCell ⟨w.heap.size + 1, i * 4 + 2, none⟩ (.bool u.den.g)).setCell ⟨w.heap.size + 1, i * 4 + 3, none⟩ (.slice u.den.a u.den.n u.den.c)) := but_rowQ
            have zs := zip_set (us := us) (k := i) (u := (u, (⟨⟨decide ((mulAt cx cy cz).1 < 0), lu⟩, ⟨decide ((mulAt cx cy cz).2 < 0), lv⟩⟩ : QD))) (by omega)
            have own : AllOwn (w.heap.size + 1 + 1) w3.heap.size w3 (zipPQ (us.set i (u, (⟨⟨decide ((mulAt cx cy cz).1 < 0), lu⟩, ⟨decide ((mulAt cx cy cz).2 < 0), lv⟩⟩ : QD)))) := by
              have o1 := unhide OO
              rw [zs.1] at o1
              rw [zs.2, zipPQ_one (u, _)]
              exact (o1.wide (Nat.le_refl _) (show wq.heap.size ≤ w2.heap.size by omega)).repl (unhide AU) (by omega) (by omega)
            refine ⟨i, us.set i (u, (⟨⟨decide ((mulAt cx cy cz).1 < 0), lu⟩, ⟨decide ((mulAt cx cy cz).2 < 0), lv⟩⟩ : QD)), by omega, by omega, by go_num, by simp [hu], Nat.lt_of_lt_of_le (by omega) bt.size, hide ?_, hide ⟨_, (World.ownsRow.stored (World.ownsRow.stored (World.ownsRow.stored (World.ownsRow.stored hM (i * 4) (.bool u.num.g)).1 (i * 4 + 1) (.slice u.num.a u.num.n u.num.c)).1 (i * 4 + 2) (.bool u.den.g)).1 (i * 4 + 3) (.slice u.den.a u.den.n u.den.c)).1, rep_rowQ hM.1 hu (by omega) (unhide HL)⟩, hide ?_, hide ?_, hide ?_, hide ?_, hide (bt.cell T0 (.inl (by omega))), hide (bt.cell T1 (.inl (by omega))), hide (bt.cell T2 (.inl (by omega))), hide (bt.cell T3 (.inl (by omega)))⟩
            · rw [← unhide HC2, unhide ES, List.map_set]
              exact (unhide ED).set i ⟨rfl, (unhide NU).1, rfl, (unhide NU).2⟩
            · exact (own.but bt (.inr (Nat.le_refl _))).wide (Nat.le_refl _) bt.size
            · intro p hp q hq
              refine ar_fin bt own (fun q hq => ?_) (Nat.le_refl _) q (zipPQ_mem hp hq)
              obtain ⟨p', hp', hq'⟩ := List.mem_flatMap.1 hq
              rcases List.mem_or_eq_of_mem_set hp' with h | h
              · exact (unhide AA) p' h q hq'
              · subst h
                exact (unhide AV) q hq'
            · intro p hp
              rcases List.mem_or_eq_of_mem_set hp with h | h
              · exact (unhide LS) p h
              · subst h
                have q1 := (unhide NU).1.len_le (unhide NB).1
                have q2 := (unhide NU).2.len_le (unhide NB).2
                have q3 : lu.length = u.num.n := (unhide AV).head.ar.len
                have q4 : lv.length = u.den.n := (unhide AV).tail.head.ar.len
                show u.num.n ≤ 90000 ∧ u.den.n ≤ 90000
                omega
            · exact bt.below (unhide HB) (by omega) (by have := (unhide HB).size; omega)
        · obtain rfl : k = r := by omega
          have hge : ¬ (k : Int) ≤ (k : Int) - 1 := by omega
          go_wp2
          go_roundw
          case rel => exact ⟨k + 1, us, by omega, by go_num, hu, z1, ED, EM, OO, AA, LS, HB, T0, T1, T2, T3⟩
          case measure => first | (simp [intOf]; done) | (simp [intOf]; omega)
    · obtain rfl : r = n := by omega
      have PO : Hid (POwQ (w.heap.size + 1 + 1) wp.heap.size wp (w.heap.size + 1) r r us) := hide ⟨unhide EM, unhide OO, unhide AA, hu⟩
      have hsz := lenPQ_le (unhide LS)
      have RO := hide ((unhide PO).ro (Nat.lt_succ_self _) (by omega) (by omega) (fun p hp => by have := (unhide LS) p hp; omega))
      have EF : Hid (IsL (rps (hS A ps)) (us.map Prod.snd)) := hide (by have h := unhide ED; rw [← pl, rnds_hS] at h; exact h)
      have hlt' : ¬ (r : Int) < (r : Int) := by omega
      go_wp2
      go_ret
      exact ⟨_, _, _, us, rfl, unhide HB, (unhide RO).wide (by omega) (Nat.le_refl _), (unhide PO).arg, unhide EF⟩
end Go.Proofs.YtcbmecnipldcfaaGreat
