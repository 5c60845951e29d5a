/- Chapter 11 of the specification: ears. No condition beyond those typed. Written by mkea11.py. -/
import Derived.Test.YtomekmhonfofkaaGreatSp11
import Derived.Deep.RegionHeld3
import Derived.BigQuiet
namespace Go.Proofs.YtomekmhonfofkaaGreat
open Go.RowKit
set_option linter.unusedVariables false
set_option maxRecDepth 100000
set_option linter.unusedSimpArgs false

def cI (L : List Nat) : List Int := L.map (fun k : Nat => (k : Int))
theorem cI_len (L : List Nat) : (cI L).length = L.length := by simp [cI]
theorem cI_at (L : List Nat) (i : Nat) : (cI L).getD i 0 = ((L.getD i 0 : Nat) : Int) := by
  unfold cI
  by_cases h : i < L.length
  · simp [List.getD_eq_getElem?_getD, h]
  · simp [List.getD_eq_getElem?_getD, h]
def bef (L : List Nat) (i : Nat) : Nat := L.getD ((i + L.length - 1) % L.length) 0
def aft (L : List Nat) (i : Nat) : Nat := L.getD ((i + 1) % L.length) 0
def okE (l : List (Int × Int)) (a b c k : Nat) : Bool := k == a || k == b || k == c || !inT (l.getD a (0, 0)) (l.getD b (0, 0)) (l.getD c (0, 0)) (l.getD k (0, 0))
/-- One of the corners left is an ear. -/
def earB (l : List (Int × Int)) (L : List Nat) (i : Nat) (t : Int) : Bool :=
  (sgZ (crs (l.getD (bef L i) (0, 0)) (l.getD (L.getD i 0) (0, 0)) (l.getD (aft L i) (0, 0))) == t) && L.all (okE l (bef L i) (L.getD i 0) (aft L i))
theorem mem_at {L : List Nat} {i : Nat} (h : i < L.length) : L.getD i 0 ∈ L := by
  rw [List.getD_eq_getElem?_getD, List.getElem?_eq_getElem h]
  exact List.getElem_mem h
theorem bef_mem {L : List Nat} {i : Nat} (h : i < L.length) : bef L i ∈ L := mem_at (Nat.mod_lt _ (by omega))
theorem aft_mem {L : List Nat} {i : Nat} (h : i < L.length) : aft L i ∈ L := mem_at (Nat.mod_lt _ (by omega))
theorem near_at {l : List (Int × Int)} {k : Nat} (hg : ∀ p ∈ l, Near p) (h : k < l.length) : Near (l.getD k (0, 0)) := by
  rw [List.getD_eq_getElem?_getD, List.getElem?_eq_getElem h]
  exact hg _ (List.getElem_mem h)
set_option maxHeartbeats 8000000 in
theorem earS (al ai : Option Addr) (n c m d : Nat) (l : List (Int × Int)) (L : List Nat) (i : Nat) (t : Int) (w : World) (h : SlP w al l) (hn : l.length = n) (h' : Sl w ai (cI L)) (hm : L.length = m) (hi : i < m) (h1 : n ≤ 1048576) (h2 : m ≤ 1048576) (hg : ∀ p ∈ l, Near p) (hL : ∀ k ∈ L, k < n) :
    Calls Tryz.prog 28 #[.slice al n c, .slice ai m d, .int .i64 i, .int .i64 t] w fun e w' => e = .returned (.bool (earB l L i t)) ∧ Below w.heap.size w w' := by
  subst hm
  have C1 := hide (fun w (k : Sl w ai (cI L)) => aroundS ai L.length d (cI L) i w k (cI_len L) hi h2)
  rw [cI_at, cI_at] at C1
  change Hid (∀ w, Sl w ai (cI L) → Calls _ _ _ w fun e w' => e = .returned (.tuple #[.int .i64 ((bef L i : Nat) : Int), .int .i64 ((aft L i : Nat) : Int)]) ∧ _) at C1
  have aL := hL _ (bef_mem hi)
  have bL := hL _ (mem_at hi)
  have cL := hL _ (aft_mem hi)
  rcases h with e | ⟨q, off, rfl, hq, hc⟩
  · subst e; simp at hn; omega
  have HC : Hid (∀ k, k < n → w.cell? ⟨q, off + k * 2, none⟩ = some (.int .i64 (l.getD k (0, 0)).1) ∧ w.cell? ⟨q, off + k * 2 + 1, none⟩ = some (.int .i64 (l.getD k (0, 0)).2)) := hide (fun k hk => by
    have := hc k (by omega)
    rw [List.getD_eq_getElem?_getD, List.getElem?_eq_getElem (by omega)]
    exact this)
  have NA := near_at hg (show bef L i < l.length by omega)
  have NB := near_at hg (show L.getD i 0 < l.length by omega)
  have NC := near_at hg (show aft L i < l.length by omega)
  have C2 := hide (fun w => orientS8 _ _ _ w NA NB NC)
  have C3 := hide (fun k (hk : k < n) w => inS11 _ _ _ _ w NA NB NC (near_at hg (show k < l.length by omega)))
  rcases h' with e | ⟨r, of2, rfl, hr, hd⟩
  · have := cI_len L; rw [e] at this; simp at this; omega
  have HS : Hid (Sl w (some ⟨r, of2, none⟩) (cI L)) := hide (.inr ⟨r, of2, rfl, hr, hd⟩)
  have HD : Hid (∀ k, k < L.length → w.cell? ⟨r, of2 + k, none⟩ = some (.int .i64 ((L.getD k 0 : Nat) : Int))) := hide (fun k hk => by rw [← cI_at]; exact hd k (by rw [cI_len]; exact hk))
  have HL : Hid (∀ k ∈ L, k < n) := hide hL
  have EV : Hid (∀ v, earB l L i t = v ↔ ((sgZ (crs (l.getD (bef L i) (0, 0)) (l.getD (L.getD i 0) (0, 0)) (l.getD (aft L i) (0, 0))) == t) && L.all (okE l (bef L i) (L.getD i 0) (aft L i))) = v) := hide (fun v => Iff.rfl)
  have OK : Hid (∀ k, okE l (bef L i) (L.getD i 0) (aft L i) k = (k == bef L i || k == L.getD i 0 || k == aft L i || !inT (l.getD (bef L i) (0, 0)) (l.getD (L.getD i 0) (0, 0)) (l.getD (aft L i) (0, 0)) (l.getD k (0, 0)))) := hide (fun k => rfl)
  have A_ := unhide HC _ aL
  have B_ := unhide HC _ bL
  have C_ := unhide HC _ cL
  have I0 := unhide HD i hi
  generalize okE l (bef L i) (L.getD i 0) (aft L i) = ok at *
  generalize earB l L i t = EB at *
  generalize hpa : l.getD (bef L i) (0, 0) = pa at *
  generalize hpb : l.getD (L.getD i 0) (0, 0) = pb at *
  generalize hpc : l.getD (aft L i) (0, 0) = pc at *
  generalize bef L i = a at *
  generalize L.getD i 0 = b at *
  generalize aft L i = cc at *
  generalize sgZ (crs pa pb pc) = s at *
  clear hpa hpb hpc NA NB NC hc hd hg hL hn
  have aL' : (a : Int) < (n : Int) := by omega
  have bL' : (b : Int) < (n : Int) := by omega
  have cL' : (cc : Int) < (n : Int) := by omega
  have hi' : (i : Int) < (L.length : Int) := by omega
  have HI := hide I0
  have HA := hide (And.intro A_ (And.intro B_ C_))
  clear I0 A_ B_ C_
  generalize hm : L.length = m at *
  go_enter Tryz.func28, Tryz.ntmps28
  go_wp2_with fail
  refine (unhide C1 _ (unhide HS)).mono ?_
  rintro e w1 ⟨rfl, hb⟩
  have HB := hide hb
  have I0 : w1.cell? ⟨r, of2 + i, none⟩ = some (.int .i64 (b : Int)) := (hb.cell (p := ⟨r, of2 + i, none⟩) hr).trans (unhide HI)
  have A0 : w1.cell? ⟨q, off + a * 2, none⟩ = some (.int .i64 pa.1) := (hb.cell (p := ⟨q, off + a * 2, none⟩) hq).trans (unhide HA).1.1
  have A1 : w1.cell? ⟨q, off + a * 2 + 1, none⟩ = some (.int .i64 pa.2) := (hb.cell (p := ⟨q, off + a * 2 + 1, none⟩) hq).trans (unhide HA).1.2
  have B0 : w1.cell? ⟨q, off + b * 2, none⟩ = some (.int .i64 pb.1) := (hb.cell (p := ⟨q, off + b * 2, none⟩) hq).trans (unhide HA).2.1.1
  have B1 : w1.cell? ⟨q, off + b * 2 + 1, none⟩ = some (.int .i64 pb.2) := (hb.cell (p := ⟨q, off + b * 2 + 1, none⟩) hq).trans (unhide HA).2.1.2
  have C0 : w1.cell? ⟨q, off + cc * 2, none⟩ = some (.int .i64 pc.1) := (hb.cell (p := ⟨q, off + cc * 2, none⟩) hq).trans (unhide HA).2.2.1
  have C1' : w1.cell? ⟨q, off + cc * 2 + 1, none⟩ = some (.int .i64 pc.2) := (hb.cell (p := ⟨q, off + cc * 2 + 1, none⟩) hq).trans (unhide HA).2.2.2
  clear hb C1 HS HI
  go_upto_region 3 with fail
  clear I0
  go_region_held3 (fun w' => w'.cell? ⟨q, off + a * 2, none⟩ = some (.int .i64 pa.1) ∧ w'.cell? ⟨q, off + a * 2 + 1, none⟩ = some (.int .i64 pa.2) ∧ w'.cell? ⟨q, off + b * 2, none⟩ = some (.int .i64 pb.1) ∧ w'.cell? ⟨q, off + b * 2 + 1, none⟩ = some (.int .i64 pb.2) ∧ w'.cell? ⟨q, off + cc * 2, none⟩ = some (.int .i64 pc.1) ∧ w'.cell? ⟨q, off + cc * 2 + 1, none⟩ = some (.int .i64 pc.2))
    (with_reducible (first | exact ⟨A0, A1, B0, B1, C0, C1'⟩ | exact ⟨cdP A0, cdP A1, cdP B0, cdP B1, cdP C0, cdP C1'⟩ | fail))
    (first
    | (go_at_call 42; refine (unhide C2 _).mono ?_; rintro e w2 ⟨rfl, hb1⟩; have hbx := below_of_drew hb1; replace A0 := cell_later hbx A0; replace A1 := cell_later hbx A1; replace B0 := cell_later hbx B0; replace B1 := cell_later hbx B1; replace C0 := cell_later hbx C0; replace C1' := cell_later hbx C1'; replace HB := hide (below_on (unhide HB) hbx); clear hb1 hbx)
    | fail)
  clear A0 A1 B0 B1 C0 C1' C2
  by_cases hs : s = t
  · have ds : (s != t) = false := by simp [hs]
    replace EV : Hid (EB = L.all ok) := hide (by have := (unhide EV _).2 rfl; rw [this]; simp [hs])
    clear hs
    rw [ds]
    clear ds
    go_wp2
    go_loopw [41] (fun jv wr => ∃ j : Nat, j ≤ m ∧ jv = .int .i64 j ∧ Hid (∀ x ∈ L.take j, ok x = true) ∧ Hid (Below w.heap.size w wr)) (fun jv _ => m - (intOf jv).toNat)
    case atStart => exact ⟨0, Nat.zero_le _, rfl, hide (by simp), HB⟩
    case round =>
      clear HB
      obtain ⟨j, hj, rfl, HT, HB⟩ := hrel
      by_cases hlt : j < m
      · have hlt' : (j : Int) < (m : Int) := by omega
        have D0 : wr.cell? ⟨r, of2 + j, none⟩ = some (.int .i64 ((L.getD j 0 : Nat) : Int)) := ((unhide HB).cell (p := ⟨r, of2 + j, none⟩) hr).trans (unhide HD j hlt)
        have mk := mem_at (L := L) (i := j) (by omega)
        have kL := unhide HL _ mk
        have NX : Hid (ok (L.getD j 0) = true → ∀ x ∈ L.take (j + 1), ok x = true) := hide (fun hk x hx => by
          rw [List.take_succ_eq_append_getElem (by omega), List.mem_append] at hx
          rcases hx with hx | hx
          · exact unhide HT x hx
          · simp at hx; subst hx; rw [List.getD_eq_getElem?_getD, List.getElem?_eq_getElem (by omega)] at hk; exact hk)
        have NO : Hid (ok (L.getD j 0) = false → EB = false) := hide (fun hk => by
          rw [unhide EV, List.all_eq_false]
          exact ⟨_, mk, fun e => by rw [hk] at e; cases e⟩)
        have OKK := unhide OK (L.getD j 0)
        have CI := hide (fun w => unhide C3 (L.getD j 0) kL w)
        have K_ := unhide HC (L.getD j 0) kL
        generalize l.getD (L.getD j 0) (0, 0) = pk at *
        generalize L.getD j 0 = k at *
        have kL' : (k : Int) < (n : Int) := by omega
        clear mk HT
        generalize inT pa pb pc pk = iv at *
        have go1 : ∀ x y : Nat, x = y → ((x : Int) != (y : Int)) = false := fun x y e => by simp [e]
        have go2 : ∀ x y : Nat, x ≠ y → ((x : Int) != (y : Int)) = true ∧ (x != y) = true ∧ (x == y) = false ∧ decide (x = y) = false ∧ ((x : Int) == (y : Int)) = false := fun x y e => ⟨by simp; omega, by simp [e], by simp [e], by simp [e], by simp; omega⟩
        have GG := hide (And.intro go1 go2)
        clear go1 go2
        by_cases ha : k = a
        · have q1 := (unhide GG).1 _ _ ha
          have HN := hide (unhide NX (by rw [OKK]; simp [ha]))
          subst ha
          clear OKK NX NO CI GG HA K_
          go_upto_region 8 with fail
          clear D0
          go_quiet (fail)
          go_wp2
          go_roundw
          case rel => exact ⟨j + 1, by omega, by go_num, HN, hide (below_drewN (unhide HB) _)⟩
          case measure => simp [intOf]; omega
        obtain ⟨q1, q1b, q1c, q1d, q1e⟩ := (unhide GG).2 _ _ ha
        by_cases hb' : k = b
        · have q2 := (unhide GG).1 _ _ hb'
          have HN := hide (unhide NX (by rw [OKK]; simp [hb']))
          subst hb'
          clear OKK NX NO CI GG HA K_
          go_upto_region 8 with fail
          clear D0
          go_quiet (fail)
          go_wp2
          go_roundw
          case rel => exact ⟨j + 1, by omega, by go_num, HN, hide (below_drewN (unhide HB) _)⟩
          case measure => simp [intOf]; omega
        obtain ⟨q2, q2b, q2c, q2d, q2e⟩ := (unhide GG).2 _ _ hb'
        by_cases hc' : k = cc
        · have q3 := (unhide GG).1 _ _ hc'
          have HN := hide (unhide NX (by rw [OKK]; simp [hc']))
          subst hc'
          clear OKK NX NO CI GG HA K_
          go_upto_region 8 with fail
          clear D0
          go_quiet (fail)
          go_wp2
          go_roundw
          case rel => exact ⟨j + 1, by omega, by go_num, HN, hide (below_drewN (unhide HB) _)⟩
          case measure => simp [intOf]; omega
        obtain ⟨q3, q3b, q3c, q3d, q3e⟩ := (unhide GG).2 _ _ hc'
        have A0 : wr.cell? ⟨q, off + a * 2, none⟩ = some (.int .i64 pa.1) := ((unhide HB).cell (p := ⟨q, off + a * 2, none⟩) hq).trans (unhide HA).1.1
        have A1 : wr.cell? ⟨q, off + a * 2 + 1, none⟩ = some (.int .i64 pa.2) := ((unhide HB).cell (p := ⟨q, off + a * 2 + 1, none⟩) hq).trans (unhide HA).1.2
        have B0 : wr.cell? ⟨q, off + b * 2, none⟩ = some (.int .i64 pb.1) := ((unhide HB).cell (p := ⟨q, off + b * 2, none⟩) hq).trans (unhide HA).2.1.1
        have B1 : wr.cell? ⟨q, off + b * 2 + 1, none⟩ = some (.int .i64 pb.2) := ((unhide HB).cell (p := ⟨q, off + b * 2 + 1, none⟩) hq).trans (unhide HA).2.1.2
        have C0 : wr.cell? ⟨q, off + cc * 2, none⟩ = some (.int .i64 pc.1) := ((unhide HB).cell (p := ⟨q, off + cc * 2, none⟩) hq).trans (unhide HA).2.2.1
        have C1 : wr.cell? ⟨q, off + cc * 2 + 1, none⟩ = some (.int .i64 pc.2) := ((unhide HB).cell (p := ⟨q, off + cc * 2 + 1, none⟩) hq).trans (unhide HA).2.2.2
        have K0 : wr.cell? ⟨q, off + k * 2, none⟩ = some (.int .i64 pk.1) := ((unhide HB).cell (p := ⟨q, off + k * 2, none⟩) hq).trans K_.1
        have K1 : wr.cell? ⟨q, off + k * 2 + 1, none⟩ = some (.int .i64 pk.2) := ((unhide HB).cell (p := ⟨q, off + k * 2 + 1, none⟩) hq).trans K_.2
        clear K_ HA GG
        cases iv
        · have HN := hide (unhide NX (by rw [OKK]; simp))
          clear OKK NX NO
          go_upto_region 8 with fail
          clear D0
          go_region_held3 (fun w' => w'.cell? ⟨q, off + a * 2, none⟩ = some (.int .i64 pa.1) ∧ w'.cell? ⟨q, off + a * 2 + 1, none⟩ = some (.int .i64 pa.2) ∧ w'.cell? ⟨q, off + b * 2, none⟩ = some (.int .i64 pb.1) ∧ w'.cell? ⟨q, off + b * 2 + 1, none⟩ = some (.int .i64 pb.2) ∧ w'.cell? ⟨q, off + cc * 2, none⟩ = some (.int .i64 pc.1) ∧ w'.cell? ⟨q, off + cc * 2 + 1, none⟩ = some (.int .i64 pc.2) ∧ w'.cell? ⟨q, off + k * 2, none⟩ = some (.int .i64 pk.1) ∧ w'.cell? ⟨q, off + k * 2 + 1, none⟩ = some (.int .i64 pk.2))
            (with_reducible (first | exact ⟨A0, A1, B0, B1, C0, C1, K0, K1⟩ | exact ⟨cdP A0, cdP A1, cdP B0, cdP B1, cdP C0, cdP C1, cdP K0, cdP K1⟩ | fail))
            (first
            | (go_at_call 46; refine (unhide CI _).mono ?_; rintro e w5 ⟨rfl, hb1⟩; have hbx := below_of_drew hb1; replace A0 := cell_later hbx A0; replace A1 := cell_later hbx A1; replace B0 := cell_later hbx B0; replace B1 := cell_later hbx B1; replace C0 := cell_later hbx C0; replace C1 := cell_later hbx C1; replace K0 := cell_later hbx K0; replace K1 := cell_later hbx K1; replace HB := hide (below_on (unhide HB) hbx); clear hb1 hbx)
            | fail)
          clear A0 A1 B0 B1 C0 C1 K0 K1 CI
          go_wp2
          go_roundw
          case rel => exact ⟨j + 1, by omega, by go_num, HN, HB⟩
          case measure => simp [intOf]; omega
        · have HN := hide (unhide NO (by rw [OKK]; simp [ha, hb', hc']))
          clear OKK NX NO
          go_upto_region 8 with fail
          clear D0
          go_region_held3 (fun w' => w'.cell? ⟨q, off + a * 2, none⟩ = some (.int .i64 pa.1) ∧ w'.cell? ⟨q, off + a * 2 + 1, none⟩ = some (.int .i64 pa.2) ∧ w'.cell? ⟨q, off + b * 2, none⟩ = some (.int .i64 pb.1) ∧ w'.cell? ⟨q, off + b * 2 + 1, none⟩ = some (.int .i64 pb.2) ∧ w'.cell? ⟨q, off + cc * 2, none⟩ = some (.int .i64 pc.1) ∧ w'.cell? ⟨q, off + cc * 2 + 1, none⟩ = some (.int .i64 pc.2) ∧ w'.cell? ⟨q, off + k * 2, none⟩ = some (.int .i64 pk.1) ∧ w'.cell? ⟨q, off + k * 2 + 1, none⟩ = some (.int .i64 pk.2))
            (with_reducible (first | exact ⟨A0, A1, B0, B1, C0, C1, K0, K1⟩ | exact ⟨cdP A0, cdP A1, cdP B0, cdP B1, cdP C0, cdP C1, cdP K0, cdP K1⟩ | fail))
            (first
            | (go_at_call 46; refine (unhide CI _).mono ?_; rintro e w5 ⟨rfl, hb1⟩; have hbx := below_of_drew hb1; replace A0 := cell_later hbx A0; replace A1 := cell_later hbx A1; replace B0 := cell_later hbx B0; replace B1 := cell_later hbx B1; replace C0 := cell_later hbx C0; replace C1 := cell_later hbx C1; replace K0 := cell_later hbx K0; replace K1 := cell_later hbx K1; replace HB := hide (below_on (unhide HB) hbx); clear hb1 hbx)
            | fail)
          clear A0 A1 B0 B1 C0 C1 K0 K1 CI
          go_wp2
          go_ret
          exact ⟨by rw [unhide HN]; rfl, unhide HB⟩
      · obtain rfl : j = m := by omega
        have HN : Hid (EB = true) := hide (by
          rw [unhide EV, List.all_eq_true]
          have := unhide HT
          rw [← hm, List.take_length] at this
          exact this)
        go_wp2
        go_ret
        exact ⟨by rw [unhide HN]; rfl, unhide HB⟩
  · have ds : (s != t) = true := by simp [hs]
    have HN : Hid (EB = false) := hide (by have := (unhide EV _).2 rfl; rw [this]; simp [hs])
    go_wp2
    go_ret
    exact ⟨by rw [unhide HN]; rfl, unhide HB⟩
end Go.Proofs.YtomekmhonfofkaaGreat
