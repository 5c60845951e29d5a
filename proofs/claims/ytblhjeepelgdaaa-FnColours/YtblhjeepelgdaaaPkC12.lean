/- The program cuts a simple way into triangles. No condition beyond those typed. -/
import Derived.Test.YtblhjeepelgdaaaPkB12
import Derived.Maps.AppendAt
import Derived.Deep.RegionLaw
import Derived.Test.YtblhjeepelgdaaaPkZ12
import Derived.OwnWalk
namespace Go.Proofs.Ytblhjeepelgdaaa
open Go.RowKit Go.ChangeMaps
set_option linter.unusedVariables false
set_option maxRecDepth 100000
set_option linter.unusedSimpArgs false

/-- The first ear, or the first corner. -/
def fstE (l : List (Int × Int)) (L : List Nat) (t : Int) : Nat := ((List.range L.length).find? (fun i => earB l L i t)).getD 0
/-- The triangles, ears cut off one by one. -/
def cutL (l : List (Int × Int)) (t : Int) : Nat → List Nat → List (Int × Int × Int)
  | 0, L => [(((L.getD 0 0 : Nat) : Int), ((L.getD 1 0 : Nat) : Int), ((L.getD 2 0 : Nat) : Int))]
  | k + 1, L => triE L (fstE l L t) :: cutL l t k (L.eraseIdx (fstE l L t))
theorem cutL_len (l : List (Int × Int)) (t : Int) : ∀ k L, (cutL l t k L).length = k + 1
  | 0, L => rfl
  | k + 1, L => by rw [cutL, List.length_cons, cutL_len l t k]
theorem find_lt {f : Nat → Bool} {n m : Nat} (hm : m ≤ n) (h : 0 < n) : (((List.range n).drop m).find? f).getD 0 < n := by
  cases e : ((List.range n).drop m).find? f with
  | none => exact h
  | some x =>
    have := List.mem_of_find?_eq_some e
    exact List.mem_range.1 (List.mem_of_mem_drop this)
theorem fstE_lt {l : List (Int × Int)} {L : List Nat} {t : Int} (h : 0 < L.length) : fstE l L t < L.length := by
  have := find_lt (f := fun i => earB l L i t) (Nat.zero_le L.length) h
  exact this
theorem drop_range {n m : Nat} (h : m < n) : (List.range n).drop m = m :: (List.range n).drop (m + 1) := by
  rw [List.drop_eq_getElem_cons (by simpa using h)]
  simp
theorem find_yes {f : Nat → Bool} {n m : Nat} (h : m < n) (hf : f m = true) : (((List.range n).drop m).find? f).getD 0 = m := by
  rw [drop_range h, List.find?_cons_of_pos hf]
  rfl
theorem find_no {f : Nat → Bool} {n m : Nat} (h : m < n) (hf : f m = false) : (((List.range n).drop m).find? f).getD 0 = (((List.range n).drop (m + 1)).find? f).getD 0 := by
  rw [drop_range h, List.find?_cons_of_neg (by rw [hf]; simp)]
theorem cI_take (L : List Nat) (k : Nat) : cI (L.take k) = (cI L).take k := by simp [cI, List.map_take]
theorem cI_drop (L : List Nat) (k : Nat) : cI (L.drop k) = (cI L).drop k := by simp [cI, List.map_drop]
theorem cI_app (L M : List Nat) : cI (L ++ M) = cI L ++ cI M := by simp [cI]
theorem er_two (L : List Nat) (e : Nat) : cI (L.eraseIdx e) = (cI L).take e ++ (cI L).drop (e + 1) := by rw [List.eraseIdx_eq_take_drop_succ, cI_app, cI_take, cI_drop]
/-- Cells of a part of a row. -/
theorem RwI.news {B g n c : Nat} {w : World} {L : List Int} (h : RwI B w (.slice (some ⟨g, 0, none⟩) n c) L) (s m : Nat) (hs : s + m ≤ L.length) :
    ∀ j u, (((L.drop s).take m).map (Value.int .i64))[j]? = some u → w.cell? ((⟨g, s, none⟩ : Addr).add j) = some u := by
  intro j u hj
  rw [List.getElem?_map] at hj
  have hj2 : j < m := by
    rcases Nat.lt_or_ge j m with k | k
    · exact k
    · rw [List.getElem?_eq_none (by simp; omega)] at hj; cases hj
  rw [List.getElem?_take_of_lt hj2, List.getElem?_drop] at hj
  have e := h.at11 (i := s + j) (by omega)
  rw [List.getD_eq_getElem?_getD, List.getElem?_eq_getElem (by omega)] at e
  rw [List.getElem?_eq_getElem (by omega)] at hj
  simp only [Option.map_some, Option.some.injEq] at hj
  have ad : (⟨g, s, none⟩ : Addr).add j = ⟨g, s + j, none⟩ := by
    unfold Addr.add
    split
    · rename_i h; subst h; rfl
    · rfl
  rw [ad, e, ← hj]
  rfl
/-- Rows of one's own in blocks apart. -/
def Apt (u v : Value) : Prop := ∀ k, u.ownBlock = some k → v.ownBlock ≠ some k
theorem Apt.symm {u v : Value} (h : Apt u v) : Apt v u := fun k h1 h2 => h k h2 h1
/-- A row stays while another one grows. -/
theorem owns_beside {B k : Nat} {t : TypeId} {w w' : World} {v : Value} {n : Nat} {xs : List Value} {r : Option Nat} (h : w.ownsRow B t k v n xs) (hg : w.grownBy w' r) (hne : ∀ j, v.ownBlock = some j → some j ≠ r) : w'.ownsRow B t k v n xs := by
  refine ⟨h.1, ?_⟩
  rcases h.2 with h' | ⟨g', cap, cur, hv, h1, hg', rr⟩
  · exact .inl h'
  · refine .inr ⟨g', cap, cur, hv, h1, ?_, rr⟩
    rw [hg.block g' (Array.getElem?_eq_some_iff.1 hg').1 (hne g' (by rw [hv]; rfl))]
    exact hg'
theorem RwI.lt11 {B : Nat} {w : World} {v : Value} {L : List Int} (h : RwI B w v L) : ∀ k, v.ownBlock = some k → k < w.heap.size := by
  rcases h.open with ⟨rfl, _⟩ | ⟨g, c, rfl, hB, hl, _⟩
  · intro k hk; simp [Value.ownBlock] at hk
  · intro k hk; simp [Value.ownBlock] at hk; omega
theorem RwT.lt11 {B : Nat} {w : World} {v : Value} {L : List (Int × Int × Int)} (h : RwT B w v L) : ∀ k, v.ownBlock = some k → k < w.heap.size := by
  rcases h.open with ⟨rfl, _⟩ | ⟨g, c, rfl, hB, hl, _⟩
  · intro k hk; simp [Value.ownBlock] at hk
  · intro k hk; simp [Value.ownBlock] at hk; omega
theorem RwT.blk11 {B : Nat} {w : World} {v : Value} {L : List (Int × Int × Int)} (h : RwT B w v L) : ∀ k, v.ownBlock = some k → B ≤ k := by
  rcases h.open with ⟨rfl, _⟩ | ⟨g, c, rfl, hB, hl, _⟩
  · intro k hk; simp [Value.ownBlock] at hk
  · intro k hk; simp [Value.ownBlock] at hk; omega
theorem step_app11 {P : Program} {ops : Array Oper} {o : Oper} {a : Act} {w : World} {K : Act → World → Prop} {Q : Exit → Act → World → Prop} {E : Prop} (hgd : o.guard = none) (s x : Operand) (t : TypeId)
    (ho : o.op = .call { callee := .builtin .append, args := #[s, x], argTypes := #[t, t] })
    (base : Nat) (e : TypeId) (i : TypeInfo) (z : Value) (size bytes : Nat) (ht : P.underlying t = some (.slice e)) (hi : P.info? e = some i) (hz : i.zero = some z)
    (hsize : i.size = size) (hby : i.bytes = bytes) (hzs : z.cells.size = size) (hsz : 0 < size)
    (v : Value) (n : Nat) (xs : List Value) (hs : a.eval s = v) (hown : w.ownsRow base e size v n xs)
    (ad : Addr) (m c : Nat) (news : List Value) (hx : a.eval x = .slice (some ad) m c) (hl : news.length = m * size) (hnews : ∀ j u, news[j]? = some u → w.cell? (ad.add j) = some u) (h1 : ∀ u ∈ news, u.oneCell' = true)
    (h63 : n + m ≤ maxLen) (hbytes : (n + m) * bytes ≤ 140737488355328) (hbase : base ≤ w.heap.size)
    (h : ∀ v' w', w'.ownsRow base e size v' (n + m) (xs ++ news) → w.grownBy w' v.ownBlock → K (a.put o.dst v') w') :
    if Region.wanted o (yielded ops a.tmps) = true then Oper.wp P o a w K Q else E := by
  have hw : Region.wanted o (yielded ops a.tmps) = true := by simp [Region.wanted, hgd]
  rw [if_pos hw]
  obtain ⟨v', w', hr, h2, h3, _, _⟩ := run_append_own_at (P := P) w base t o.type e i z size bytes ht hi hz hsize hby hzs hsz v n xs hown ad m c news hl hnews h1 h63 hbytes hbase
  unfold Oper.wp execOp
  simp only [ho, resolve, invoke, builtin, Sem.run_bind, Sem.run_pure, Result.andThen_ok, List.map_toArray, List.map_cons, List.map_nil, hs, hx, hr]
  exact h v' w' h2 h3
theorem emptyR (w : World) : RwI w.heap.size (w.alloc (.cells #[] 3)) (.slice (some ⟨w.heap.size, 0, none⟩) 0 0) [] := by
  refine ⟨⟨rfl, .inr ⟨w.heap.size, 0, #[], rfl, Nat.le_refl _, ?_, by simp, by simp, by simp, rfl⟩⟩⟩
  show (w.heap.push _)[w.heap.size]? = _
  simp
theorem RwI.lenV {B : Nat} {w : World} {v : Value} {L : List Int} (h : RwI B w v L) : Go.Proofs.Ytblhjeepelgdaaa.lenV v = L.length := by
  rcases h.open with ⟨rfl, rfl⟩ | ⟨g, c, rfl, _⟩ <;> rfl
end Go.Proofs.Ytblhjeepelgdaaa
namespace Go.Proofs.Ytblhjeepelgdaaa
open Go.RowKit Go.ChangeMaps
set_option linter.unusedVariables false
set_option maxRecDepth 100000
set_option linter.unusedSimpArgs false

set_option maxHeartbeats 16000000 in
theorem cutS (a : Option Addr) (n c : Nat) (l : List (Int × Int)) (w : World) (h : SlP w a l) (hn : l.length = n) (h3 : 3 ≤ n) (h12 : n ≤ 12) (hg : ∀ p ∈ l, Near p) :
    Calls Try.prog 70 #[.slice a n c] w fun e w' => ∃ v, e = .returned v ∧ Below w.heap.size w w' ∧ RwT w.heap.size w' v (cutL l (sgZ (arS l l.length)) (n - 3) (List.range n)) := by
  obtain ⟨i0, hi0, hz0, hz1, hz2⟩ := info_parts infoTri
  obtain ⟨k0, hk0, kz0, kz1, kz2⟩ := info_parts Try.info3
  have CA := hide (fun w (k : SlP w a l) => areaS a n c l w k hn h12 hg)
  have CE := hide (fun w ai d (L : List Nat) (t : Int) (k : SlP w a l) (k' : Sl w ai (cI L)) (i : Nat) (hi : i < L.length) (hL : ∀ x ∈ L, x < n) (hl : L.length ≤ 1048576) => earS a ai n c L.length d l L i t w k hn k' rfl hi (by omega) hl hg hL)
  have HS := hide h
  have HQ := hide h
  generalize arS l l.length = A at *
  obtain ⟨t, ht⟩ : ∃ t, t = sgZ A := ⟨_, rfl⟩
  have ST := hide (signS8 A)
  rw [← ht] at ST ⊢
  obtain ⟨T, hT⟩ : ∃ T, T = cutL l t (n - 3) (List.range n) := ⟨_, rfl⟩
  have TL : T.length = n - 2 := by rw [hT, cutL_len]; omega
  rw [← hT]
  have ET := hide hT.symm
  clear h hn hg ht hT
  go_enter Try.func70, Try.ntmps70
  go_wp2_with fail
  refine (allS a n c _ (by omega)).mono ?_
  rintro e w1 ⟨v3, rfl, hb, rw3⟩
  rw [up_cI] at rw3
  have R3 := hide rw3
  replace HS := hide ((unhide HS).later hb)
  have HB := hide hb
  clear hb rw3
  go_wp2_with fail
  refine (unhide CA _ (unhide HS)).mono ?_
  rintro e w2 ⟨rfl, hb⟩
  replace R3 := hide ((unhide R3).later hb)
  replace HB := hide (below_on (unhide HB) hb)
  replace HS := hide ((unhide HS).later hb)
  clear hb CA
  go_wp2_with fail
  refine (unhide ST _).mono ?_
  rintro e w2' ⟨rfl, rfl⟩
  have HS0 := HS
  go_wp2_with fail
  go_loopw [3, 5] (fun v3 v5 wr => ∃ (N : Nat) (L : List Nat) (D : List (Int × Int × Int)), 3 ≤ N ∧ N ≤ 12 ∧ D.length ≤ 12 ∧ Hid (L.length = N) ∧ Hid (D ++ cutL l t (N - 3) L = T) ∧ Hid (∀ x ∈ L, x < n) ∧ Hid (RwI w.heap.size wr v3 (cI L)) ∧ Hid (RwT w.heap.size wr v5 D) ∧ Hid (Apt v3 v5) ∧ Hid (Below w.heap.size w wr)) (fun v3 _ _ => lenV v3)
  case atStart => exact ⟨n, List.range n, [], h3, h12, by simp, hide (by simp), hide (by rw [List.nil_append]; exact unhide ET), hide (fun x hx => List.mem_range.1 hx), R3, hide (RwT.nil _ _), hide (fun k h1 h2 => by simp [Value.ownBlock] at h2), HB⟩
  case round =>
    clear R3 HB ET
    obtain ⟨N, L, D, N3, N12, hDn, HN, HE, HL, HR, HO, HP, HB⟩ := hrel
    have lc : (cI L).length = N := by rw [cI_len]; exact unhide HN
    obtain ⟨g, c3, rfl, hBg, hgs, hcl, hcm⟩ : ∃ g c3, u3 = .slice (some ⟨g, 0, none⟩) N c3 ∧ w.heap.size ≤ g ∧ g < wr.heap.size ∧ N ≤ c3 ∧ c3 ≤ maxLen := by
      rcases (unhide HR).open with ⟨_, e⟩ | ⟨g, c3, e, h1, h2, h3, h4, _⟩
      · rw [e] at lc; simp at lc; omega
      · rw [lc] at e h3
        exact ⟨g, c3, e, h1, h2, h3, h4⟩
    have S3 : Hid (Sl wr (some ⟨g, 0, none⟩) (cI L)) := hide (Sl.of_owns (by have := (unhide HR).row; rw [lc] at this; exact this) lc)
    have HSp : Hid (SlP wr a l) := hide (by
      rcases (unhide HQ) with e | ⟨q, off, rfl, hq, hc⟩
      · exact .inl e
      · exact .inr ⟨q, off, rfl, Nat.lt_of_lt_of_le hq (unhide HB).size, fun i hi => ⟨((unhide HB).cell (p := ⟨q, off + i * 2, none⟩) hq).trans (hc i hi).1, ((unhide HB).cell (p := ⟨q, off + i * 2 + 1, none⟩) hq).trans (hc i hi).2⟩⟩)
    obtain ⟨wp, hwp⟩ : ∃ x, x = wr := ⟨_, rfl⟩
    subst hwp
    by_cases h4 : 3 < N
    · have h4' : (3 : Int) < (N : Int) := by omega
      have d4 : decide (3 < N) = true := decide_eq_true h4
      have w1N : IntKind.i64.wrap ((N : Int) - 1) = (N : Int) - 1 := by rw [IntKind.wrap_i64]; omega
      go_upto_region 7 with fail
      go_loopw [6, 7] (fun ev iv wr => ∃ m : Nat, m ≤ N ∧ iv = .int .i64 ((m : Int) - 1) ∧ ev = .int .i64 (((((List.range N).drop m).find? (fun i => earB l L i t)).getD 0 : Nat) : Int) ∧ Hid (Below wp.heap.size wp wr)) (fun _ iv _ => ((intOf iv) + 1).toNat)
      case atStart => exact ⟨N, Nat.le_refl _, rfl, by rw [List.drop_eq_nil_of_le (by simp)]; rfl, hide (Below.refl _ _)⟩
      case round =>
        obtain ⟨m, hm, rfl, rfl, HW⟩ := hrel
        by_cases hm0 : m = 0
        · subst hm0
          have FE : (((List.range N).drop 0).find? (fun i => earB l L i t)).getD 0 = fstE l L t := by unfold fstE; rw [unhide HN]; rfl
          have eN : fstE l L t < N := by have := fstE_lt (l := l) (L := L) (t := t) (by rw [unhide HN]; omega); rw [unhide HN] at this; exact this
          rw [FE]
          have TE : Hid (triE L (fstE l L t) = ((bef L (fstE l L t) : Int), (L.getD (fstE l L t) 0 : Int), (aft L (fstE l L t) : Int))) := hide rfl
          have E2 : Hid (D ++ [triE L (fstE l L t)] ++ cutL l t (N - 1 - 3) (L.eraseIdx (fstE l L t)) = T) := hide (by
            have := unhide HE
            rw [show N - 3 = N - 1 - 3 + 1 by omega, cutL] at this
            rw [List.append_assoc]
            exact this)
          have LE : Hid ((L.eraseIdx (fstE l L t)).length = N - 1) := hide (by rw [List.length_eraseIdx, unhide HN, if_pos eN])
          have LX : Hid (∀ x ∈ L.eraseIdx (fstE l L t), x < n) := hide (fun x hx => unhide HL x (List.mem_of_mem_eraseIdx hx))
          have ER : Hid (cI (L.eraseIdx (fstE l L t)) = (cI L).take (fstE l L t) ++ (cI L).drop (fstE l L t + 1)) := hide (er_two L _)
          have K2 := (unhide S3).later (Nat.le_refl _) (unhide HW)
          have C1 := hide (aroundS (some ⟨g, 0, none⟩) N c3 (cI L) (fstE l L t) wr K2 lc eN (by omega))
          have eb : (cI L).getD ((fstE l L t + N - 1) % N) 0 = ((bef L (fstE l L t) : Nat) : Int) := by rw [cI_at]; unfold bef; rw [unhide HN]
          have ea : (cI L).getD ((fstE l L t + 1) % N) 0 = ((aft L (fstE l L t) : Nat) : Int) := by rw [cI_at]; unfold aft; rw [unhide HN]
          rw [eb, ea] at C1
          have HRw := (unhide HR).later (unhide HW)
          have cy := HRw.at11 (i := fstE l L t) (by rw [lc]; exact eN)
          rw [cI_at] at cy
          have R3 := hide HRw
          replace HO := hide ((unhide HO).later (unhide HW))
          have HBW := hide (below_on (unhide HB) (unhide HW))
          have gl : g < wr.heap.size := Nat.lt_of_lt_of_le hgs (unhide HW).size
          clear HRw K2 eb ea FE HE HL HN HR S3 HSp HW HB HS HQ CE
          generalize fstE l L t = ee at *
          generalize bef L ee = x at *
          generalize L.getD ee 0 = y at *
          generalize aft L ee = z at *
          have eN' : (ee : Int) < (N : Int) := by omega
          go_wp2_with fail
          refine (unhide C1).mono ?_
          rintro e w5 ⟨rfl, hb⟩
          replace R3 := hide ((unhide R3).later hb)
          replace HO := hide ((unhide HO).later hb)
          replace HBW := hide (below_on (unhide HBW) hb)
          replace cy := (hb.cell (p := ⟨g, ee, none⟩) gl).trans cy
          replace gl := Nat.lt_of_lt_of_le gl hb.size
          clear hb C1
          go_wp2_with (at_builtin; refine wpList_append_own_at _ rfl (.tmp 38) (.tmp 46) 29 rfl w.heap.size 33 i0 (.agg #[.int .i64 0, .int .i64 0, .int .i64 0]) 3 24 Try.underlying29 hi0 hz0 hz1 hz2 rfl (by decide) _ _ _ rfl ((unhide HO).row.alloc _) ⟨_, 0, none⟩ 1 1 [.int .i64 (x : Int), .int .i64 (y : Int), .int .i64 (z : Int)] rfl rfl (new_cellT _ _ _ _) (fun u hu => by simp at hu; rcases hu with rfl | rfl | rfl <;> rfl) (by unfold maxLen; omega) (by omega) (by have := (unhide HBW).size; simp; omega) ?_)
          intro v' w6 hown hgr _ hob
          have O6 : Hid (RwT w.heap.size w6 v' (D ++ [((x : Int), (y : Int), (z : Int))])) := hide (RwT.snoc hown)
          have R6 : Hid (RwI w.heap.size w6 (.slice (some ⟨g, 0, none⟩) N c3) (cI L)) := hide ⟨owns_beside ((unhide R3).row.alloc _) hgr (fun j hj => fun e => unhide HP j hj e.symm)⟩
          have B6 := hide (owns_belowR (unhide HBW) (unhide HBW).size (unhide HO).row hgr)
          have P6 : Hid (v'.ownBlock ≠ some g) := hide (fun e => by
            rcases hob with k | k
            · exact unhide HP g rfl (by rw [← k]; exact e)
            · rw [k] at e; simp at e; omega)
          rw [← unhide TE] at O6
          have g6 : g < w6.heap.size := Nat.lt_of_lt_of_le gl (Nat.le_trans (by simp) hgr.size)
          clear hown hgr hob HO R3 HBW cy HP TE
          have al : Below w6.heap.size w6 (w6.alloc (.cells #[] 3)) := (Below.refl _ _).alloc (Nat.le_refl _) _
          have X1 := hide (emptyR w6)
          have R7 := (unhide R6).later al
          have N1 : Hid (∀ j u, (((cI L).take ee).map (Value.int .i64))[j]? = some u → (w6.alloc (.cells #[] 3)).cell? ((⟨g, 0, none⟩ : Addr).add j) = some u) := hide (by have := R7.news 0 ee (by rw [lc]; omega); simpa using this)
          have L1 : Hid ((((cI L).take ee).map (Value.int .i64)).length = ee * 1) := hide (by simp [lc]; omega)
          have A7 := hide al
          have ec3 : (ee : Int) ≤ (c3 : Int) := by omega
          have eN2 : (ee : Int) ≤ (N : Int) := by omega
          clear al R7
          go_wp2_with (at_builtin; refine wpList_append_own_at _ rfl (.tmp 48) (.tmp 51) 25 rfl w6.heap.size 3 k0 (.int .i64 0) 1 8 Try.underlying25 hk0 kz0 kz1 kz2 rfl (by decide) _ _ _ rfl (unhide X1).row ⟨g, 0, none⟩ ee _ (((cI L).take ee).map (Value.int .i64)) rfl (unhide L1) (unhide N1) (one_cells _) (by unfold maxLen; simp; omega) (by simp; omega) (by simp) ?_)
          intro v1 w7 own1 gr1 _ _
          have tk : ((cI L).take ee).length = ee := by rw [List.length_take, lc]; omega
          have X2 : Hid (RwI w6.heap.size w7 v1 ((cI L).take ee)) := hide ⟨by rw [tk]; simpa using own1⟩
          have B7 := hide ((unhide A7).grown gr1 (by simp) (fun k hk => by simp [Value.ownBlock] at hk; omega))
          have R7 := hide ((unhide R6).later (unhide B7))
          clear own1 gr1 X1 N1 L1 A7
          obtain ⟨f, hf⟩ : ∃ f, f = ee + 1 := ⟨_, rfl⟩
          have we : IntKind.i64.wrap ((ee : Int) + 1) = (f : Int) := by rw [IntKind.wrap_i64]; omega
          have fN : f ≤ N := by omega
          have fN' : (f : Int) ≤ (N : Int) := by omega
          have fc' : (f : Int) ≤ (c3 : Int) := by omega
          have fc : f ≤ c3 := by omega
          rw [← hf] at ER
          have ED : Hid (((cI L).drop f).take (N - f) = (cI L).drop f) := hide (by rw [List.take_of_length_le (by rw [List.length_drop, lc]; omega)])
          have dk : (((cI L).drop f).take (N - f)).length = N - f := by rw [List.length_take, List.length_drop, lc]; omega
          have L2 : Hid (((((cI L).drop f).take (N - f)).map (Value.int .i64)).length = (N - f) * 1) := hide (by rw [List.length_map, dk]; omega)
          have NL : Hid (ee + (N - f) = N - 1) := hide (by omega)
          have N13 : Hid (3 ≤ N - 1 ∧ N - 1 ≤ 12 ∧ N - 1 < N) := hide (by omega)
          clear hf
          by_cases hcf : c3 = f
          · subst hcf
            have fe : N = c3 := by omega
            subst fe
            have sb : N - N = 0 := Nat.sub_self N
            have si : ((N : Int) - (N : Int)) = 0 := by omega
            go_wp2_with (at_builtin; refine wpList_append_own_at _ rfl (.tmp 53) (.tmp 57) 25 rfl w6.heap.size 3 k0 (.int .i64 0) 1 8 Try.underlying25 hk0 kz0 kz1 kz2 rfl (by decide) _ _ _ rfl (unhide X2).row _ 0 _ [] rfl rfl (fun j u hj => by simp at hj) (fun u hu => by simp at hu) (by unfold maxLen; rw [tk]; omega) (by rw [tk]; omega) (unhide B7).size ?_)
            intro v2 w8 own2 gr2 _ _
            have X3 : Hid (RwI w6.heap.size w8 v2 (cI (L.eraseIdx ee))) := hide (by
              rw [unhide ER]
              refine ⟨?_⟩
              have e1 : (cI L).drop N = [] := List.drop_eq_nil_of_le (by rw [lc]; omega)
              rw [e1, List.append_nil, tk, List.map_take]
              simpa using own2)
            have B8 := hide ((unhide B7).grown gr2 (unhide B7).size (unhide X2).blk)
            have O8 := hide ((unhide O6).later (unhide B8))
            have P8 : Hid (Apt v2 v') := hide (fun k h1 h2 => by
              have := (unhide X3).blk k h1
              have := (unhide O6).lt11 k h2
              omega)
            have LV : Go.Proofs.Ytblhjeepelgdaaa.lenV v2 = N - 1 := by rw [(unhide X3).lenV, cI_len]; exact unhide LE
            have DL : (D ++ [triE L ee]).length ≤ 12 := by
              have := congrArg List.length (unhide E2)
              rw [List.length_append, TL] at this
              omega
            have R8 := hide ((unhide X3).mono (unhide B6).size)
            have B9 := hide (below_on (unhide B6) (unhide B8))
            clear own2 gr2
            go_wp2
            go_roundw
            case rel => exact ⟨N - 1, L.eraseIdx ee, D ++ [triE L ee], (unhide N13).1, (unhide N13).2.1, DL, LE, E2, LX, R8, O8, P8, B9⟩
            case measure => rw [LV]; have := (unhide N13).2.2; simp [lenV]; omega
          · have N2 := hide ((unhide R7).news f (N - f) (by rw [lc]; omega))
            have kc2 : ¬ ((c3 : Int) = (f : Int)) := by omega
            have kc3 : ¬ (c3 - f = 0) := by omega
            go_wp2_with (at_builtin; refine wpList_append_own_at _ rfl (.tmp 53) (.tmp 57) 25 rfl w6.heap.size 3 k0 (.int .i64 0) 1 8 Try.underlying25 hk0 kz0 kz1 kz2 rfl (by decide) _ _ _ rfl (unhide X2).row ⟨g, f, none⟩ (N - f) _ ((((cI L).drop f).take (N - f)).map (Value.int .i64)) rfl (unhide L2) (unhide N2) (one_cells _) (by unfold maxLen; rw [tk]; omega) (by rw [tk]; omega) (unhide B7).size ?_)
            intro v2 w8 own2 gr2 _ _
            have X3 : Hid (RwI w6.heap.size w8 v2 (cI (L.eraseIdx ee))) := hide (by
              rw [unhide ER]
              refine ⟨?_⟩
              have e1 : (List.drop f ((cI L).map (Value.int .i64))).take (N - f) = List.drop f ((cI L).map (Value.int .i64)) := by rw [List.take_of_length_le (by rw [List.length_drop, List.length_map, lc]; omega)]
              have e2 : ((cI L).drop f).length = N - f := by rw [List.length_drop, lc]
              rw [List.map_append, List.length_append, tk, e2, List.map_take, List.map_drop, ← e1]
              exact own2)
            have B8 := hide ((unhide B7).grown gr2 (unhide B7).size (unhide X2).blk)
            have O8 := hide ((unhide O6).later (unhide B8))
            have P8 : Hid (Apt v2 v') := hide (fun k h1 h2 => by
              have := (unhide X3).blk k h1
              have := (unhide O6).lt11 k h2
              omega)
            have LV : Go.Proofs.Ytblhjeepelgdaaa.lenV v2 = N - 1 := by rw [(unhide X3).lenV, cI_len]; exact unhide LE
            have DL : (D ++ [triE L ee]).length ≤ 12 := by
              have := congrArg List.length (unhide E2)
              rw [List.length_append, TL] at this
              omega
            have R8 := hide ((unhide X3).mono (unhide B6).size)
            have B9 := hide (below_on (unhide B6) (unhide B8))
            clear own2 gr2
            go_wp2
            go_roundw
            case rel => exact ⟨N - 1, L.eraseIdx ee, D ++ [triE L ee], (unhide N13).1, (unhide N13).2.1, DL, LE, E2, LX, R8, O8, P8, B9⟩
            case measure => rw [LV]; have := (unhide N13).2.2; simp [lenV]; omega
        · obtain ⟨p, hp⟩ : ∃ p, m = p + 1 := ⟨m - 1, by omega⟩
          have ip : (m : Int) - 1 = (p : Int) := by omega
          rw [ip]
          have wp1 : IntKind.i64.wrap ((p : Int) - 1) = (p : Int) - 1 := by rw [IntKind.wrap_i64]; omega
          have hpN : p < N := by omega
          have K1 := (unhide HSp).later (unhide HW)
          have K2 := (unhide S3).later (Nat.le_refl _) (unhide HW)
          have CC := hide (unhide CE _ _ c3 L t K1 K2 p (by rw [unhide HN]; exact hpN) (unhide HL) (by rw [unhide HN]; omega))
          rw [unhide HN] at CC
          have FY : Hid (earB l L p t = true → (((List.range N).drop p).find? (fun i => earB l L i t)).getD 0 = p) := hide (fun e => find_yes (f := fun i => earB l L i t) hpN e)
          have FN : Hid (earB l L p t = false → (((List.range N).drop p).find? (fun i => earB l L i t)).getD 0 = (((List.range N).drop m).find? (fun i => earB l L i t)).getD 0) := hide (fun e => by rw [find_no (f := fun i => earB l L i t) hpN e, hp])
          clear K1 K2 ip hp
          generalize earB l L p t = b at *
          generalize (((List.range N).drop m).find? (fun i => earB l L i t)).getD 0 = ev at *
          cases b
          · have FE : Hid ((((List.range N).drop p).find? (fun i => earB l L i t)).getD 0 = ev) := hide (unhide FN rfl)
            clear FY FN
            go_wp2_with fail
            refine (unhide CC).mono ?_
            rintro e w5 ⟨rfl, hb⟩
            replace HW := hide (below_on (unhide HW) hb)
            clear hb
            go_wp2
            go_roundw
            case rel => exact ⟨p, by omega, by go_num, by rw [unhide FE], HW⟩
            case measure => (try simp [intOf]); (try omega)
          · have FE : Hid ((((List.range N).drop p).find? (fun i => earB l L i t)).getD 0 = p) := hide (unhide FY rfl)
            clear FY FN
            go_wp2_with fail
            refine (unhide CC).mono ?_
            rintro e w5 ⟨rfl, hb⟩
            replace HW := hide (below_on (unhide HW) hb)
            clear hb
            go_wp2
            go_roundw
            case rel => exact ⟨p, by omega, by go_num, by rw [unhide FE], HW⟩
            case measure => (try simp [intOf]); (try omega)
    · obtain rfl : N = 3 := by omega
      have cx := (unhide HR).at11 (i := 0) (by rw [lc]; omega)
      have cy := (unhide HR).at11 (i := 1) (by rw [lc]; omega)
      have cz := (unhide HR).at11 (i := 2) (by rw [lc]; omega)
      rw [cI_at] at cx cy cz
      have ET : Hid (D ++ [((L.getD 0 0 : Int), (L.getD 1 0 : Int), (L.getD 2 0 : Int))] = T) := hide (unhide HE)
      generalize L.getD 0 0 = x at *
      generalize L.getD 1 0 = y at *
      generalize L.getD 2 0 = z at *
      have HOd := hide ((unhide HO).later (Below.refl wp.heap.size wp).drew)
      have HBd := hide (unhide HB).drew
      have SZd : w.heap.size ≤ wp.drew.heap.size := (unhide HB).size
      clear HE HN HL HR HO HP S3 HSp HS HQ CE ST HS0
      go_upto_region 15 with fail
      go_region_law (first
        | (refine step_app11 rfl (.tmp 59) (.tmp 70) 29 rfl w.heap.size 33 i0 (.agg #[.int .i64 0, .int .i64 0, .int .i64 0]) 3 24 Try.underlying29 hi0 hz0 hz1 hz2 rfl (by decide) u5 D.length (flatT D) (by simp [Act.eval, Act.put]) ((unhide HOd).row.alloc _) ⟨wp.heap.size, 0, none⟩ 1 1 [.int .i64 (x : Int), .int .i64 (y : Int), .int .i64 (z : Int)] (by simp [Act.eval, Act.put]) rfl (new_cellT _ _ _ _) (fun u hu => by simp at hu; rcases hu with rfl | rfl | rfl <;> rfl) (by unfold maxLen; omega) (by omega) (by simp; omega) (fun v6 w6 own6 gr6 => ?_); have R6 := hide (RwT.snoc (t := ((x : Int), (y : Int), (z : Int))) own6); have HB6 := hide (owns_belowR (unhide HBd) SZd (unhide HOd).row gr6); clear own6 gr6))
      all_goals go_wp2
      all_goals go_ret
      all_goals exact ⟨_, rfl, unhide HB6, by rw [← unhide ET]; exact unhide R6⟩
end Go.Proofs.Ytblhjeepelgdaaa
namespace Go.Proofs.Ytblhjeepelgdaaa
open Go.RowKit Go.ChangeMaps
set_option linter.unusedVariables false
set_option maxRecDepth 100000
set_option linter.unusedSimpArgs false

theorem madeT (w : World) (n : Nat) (hm : n ≤ maxLen) : (w.alloc (.cells (madeCells #[.int .i64 0, .int .i64 0, .int .i64 0] (n * 3)) 33)).ownsRow w.heap.size 33 3 (.slice (some ⟨w.heap.size, 0, none⟩) 0 n) 0 (flatT []) := by
  refine ⟨rfl, .inr ⟨w.heap.size, n, madeCells #[.int .i64 0, .int .i64 0, .int .i64 0] (n * 3), rfl, Nat.le_refl _, ?_, by omega, hm, by simp [size_madeCells], by simp [flatT]⟩⟩
  show (w.heap.push _)[w.heap.size]? = _
  simp
/-- The first ear, where there is one. -/
theorem ear_first {l : List (Int × Int)} {L : List Nat} {t : Int} (G : GoodL l L t) (n4 : 4 ≤ L.length) : earB l L (fstE l L t) t = true ∧ ∃ R, earT l L t = triE L (fstE l L t) :: R := by
  obtain ⟨i, _, hi, _, _, he, _⟩ := ear_two G n4
  have hf : ((List.range L.length).find? (fun i => earB l L i t)).isSome := by
    rw [List.find?_isSome]
    exact ⟨i, List.mem_range.2 hi, he⟩
  obtain ⟨x, hx⟩ := Option.isSome_iff_exists.1 hf
  have ex : fstE l L t = x := by unfold fstE; rw [hx]; rfl
  refine ⟨by rw [ex]; exact List.find?_some (p := fun i => earB l L i t) hx, ?_⟩
  have hh : ((List.range L.length).filter (fun i => earB l L i t)).head? = some x := by rw [List.head?_filter]; exact hx
  obtain ⟨R, hR⟩ : ∃ R, (List.range L.length).filter (fun i => earB l L i t) = x :: R := by
    cases e : (List.range L.length).filter (fun i => earB l L i t) with
    | nil => rw [e] at hh; cases hh
    | cons a R => rw [e] at hh; simp at hh; exact ⟨R, by rw [hh]⟩
  exact ⟨R.map (triE L), by unfold earT earL; rw [hR, ex]; rfl⟩
theorem MpC.grown {w w' : World} {B : Nat} {l : List (Int × Int)} {L : List Nat} {clock : Nat} {r : Option Nat} (h : MpC w B l L clock) (hg : w.grownBy w' r) (hne : some B ≠ r) : MpC w' B l L clock :=
  ⟨(hg.block B h.lt hne).trans h.at_, Nat.lt_of_lt_of_le h.lt hg.size, h.up, h.clk, h.top, h.n12, h.near⟩
theorem up_inj {L : List Nat} (h : L.Pairwise (· < ·)) {i j : Nat} {x : Nat} (hi : L[i]? = some x) (hj : L[j]? = some x) : i = j := by
  have li := (List.getElem?_eq_some_iff.1 hi).1
  have lj := (List.getElem?_eq_some_iff.1 hj).1
  have ei := (List.getElem?_eq_some_iff.1 hi).2
  have ej := (List.getElem?_eq_some_iff.1 hj).2
  rcases Nat.lt_trichotomy i j with k | k | k
  · have := List.pairwise_iff_getElem.1 h i j li lj k; omega
  · exact k
  · have := List.pairwise_iff_getElem.1 h j i lj li k; omega
/-- One corner struck out. -/
theorem MpC.del {w : World} {B : Nat} {l : List (Int × Int)} {L : List Nat} {clock : Nat} (h : MpC w B l L clock) {i : Nat} (hi : i < L.length) :
    ∃ w', (∀ ty, (Builtin.delete_ #[81, 3] ty #[.map (some B), .int .i64 ((L.getD i 0 : Nat) : Int)]).run Try.prog w = .ok (.tuple #[]) w') ∧ MpC w' B l (L.eraseIdx i) clock ∧ But B (B + 1) w w' := by
  have hk := mem_at hi
  obtain ⟨j, hj, hrun⟩ := del11 h.at_ (fun k hk => by have := h.top k hk; have := h.n12; omega) hk
  have e : i = j := up_inj h.up (by rw [List.getD_eq_getElem?_getD, List.getElem?_eq_getElem hi]; rfl) hj
  subst e
  refine ⟨_, hrun, ⟨set_at11 h.at_ _, by simp [setBlock]; exact h.lt, h.up.sublist (List.eraseIdx_sublist _ _), fun k hk => h.clk k (List.mem_of_mem_eraseIdx hk), fun k hk => h.top k (List.mem_of_mem_eraseIdx hk), h.n12, h.near⟩, set_but11 _⟩
theorem owns_but {B k lo hi : Nat} {t : TypeId} {w w' : World} {v : Value} {n : Nat} {xs : List Value} (h : w.ownsRow B t k v n xs) (hb : But lo hi w w') (hne : ∀ j, v.ownBlock = some j → j < lo ∨ hi ≤ j) : w'.ownsRow B t k v n xs := by
  refine ⟨h.1, ?_⟩
  rcases h.2 with h' | ⟨g', cap, cur, hv, h1, hg', rr⟩
  · exact .inl h'
  · refine .inr ⟨g', cap, cur, hv, h1, ?_, rr⟩
    rw [hb.block g' (Array.getElem?_eq_some_iff.1 hg').1 (hne g' (by rw [hv]; rfl))]
    exact hg'
set_option maxHeartbeats 16000000 in
theorem cutI (a : Option Addr) (n c : Nat) (l : List (Int × Int)) (w : World) (h : SlP w a l) (hn : l.length = n) (hp : ipB l = true) :
    Calls Try.prog 52 #[.slice a n c] w fun e w' => ∃ v, e = .returned v ∧ Below w.heap.size w w' ∧ RwT w.heap.size w' v (cutL l (sgZ (arS l l.length)) (n - 3) (List.range n)) := by
  obtain ⟨i0, hi0, hz0, hz1, hz2⟩ := info_parts infoTri
  have wp := way_parts (ip_parts hp).1
  have tn := ip_turn hp
  have G0 : Hid (GoodL l (List.range n) (sgZ (arS l l.length))) := hide (by rw [← hn]; exact goodL_of wp.1.1 (ip_parts hp).2)
  have n12 : n ≤ 12 := by omega
  have n3 : 3 ≤ n := by omega
  have CL := hide (fun w (k : SlP w a l) => leftI a n c l w k hn (by omega) n12)
  have CT := hide (fun w (k : SlP w a l) => turnWI a n c l w k hn (by omega) n12 wp.2 tn.1)
  have CM := hide (fun (w : World) (B : Nat) (k : w.heap[B]? = some (Obj.map (mpL l (List.range n)).toArray n)) => mpC_of (w := w) (w' := w) k hn n12 wp.2)
  have TZ : Hid (sgZ (arS l l.length) ≠ 0) := hide (by rcases tn.2 with e | e <;> rw [e] <;> decide)
  have HS := hide h
  generalize sgZ (arS l l.length) = t at *
  obtain ⟨T, hT⟩ : ∃ T, T = cutL l t (n - 3) (List.range n) := ⟨_, rfl⟩
  have TL : T.length = n - 2 := by rw [hT, cutL_len]; omega
  rw [← hT]
  have ET := hide hT.symm
  clear h hn hp wp tn hT
  have w2n : IntKind.i64.wrap ((n : Int) - 2) = ((n - 2 : Nat) : Int) := by rw [IntKind.wrap_i64]; omega
  obtain ⟨M, hM⟩ : ∃ M, M = n - 2 := ⟨_, rfl⟩
  rw [← hM] at w2n
  have hMn : M ≤ 10 := by omega
  have MH := hide hM
  have TL2 := hide TL
  clear hM TL
  have hmk : ∀ w, (Instr.makeSlice 29 (.int .i64 0) (.int .i64 (M : Int))).run Try.prog w = .ok (.slice (some ⟨w.heap.size, 0, none⟩) 0 M) (w.alloc (.cells (madeCells #[.int .i64 0, .int .i64 0, .int .i64 0] (M * 3)) 33)) := by
    intro w
    have := run_make (P := Try.prog) w 29 33 i0 (.agg #[.int .i64 0, .int .i64 0, .int .i64 0]) Try.underlying29 hi0 hz0 .i64 .i64 0 (M : Int) (by omega) (by omega) (by rw [hz2]; omega) (by omega)
    rw [this, hz1]
    simp [Value.cells]
  go_enter Try.func52, Try.ntmps52
  go_wp2_with fail
  refine (unhide CT _ (unhide HS)).mono ?_
  rintro e w1 ⟨rfl, hb⟩
  replace HS := hide ((unhide HS).later hb)
  have HB := hide hb
  have HB0 := hide hb
  clear hb CT
  go_wp2_with fail
  refine (unhide CL _ (unhide HS)).mono ?_
  rintro e w2 ⟨rfl, m2, hb⟩
  have M2 := hide (unhide CM w2 _ m2)
  replace HB := hide (below_on (unhide HB) hb)
  have bl2 : w1.heap.size < w2.heap.size := (unhide M2).lt
  have wb1 : w.heap.size ≤ w1.heap.size := (unhide HB0).size
  clear hb m2 CL CM HS HB0
  have O3 := hide (madeT w2 M (by unfold maxLen; omega))
  have al : Below w2.heap.size w2 (w2.alloc (.cells (madeCells #[.int .i64 0, .int .i64 0, .int .i64 0] (M * 3)) 33)) := (Below.refl _ _).alloc (Nat.le_refl _) _
  replace M2 := hide ((unhide M2).later al)
  replace HB := hide (below_on (unhide HB) al)
  clear al
  go_wp2_with fail
  generalize hw3 : w2.alloc (.cells (madeCells #[.int .i64 0, .int .i64 0, .int .i64 0] (M * 3)) 33) = w3 at *
  clear hw3
  generalize w2.heap.size = G at *
  generalize w1.heap.size = BM at *
  have R3 : Hid (RwT w.heap.size w3 (.slice (some ⟨G, 0, none⟩) 0 M) []) := hide ⟨owns_mono (unhide O3) (by omega)⟩
  clear O3
  go_loopw [5] (fun v5 wr => ∃ (N : Nat) (L : List Nat) (D : List (Int × Int × Int)), 3 ≤ N ∧ N ≤ 12 ∧ D.length + N = n ∧ v5 = .slice (some ⟨G, 0, none⟩) D.length M ∧ Hid (L.length = N) ∧ Hid (D ++ cutL l t (N - 3) L = T) ∧ Hid (GoodL l L t) ∧ Hid (MpC wr BM l L n) ∧ Hid (RwT w.heap.size wr (.slice (some ⟨G, 0, none⟩) D.length M) D) ∧ Hid (Below w.heap.size w wr)) (fun v5 _ => n - lenV v5)
  case atStart => exact ⟨n, List.range n, [], n3, n12, by simp, rfl, hide (by simp), hide (by rw [List.nil_append]; exact unhide ET), G0, M2, R3, HB⟩
  case round =>
    clear M2 HB R3 G0 ET
    obtain ⟨N, L, D, N3, N12, DN, rfl, HN, HE, HG, HM, HR, HB⟩ := hrel
    have len : ∀ ty, (Builtin.len_ #[81] ty #[.map (some BM)]).run Try.prog wr = .ok (.int .i64 (N : Int)) wr := fun ty => by
      have := lenM11 (ty := ty) (unhide HM).at_
      simpa [mpL, unhide HN] using this
    by_cases h4 : 3 < N
    · have h4' : (3 : Int) < (N : Int) := by omega
      have d4 : decide (3 < N) = true := decide_eq_true h4
      obtain ⟨eb, R, hR⟩ := ear_first (unhide HG) (by rw [unhide HN]; omega)
      have eN := fstE_lt (l := l) (L := L) (t := t) (by rw [unhide HN]; omega)
      have G2 := hide (ear_cut (unhide HG) (by rw [unhide HN]; omega) eN eb)
      have LE : Hid ((L.eraseIdx (fstE l L t)).length = N - 1) := hide (by rw [List.length_eraseIdx, if_pos eN, unhide HN])
      have E2 : Hid (D ++ [triE L (fstE l L t)] ++ cutL l t (N - 1 - 3) (L.eraseIdx (fstE l L t)) = T) := hide (by
        have := unhide HE
        rw [show N - 3 = N - 1 - 3 + 1 by omega, cutL] at this
        rw [List.append_assoc]
        exact this)
      have CE := hide (earsI BM n l L t wr (unhide HM) (by rw [unhide HN]; omega) (unhide TZ))
      rw [hR] at CE
      have TE : triE L (fstE l L t) = ((bef L (fstE l L t) : Int), (L.getD (fstE l L t) 0 : Int), (aft L (fstE l L t) : Int)) := rfl
      have TEH := hide TE
      rw [TE] at CE
      clear eb hR HE HG HN TE
      have DEL := hide (fun w' (k : MpC w' BM l L n) => k.del eN)
      clear eN
      generalize fstE l L t = ee at *
      generalize bef L ee = x at *
      generalize L.getD ee 0 = y at *
      generalize aft L ee = z at *
      go_wp2_with fail
      refine (unhide CE).mono ?_
      rintro e w5 ⟨v21, rfl, hb, rt⟩
      obtain ⟨g2, c2, rfl, hgl, cx, cy, cz⟩ : ∃ g2 c2, v21 = .slice (some ⟨g2, 0, none⟩) (R.length + 1) c2 ∧ g2 < w5.heap.size ∧ w5.cell? ⟨g2, 0, none⟩ = some (.int .i64 (x : Int)) ∧ w5.cell? ⟨g2, 1, none⟩ = some (.int .i64 (y : Int)) ∧ w5.cell? ⟨g2, 2, none⟩ = some (.int .i64 (z : Int)) := by
        rcases rt.open with ⟨_, e⟩ | ⟨g2, c2, e, _, h2, _, _, h6⟩
        · cases e
        · have := h6 0 (by simp)
          exact ⟨g2, c2, e, h2, by simpa using this.1, by simpa using this.2.1, by simpa using this.2.2⟩
      replace HM := hide ((unhide HM).later hb)
      replace HR := hide ((unhide HR).later hb)
      replace HB := hide (below_on (unhide HB) hb)
      clear hb rt CE len
      have rp : (0 : Int) < ((R.length + 1 : Nat) : Int) := by omega
      have G5 : Hid (G < w5.heap.size) := hide ((unhide HR).lt11 G rfl)
      have BG : Hid (BM ≠ G) := hide (by omega)
      have al : Below w5.heap.size w5 (w5.alloc (.cells #[.int .i64 (x : Int), .int .i64 (y : Int), .int .i64 (z : Int)] 33)) := (Below.refl _ _).alloc (Nat.le_refl _) _
      have t0 : (w5.alloc (.cells #[.int .i64 (x : Int), .int .i64 (y : Int), .int .i64 (z : Int)] 33)).cell? ⟨w5.heap.size, 0, none⟩ = some (.int .i64 (x : Int)) := by simp [go_sem]
      have t1 : (w5.alloc (.cells #[.int .i64 (x : Int), .int .i64 (y : Int), .int .i64 (z : Int)] 33)).cell? ⟨w5.heap.size, 1, none⟩ = some (.int .i64 (y : Int)) := by simp [go_sem]
      have t2 : (w5.alloc (.cells #[.int .i64 (x : Int), .int .i64 (y : Int), .int .i64 (z : Int)] 33)).cell? ⟨w5.heap.size, 2, none⟩ = some (.int .i64 (z : Int)) := by simp [go_sem]
      replace HM := hide ((unhide HM).later al)
      replace HR := hide ((unhide HR).later al)
      replace HB := hide (below_on (unhide HB) al)
      clear al
      go_upto_region 5 with fail
      have pl : w5.heap.size < (w5.alloc (.cells #[.int .i64 (x : Int), .int .i64 (y : Int), .int .i64 (z : Int)] 33)).heap.size := by simp
      generalize w5.alloc (.cells #[.int .i64 (x : Int), .int .i64 (y : Int), .int .i64 (z : Int)] 33) = wA at *
      generalize w5.heap.size = PB at *
      clear cx cy cz
      have DM : D.length + 1 ≤ M := by have := unhide MH; omega
      go_wp2_with (at_builtin; refine wpList_append_fits_any _ rfl (.tmp 24) (.tmp 26) 29 rfl w.heap.size 33 i0 3 Try.underlying29 hi0 hz1 G D.length M _ rfl ((unhide HR).row.alloc _) (some ⟨_, 0, none⟩) 1 1 [.int .i64 (x : Int), .int .i64 (y : Int), .int .i64 (z : Int)] rfl rfl (by intro e; cases e) (by intro ad e j u hj; cases e; exact new_cellT _ _ _ _ j u hj) (fun u hu => by simp at hu; rcases hu with rfl | rfl | rfl <;> rfl) DM ?_)
      intro w6 hown hgr
      have R6 : RwT w.heap.size w6 (.slice (some ⟨G, 0, none⟩) (D.length + 1) M) (D ++ [triE L ee]) := by rw [unhide TEH]; exact RwT.snoc hown
      have aA : Below wA.heap.size wA (wA.alloc (.cells #[.int .i64 (x : Int), .int .i64 (y : Int), .int .i64 (z : Int)] 33)) := (Below.refl _ _).alloc (Nat.le_refl _) _
      have M6 := ((unhide HM).later aA).grown hgr (by have := unhide BG; simpa using this)
      have B6 := (below_on (unhide HB) aA).grown hgr (Nat.le_trans (unhide HB).size aA.size) (fun j hj => by simp at hj; omega)
      have s1 := hgr.cell ((aA.cell (p := ⟨PB, 1, none⟩) pl).trans t1) (by have := unhide G5; simp; omega)
      obtain ⟨w7, hdel, M7, bt7⟩ := unhide DEL w6 M6
      have R7 : Hid (RwT w.heap.size w7 (.slice (some ⟨G, 0, none⟩) (D.length + 1) M) (D ++ [triE L ee])) := hide ⟨owns_but R6.row bt7 (fun j hj => by simp [Value.ownBlock] at hj; have := unhide BG; omega)⟩
      have B7 := hide (bt7.below B6 wb1 B6.size)
      have M7' := hide M7
      have sl := (D ++ [triE L ee]).length
      have DL : (D ++ [triE L ee]).length = D.length + 1 := by simp
      have NN : Hid (3 ≤ N - 1 ∧ N - 1 ≤ 12 ∧ (D ++ [triE L ee]).length + (N - 1) = n) := hide (by rw [DL]; omega)
      clear R6 aA M6 B6 M7 bt7 hown hgr HM HR HB t0 t1 t2 sl
      go_wp2
      go_roundw
      case rel => exact ⟨N - 1, L.eraseIdx ee, D ++ [triE L ee], (unhide NN).1, (unhide NN).2.1, (unhide NN).2.2, by rw [DL], LE, E2, G2, M7', by rw [DL]; exact R7, B7⟩
      case measure => simp [lenV]; omega
    · obtain rfl : N = 3 := by omega
      have C7 := hide (orderI BM n l L wr (unhide HM).at_ (unhide HM).up (unhide HM).clk (by rw [unhide HN]; omega) (by rw [unhide HN]; omega))
      have lc : (cI L).length = 3 := by rw [cI_len]; exact unhide HN
      have ET : Hid (D ++ [((L.getD 0 0 : Int), (L.getD 1 0 : Int), (L.getD 2 0 : Int))] = T) := hide (unhide HE)
      clear HE HG HM HN
      go_wp2_with fail
      refine (unhide C7).mono ?_
      rintro e w5 ⟨v7, rfl, hb, rw7⟩
      obtain ⟨g, c7, rfl, cx, cy, cz⟩ : ∃ g c7, v7 = .slice (some ⟨g, 0, none⟩) 3 c7 ∧ w5.cell? ⟨g, 0, none⟩ = some (.int .i64 (L.getD 0 0 : Int)) ∧ w5.cell? ⟨g, 1, none⟩ = some (.int .i64 (L.getD 1 0 : Int)) ∧ w5.cell? ⟨g, 2, none⟩ = some (.int .i64 (L.getD 2 0 : Int)) := by
        rcases rw7.open with ⟨_, e⟩ | ⟨g, c7, e, _⟩
        · rw [e] at lc; simp at lc
        · rw [lc] at e
          rw [e] at rw7
          have h0 := rw7.at11 (i := 0) (by rw [lc]; omega)
          have h1 := rw7.at11 (i := 1) (by rw [lc]; omega)
          have h2 := rw7.at11 (i := 2) (by rw [lc]; omega)
          rw [cI_at] at h0 h1 h2
          exact ⟨g, c7, e, h0, h1, h2⟩
      generalize L.getD 0 0 = x at *
      generalize L.getD 1 0 = y at *
      generalize L.getD 2 0 = z at *
      have HOd := hide (((unhide HR).later hb).later (Below.refl w5.heap.size w5).drew)
      have HBd := hide (below_on (unhide HB) hb).drew
      have SZd : w.heap.size ≤ w5.drew.heap.size := (below_on (unhide HB) hb).size
      have SZ5 : w.heap.size ≤ w5.heap.size := (below_on (unhide HB) hb).size
      have hD12 : D.length ≤ 12 := by omega
      clear HR HB hb rw7 C7 len
      go_upto_region 8 with fail
      go_region_law (first
        | (refine step_app11 rfl (.tmp 33) (.tmp 44) 29 rfl w.heap.size 33 i0 (.agg #[.int .i64 0, .int .i64 0, .int .i64 0]) 3 24 Try.underlying29 hi0 hz0 hz1 hz2 rfl (by decide) (.slice (some ⟨G, 0, none⟩) D.length M) D.length (flatT D) (by simp [Act.eval, Act.put]) ((unhide HOd).row.alloc _) ⟨w5.heap.size, 0, none⟩ 1 1 [.int .i64 (x : Int), .int .i64 (y : Int), .int .i64 (z : Int)] (by simp [Act.eval, Act.put]) rfl (new_cellT _ _ _ _) (fun u hu => by simp at hu; rcases hu with rfl | rfl | rfl <;> rfl) (by unfold maxLen; omega) (by omega) (by simp; omega) (fun v6 w6 own6 gr6 => ?_); have R6 := hide (RwT.snoc (t := ((x : Int), (y : Int), (z : Int))) own6); have HB6 := hide (owns_belowR (unhide HBd) SZd (unhide HOd).row gr6); clear own6 gr6))
      all_goals go_wp2
      all_goals go_ret
      all_goals exact ⟨_, rfl, unhide HB6, by rw [← unhide ET]; exact unhide R6⟩
end Go.Proofs.Ytblhjeepelgdaaa
