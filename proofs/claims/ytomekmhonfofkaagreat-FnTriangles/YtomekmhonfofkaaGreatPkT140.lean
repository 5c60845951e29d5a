/- Ways with corners in fractions: how often they go round a point; triangles; outermost corners: plain mathematics. No condition beyond those typed. -/
import Derived.Test.YtomekmhonfofkaaGreatLf11
import Derived.Maps.RangeWalk
import Derived.OwnWalk
import Derived.Laws.MakeOwn
import Derived.Test.YtomekmhonfofkaaGreatSp11
import Derived.Test.YtomekmhonfofkaaGreatIm8
import Derived.Test.YtomekmhonfofkaaGreatTrH
import Derived.Test.YtomekmhonfofkaaGreatEa11
import Derived.Test.YtomekmhonfofkaaGreatGs11
import Derived.Test.YtomekmhonfofkaaGreatRt11
import Derived.BigRegion
import Derived.Maps.AppendAt
import Derived.Deep.RegionLaw
import Derived.Test.YtomekmhonfofkaaGreatAid
namespace Go.Proofs.YtomekmhonfofkaaGreat
open Go.RowKit Go.ChangeMaps
set_option linter.unusedVariables false
set_option maxRecDepth 100000
set_option linter.unusedSimpArgs false

/-- The same world, or with one draw more. -/
def Drawn (w w1 : World) : Prop := w1 = w ∨ w1 = w.drew
def LeftE (es : Array MapEntry) (seen : Array Nat) (e : MapEntry) : Prop := e ∈ (leftOf es seen).toList
def NoneE (es : Array MapEntry) (seen : Array Nat) : Prop := (leftOf es seen).size = 0
theorem wpList_next11 {P : Program} (w : World) {ops : Array Oper} {rest : List Oper} {o : Oper} {a : Act} {Q : Exit → Act → World → Prop} (hg : o.guard = none) (it : Operand) (hop : o.op = Op.next it false) (r bm since c0 : Nat) (seen : Array Nat) (es : Array MapEntry) (clock : Nat)
    (hit : a.eval it = .pointer (some ⟨r, 0, none⟩)) (hr : w.heap[r]? = some (.mapIter (some bm) since seen c0)) (hb : w.heap[bm]? = some (.map es clock)) (hold : ∀ x ∈ es.toList, x.born < since) (hsc : since ≤ c0)
    (hDone : NoneE es seen → wpList P ops Q rest (a.put o.dst (.tuple #[.bool false])) w)
    (hMore : ∀ e, LeftE es seen e → ∀ w1 : World, Drawn w w1 → wpList P ops Q rest (a.put o.dst (.tuple #[.bool true, e.key, e.val])) (setBlock w1 r (.mapIter (some bm) since (seen.push e.born) clock))) :
    wpList P ops Q (o :: rest) a w := by
  refine wpList_plain hg fun K' hK' => ?_
  unfold Oper.wp
  rcases run_next_at (P := P) w o.type r bm since c0 seen es clock hr hb hold hsc with ⟨h0, hrun⟩ | ⟨e, he, w1, hw1, hrun⟩
  · simp [execOp, hop, hit, hrun, Result.andThen]
    exact hK' _ _ (hDone h0)
  · simp [execOp, hop, hit, hrun, Result.andThen]
    exact hK' _ _ (hMore e he w1 hw1)
theorem made0 (w : World) (n : Nat) (hm : n ≤ maxLen) : (w.alloc (.cells (madeCells #[.int .i64 0] n) 3)).ownsRow w.heap.size 3 1 (.slice (some ⟨w.heap.size, 0, none⟩) 0 n) 0 ((cI []).map (Value.int .i64)) := by
  refine ⟨by simp [cI], .inr ⟨w.heap.size, n, madeCells #[.int .i64 0] n, rfl, Nat.le_refl _, ?_, by omega, hm, by simp [size_madeCells], by simp [cI]⟩⟩
  show (w.heap.push _)[w.heap.size]? = _
  simp
theorem lenM11 {w : World} {B clock : Nat} {es : Array MapEntry} {ty : TypeId} (hb : w.heap[B]? = some (.map es clock)) : (Builtin.len_ #[50] ty #[.map (some B)]).run Tryz.prog w = .ok (.int .i64 es.size) w := by
  simp [Builtin.len_, run_underlying Tryz.underlying50, MapKept.run_getObj_map hb, goInt]
theorem cI_snoc (M : List Nat) (k : Nat) : cI (M ++ [k]) = cI M ++ [(k : Int)] := by simp [cI]
/-- What rises and has these members is this list. -/
theorem srt_eq {L M : List Nat} {L' : List Int} (hL : L.Pairwise (· < ·)) (hM : M.Nodup) (hs : ∀ k, k ∈ M ↔ k ∈ L) (hp : L'.Perm (cI M)) (hr : Srt L' L'.length) : L' = cI L := by
  have nd : L.Nodup := hL.imp (fun h => by omega)
  have p1 : M.Perm L := (List.perm_ext_iff_of_nodup hM nd).2 hs
  have p2 : L'.Perm (cI L) := hp.trans (p1.map _)
  refine List.Perm.eq_of_pairwise (le := (· ≤ ·)) (fun a b _ _ h1 h2 => by omega) ?_ ?_ p2
  · refine List.pairwise_iff_getElem.2 (fun i j hi hj hij => ?_)
    have := hr i j hij hj
    rw [List.getD_eq_getElem?_getD, List.getD_eq_getElem?_getD, List.getElem?_eq_getElem hi, List.getElem?_eq_getElem hj] at this
    exact this
  · unfold cI
    exact List.pairwise_map.2 (hL.imp (fun h => by omega))
theorem subl11 {M L : List Nat} (hM : M.Nodup) (hL : L.Nodup) (hs : ∀ k ∈ M, k ∈ L) : M.length ≤ L.length := by
  have p : M.Perm (L.filter (fun k => decide (k ∈ M))) := (List.perm_ext_iff_of_nodup hM (hL.filter _)).2 (fun k => by simp; exact fun h => hs k h)
  rw [p.length_eq]
  exact List.length_filter_le _ _
theorem left_e {l : List (Int × Int)} {L M : List Nat} {e : MapEntry} (h : LeftE (mpL l L).toArray M.toArray e) : ∃ k ∈ L, k ∉ M ∧ e = ⟨.int .i64 (k : Int), ptV (l.getD k (0, 0)), k⟩ := by
  unfold LeftE leftOf at h
  simp at h
  obtain ⟨k, hk, rfl⟩ := List.mem_map.1 h.1
  exact ⟨k, hk, h.2, rfl⟩
theorem Drawn.heap {w w1 : World} (h : Drawn w w1) : w1.heap = w.heap := by rcases h with rfl | rfl <;> rfl
theorem Drawn.below {w w1 : World} {B : Nat} {a : World} (h : Drawn w w1) (hb : Below B a w) : Below B a w1 := by
  rcases h with rfl | rfl
  · exact hb
  · exact hb.drew
def lenV : Value → Nat
  | .slice _ n _ => n
  | _ => 0
set_option maxHeartbeats 8000000 in
theorem orderI (B clock : Nat) (l : List (Int × Int)) (L : List Nat) (w : World) (hm : w.heap[B]? = some (.map (mpL l L).toArray clock)) (hL : L.Pairwise (· < ·)) (hc : ∀ k ∈ L, k < clock) (h1 : 1 ≤ L.length) (h12 : L.length ≤ 12) :
    Calls Tryz.prog 49 #[.map (some B)] w fun e w' => ∃ v, e = .returned v ∧ Below w.heap.size w w' ∧ RwI w.heap.size w' v (cI L) := by
  obtain ⟨i0, hi, hz0, hz1, hz2⟩ := info_parts Tryz.info3
  obtain ⟨n, hn⟩ : ∃ n, n = L.length := ⟨_, rfl⟩
  have hBl := (Array.getElem?_eq_some_iff.1 hm).1
  have hlen : ∀ ty, (Builtin.len_ #[50] ty #[.map (some B)]).run Tryz.prog w = .ok (.int .i64 (n : Int)) w := fun ty => by
    have := lenM11 (ty := ty) hm
    simpa [mpL, hn] using this
  have hmk : (Instr.makeSlice 28 (.int .i64 0) (.int .i64 (n : Int))).run Tryz.prog w = .ok (.slice (some ⟨w.heap.size, 0, none⟩) 0 n) (w.alloc (.cells (madeCells #[.int .i64 0] n) 3)) := by
    have := run_make (P := Tryz.prog) w 28 3 i0 (.int .i64 0) Tryz.underlying28 hi hz0 .i64 .i64 0 (n : Int) (by omega) (by omega) (by rw [hz2]; omega) (by omega)
    rw [this, hz1]
    simp [Value.cells]
  have OW := hide (made0 w n (by unfold maxLen; omega))
  have hm1 : (w.alloc (.cells (madeCells #[.int .i64 0] n) 3)).heap[B]? = some (.map (mpL l L).toArray clock) := (((Below.refl w.heap.size w).alloc (Nat.le_refl _) _).block _ hBl).trans hm
  have HB1 := hide ((Below.refl w.heap.size w).alloc (Nat.le_refl _) (.cells (madeCells #[.int .i64 0] n) 3))
  obtain ⟨w1, hw1⟩ : ∃ w1, w1 = w.alloc (.cells (madeCells #[.int .i64 0] n) 3) := ⟨_, rfl⟩
  have sz1 : w1.heap.size = w.heap.size + 1 := by rw [hw1]; simp
  rw [← hw1] at hmk OW hm1 HB1
  have hrg := run_range_map (P := Tryz.prog) w1 50 _ _ B (mpL l L).toArray clock Tryz.underlying50 hm1
  obtain ⟨w2, hw2⟩ : ∃ w2, w2 = w1.alloc (.mapIter (some B) clock #[] clock) := ⟨_, rfl⟩
  obtain ⟨r, hr⟩ : ∃ r, r = w1.heap.size := ⟨_, rfl⟩
  have it2 : w2.heap[r]? = some (.mapIter (some B) clock #[] clock) := by
    rw [hw2, hr]
    show (w1.heap.push _)[w1.heap.size]? = _
    simp
  have bl2 : Below w1.heap.size w1 w2 := by rw [hw2]; exact (Below.refl _ _).alloc (Nat.le_refl _) _
  rw [← hw2, ← hr] at hrg
  have HI2 := hide it2
  have HB2 := hide (below_on (unhide HB1) bl2)
  have HO2 : Hid (RwI w.heap.size w2 (.slice (some ⟨w.heap.size, 0, none⟩) 0 n) (cI [])) := hide ⟨owns_laterR (unhide OW) bl2⟩
  have RL : Hid (r = w.heap.size + 1) := hide (by omega)
  clear hw2 hr bl2 hw1 hm1 OW HB1 it2
  have KX : Hid (∀ k ∈ L, k < clock) := hide hc
  have PL := hide hL
  have HM := hide hm
  have LL : Hid (L.length = n) := hide hn.symm
  clear hc hL hm sz1
  have h1' : 1 ≤ n := by omega
  have h12' : n ≤ 12 := by omega
  clear h1 h12 hn
  go_enter Tryz.func49, Tryz.ntmps49
  go_wp2
  go_loopw [3] (fun v wr => ∃ M : List Nat, Hid (M.Nodup) ∧ Hid (∀ k ∈ M, k ∈ L) ∧ v = .slice (some ⟨w.heap.size, 0, none⟩) M.length n ∧ Hid (RwI w.heap.size wr (.slice (some ⟨w.heap.size, 0, none⟩) M.length n) (cI M)) ∧ Hid (wr.heap[r]? = some (.mapIter (some B) clock M.toArray clock)) ∧ Hid (Below w.heap.size w wr)) (fun v _ => n - lenV v)
  case atStart => exact ⟨[], hide List.nodup_nil, hide (fun k hk => by simp at hk), rfl, HO2, HI2, HB2⟩
  case round =>
    obtain ⟨M, MN, ML, rfl, HR, HI, HB⟩ := hrel
    have hmr : wr.heap[B]? = some (.map (mpL l L).toArray clock) := ((unhide HB).block _ hBl).trans (unhide HM)
    have hml := (unhide HR).len11
    go_wp2_with (at_next; refine wpList_next11 _ rfl (.tmp 9) rfl r B clock clock M.toArray (mpL l L).toArray clock rfl (unhide HI) hmr (fun x hx => by obtain ⟨k, hk, rfl⟩ := List.mem_map.1 (show x ∈ mpL l L by simpa using hx); exact unhide KX k hk) (Nat.le_refl _) ?_ ?_)
    · intro hz
      have all : Hid (∀ k, k ∈ M ↔ k ∈ L) := hide (fun k => ⟨fun h => unhide ML k h, fun h => by
        false_or_by_contra
        rename_i hn
        have : (⟨.int .i64 (k : Int), ptV (l.getD k (0, 0)), k⟩ : MapEntry) ∈ (leftOf (mpL l L).toArray M.toArray).toList := by
          unfold leftOf
          simp
          exact ⟨List.mem_map.2 ⟨k, h, rfl⟩, hn⟩
        rw [Array.eq_empty_of_size_eq_zero (show (leftOf (mpL l L).toArray M.toArray).size = 0 from hz)] at this
        simp at this⟩)
      have ml : Hid (M.length = n) := hide (by
        have nd : L.Nodup := (unhide PL).imp (fun h => by omega)
        have := ((List.perm_ext_iff_of_nodup (unhide MN) nd).2 (unhide all)).length_eq
        rw [this]; exact unhide LL)
      clear hz hmr
      go_wp2_with fail
      refine (sortI11 w.heap.size w.heap.size M.length n (cI M) wr (unhide HR) (by have := unhide ml; omega) (by have := unhide ml; omega)).mono ?_
      rintro e w3 ⟨⟨x, rfl⟩, ⟨L', R', P', S'⟩, gr⟩
      have EL : L' = cI L := srt_eq (unhide PL) (unhide MN) (unhide all) P' (by rw [R'.len11]; exact S')
      rw [EL] at R'
      have R1 := hide R'
      have B1 := hide ((unhide HB).grown gr (unhide HB).size (fun k hk => by simp at hk; omega))
      clear R' P' S' EL gr HR HB
      go_wp2
      go_ret
      exact ⟨_, rfl, unhide B1, unhide R1⟩
    · intro e he w3 hw3
      obtain ⟨k, kL, kM, rfl⟩ := left_e he
      have nd : L.Nodup := (unhide PL).imp (fun h => by omega)
      have MN2 : (M ++ [k]).Nodup := by rw [List.nodup_append]; exact ⟨unhide MN, by simp, fun a ha b hb => by simp at hb; subst hb; intro e; subst e; exact kM ha⟩
      have ML2 : ∀ x ∈ M ++ [k], x ∈ L := fun x hx => by
        rcases List.mem_append.1 hx with h | h
        · exact unhide ML x h
        · simp at h; rw [h]; exact kL
      have lt : M.length + 1 ≤ n := by have := subl11 MN2 nd ML2; rw [unhide LL] at this; simpa using this
      have r0 := unhide RL
      have i3 : w3.heap[r]? = some (.mapIter (some B) clock M.toArray clock) := by rw [hw3.heap]; exact unhide HI
      have m3 : w3.heap[B]? = some (.map (mpL l L).toArray clock) := by rw [hw3.heap]; exact hmr
      have b3 : Below w.heap.size w w3 := hw3.below (unhide HB)
      have o3 : RwI w.heap.size w3 (.slice (some ⟨w.heap.size, 0, none⟩) M.length n) (cI M) := (unhide HR).later (hw3.below (Below.refl _ _))
      have bt : But r (r + 1) w3 (setBlock w3 r (.mapIter (some B) clock (M ++ [k]).toArray clock)) := set_but11 _
      have rl3 := (Array.getElem?_eq_some_iff.1 i3).1
      have i4 : (setBlock w3 r (.mapIter (some B) clock (M ++ [k]).toArray clock)).heap[r]? = some (.mapIter (some B) clock (M ++ [k]).toArray clock) := by simp [setBlock, rl3]
      have m4 : (setBlock w3 r (.mapIter (some B) clock (M ++ [k]).toArray clock)).heap[B]? = some (.map (mpL l L).toArray clock) := (bt.block B (by omega) (.inl (by omega))).trans m3
      have b4 : Below w.heap.size w (setBlock w3 r (.mapIter (some B) clock (M ++ [k]).toArray clock)) := bt.below b3 (by omega) b3.size
      have o4 : RwI w.heap.size (setBlock w3 r (.mapIter (some B) clock (M ++ [k]).toArray clock)) (.slice (some ⟨w.heap.size, 0, none⟩) M.length n) (cI M) := by
        refine ⟨o3.row.1, ?_⟩
        rcases o3.row.2 with h' | ⟨g', cap, cur, hv, h1, hg, rr⟩
        · exact .inl h'
        · have hg' : g' = w.heap.size := by
            have h2 := hv
            simp only [Value.slice.injEq, Option.some.injEq, Addr.mk.injEq] at h2
            exact h2.1.1.symm
          refine .inr ⟨g', cap, cur, hv, h1, ?_, rr⟩
          rw [bt.block g' (Array.getElem?_eq_some_iff.1 hg).1 (.inl (by omega))]
          exact hg
      have nb : ((mpL l L).toArray.toList.map (·.born)).Nodup := by
        have e1 : (mpL l L).map (·.born) = L := by simp [mpL, Function.comp_def]
        simpa [e1] using nd
      have hen := run_entry_at (P := Tryz.prog) _ r B clock M.toArray (mpL l L).toArray clock ⟨.int .i64 (k : Int), ptV (l.getD k (0, 0)), k⟩ (by rw [i4]; simp) m4 (show _ ∈ (mpL l L).toArray.toList from List.mem_map.2 ⟨k, kL, rfl⟩) nb
      have I4 := hide i4
      have B4 := hide b4
      have O4 := hide o4
      have MN' := hide MN2
      have ML' := hide ML2
      have cs : Hid (cI (M ++ [k]) = cI M ++ [(k : Int)]) := hide (cI_snoc M k)
      clear nb i3 m3 b3 o3 bt rl3 i4 m4 b4 o4 hmr he MN2 ML2 nd kM kL hw3 HI HB HR r0
      generalize (setBlock w3 r (.mapIter (some B) clock (M ++ [k]).toArray clock)) = w4 at *
      generalize ptV (l.getD k (0, 0)) = pv at *
      go_wp2_with (at_builtin; refine wpList_append_fits_any _ rfl (.tmp 14) (.tmp 16) 28 rfl w.heap.size 3 i0 1 Tryz.underlying28 hi hz1 w.heap.size M.length n _ rfl ((show w4.ownsRow w.heap.size 3 1 (.slice (some ⟨w.heap.size, 0, none⟩) M.length n) M.length _ by have := (unhide O4).row; rw [cI_len] at this; exact this).alloc _) (some ⟨_, 0, none⟩) 1 1 [.int .i64 (k : Int)] rfl rfl (by intro e; cases e) (by intro ad e j u hj; cases e; exact new_cellI _ _ j u hj) (fun u hu => by simp at hu; subst hu; rfl) lt ?_)
      intro w6 hown hgr
      have RN : Hid (RwI w.heap.size w6 (.slice (some ⟨w.heap.size, 0, none⟩) (M ++ [k]).length n) (cI (M ++ [k]))) := hide ⟨by rw [cI_len, unhide cs, List.map_append, List.length_append]; exact hown⟩
      have IN : Hid (w6.heap[r]? = some (.mapIter (some B) clock (M ++ [k]).toArray clock)) := hide (by
        have r1 := (Array.getElem?_eq_some_iff.1 (unhide I4)).1
        have ha : (w4.alloc (.cells #[.int .i64 (k : Int)] 3)).heap[r]? = w4.heap[r]? := ((Below.refl w4.heap.size w4).alloc (Nat.le_refl _) _).block _ r1
        rw [hgr.block r (by simp; omega) (by have := unhide RL; simp; omega), ha]
        exact unhide I4)
      have BN := hide (((unhide B4).alloc (unhide B4).size _).grown hgr (by have := (unhide B4).size; simp; omega) (fun j hj => by simp at hj; omega))
      have lm : (M ++ [k]).length = M.length + 1 := by simp
      rw [lm] at RN
      clear hown hgr I4 B4 O4
      go_wp2
      go_roundw
      case rel => exact ⟨M ++ [k], MN', ML', by rw [lm], by rw [lm]; exact RN, IN, BN⟩
      case measure => simp [lenV]; omega
end Go.Proofs.YtomekmhonfofkaaGreat
namespace Go.Proofs.YtomekmhonfofkaaGreat
open Go.RowKit
set_option linter.unusedVariables false
set_option maxRecDepth 100000
set_option linter.unusedSimpArgs false

theorem crs_three (a b c p : Int × Int) : crs a b p + crs b c p + crs c a p = crs a b c := by unfold crs; grind
theorem sg_cases (k : Int) : (0 < k ∧ sgZ k = 1) ∨ (k = 0 ∧ sgZ k = 0) ∨ (k < 0 ∧ sgZ k = -1) := by
  unfold sgZ
  rcases Int.lt_trichotomy k 0 with h | h | h
  · exact .inr (.inr ⟨h, by rw [if_neg (by omega), if_pos h]⟩)
  · exact .inr (.inl ⟨h, by rw [if_neg (by omega), if_neg (by omega)]⟩)
  · exact .inl ⟨h, by rw [if_pos h]⟩
/-- Beyond none of the sides. -/
theorem inT_eq {a b c p : Int × Int} (h : sgZ (crs a b c) ≠ 0) :
    inT a b c p = (!(sgZ (crs a b p) == -sgZ (crs a b c)) && !(sgZ (crs b c p) == -sgZ (crs a b c)) && !(sgZ (crs c a p) == -sgZ (crs a b c))) := by
  have s := crs_three a b c p
  unfold inT inK
  generalize crs a b p = x at *
  generalize crs b c p = y at *
  generalize crs c a p = z at *
  generalize crs a b c = t at *
  rcases sg_cases x with ⟨h1, e1⟩ | ⟨h1, e1⟩ | ⟨h1, e1⟩ <;> rcases sg_cases y with ⟨h2, e2⟩ | ⟨h2, e2⟩ | ⟨h2, e2⟩ <;> rcases sg_cases z with ⟨h3, e3⟩ | ⟨h3, e3⟩ | ⟨h3, e3⟩ <;> rcases sg_cases t with ⟨h4, e4⟩ | ⟨h4, e4⟩ | ⟨h4, e4⟩ <;> rw [e1, e2, e3, e4] <;> first | rfl | (exfalso; omega) | exact absurd e4 h
set_option maxHeartbeats 4000000 in
theorem inI11 (a b c p : Int × Int) (w : World) (ha : Near a) (hb : Near b) (hc : Near c) (hp : Near p) (ht : sgZ (crs a b c) ≠ 0) :
    Calls Tryz.prog 37 #[.agg #[.int .i64 a.1, .int .i64 a.2], .agg #[.int .i64 b.1, .int .i64 b.2], .agg #[.int .i64 c.1, .int .i64 c.2], .agg #[.int .i64 p.1, .int .i64 p.2]] w fun e w' => e = .returned (.bool (inT a b c p)) ∧ Below w.heap.size w w' := by
  have C0 := hide (fun w => turnI a b c w ha hb hc)
  have C1 := hide (fun w => turnI a b p w ha hb hp)
  have C2 := hide (fun w => turnI b c p w hb hc hp)
  have C3 := hide (fun w => turnI c a p w hc ha hp)
  rw [inT_eq ht]
  have bt := sg_bd (crs a b c)
  generalize sgZ (crs a b c) = t at *
  generalize sgZ (crs a b p) = x at *
  generalize sgZ (crs b c p) = y at *
  generalize sgZ (crs c a p) = z at *
  obtain ⟨m, hm⟩ : ∃ m, m = -t := ⟨_, rfl⟩
  have wt : IntKind.i64.wrap (-t) = m := by rw [hm, IntKind.wrap_i64]; omega
  rw [← hm]
  clear hm
  clear ha hb hc hp ht bt
  have BW : Hid (Below w.heap.size w w) := hide (Below.refl _ _)
  have al : Below w.heap.size w ((((w.alloc (.cells #[.int .i64 a.1, .int .i64 a.2] 37)).alloc (.cells #[.int .i64 b.1, .int .i64 b.2] 37)).alloc (.cells #[.int .i64 c.1, .int .i64 c.2] 37)).alloc (.cells #[.int .i64 p.1, .int .i64 p.2] 37)) := (((((Below.refl _ _).alloc (Nat.le_refl _) _).alloc (by simp) _).alloc (by simp; omega) _).alloc (by simp; omega) _)
  replace BW := hide (below_on (unhide BW) al)
  clear al
  have Ka : Hid (BxP ((((w.alloc (.cells #[.int .i64 a.1, .int .i64 a.2] 37)).alloc (.cells #[.int .i64 b.1, .int .i64 b.2] 37)).alloc (.cells #[.int .i64 c.1, .int .i64 c.2] 37)).alloc (.cells #[.int .i64 p.1, .int .i64 p.2] 37)) (w.heap.size) a.1 a.2) := hide (((((BxP.new (w := w) (x := a.1) (y := a.2) (t := 37)).later ((Below.refl _ _).alloc (Nat.le_refl _) _)).later ((Below.refl _ _).alloc (Nat.le_refl _) _)).later ((Below.refl _ _).alloc (Nat.le_refl _) _)))
  have zz : (w.alloc (.cells #[.int .i64 a.1, .int .i64 a.2] 37)).heap.size = w.heap.size + 1 := by simp
  have Kb : Hid (BxP ((((w.alloc (.cells #[.int .i64 a.1, .int .i64 a.2] 37)).alloc (.cells #[.int .i64 b.1, .int .i64 b.2] 37)).alloc (.cells #[.int .i64 c.1, .int .i64 c.2] 37)).alloc (.cells #[.int .i64 p.1, .int .i64 p.2] 37)) (w.heap.size + 1) b.1 b.2) := hide (zz ▸ (((BxP.new (w := (w.alloc (.cells #[.int .i64 a.1, .int .i64 a.2] 37))) (x := b.1) (y := b.2) (t := 37)).later ((Below.refl _ _).alloc (Nat.le_refl _) _)).later ((Below.refl _ _).alloc (Nat.le_refl _) _)))
  clear zz
  have zz : ((w.alloc (.cells #[.int .i64 a.1, .int .i64 a.2] 37)).alloc (.cells #[.int .i64 b.1, .int .i64 b.2] 37)).heap.size = w.heap.size + 1 + 1 := by simp
  have Kc : Hid (BxP ((((w.alloc (.cells #[.int .i64 a.1, .int .i64 a.2] 37)).alloc (.cells #[.int .i64 b.1, .int .i64 b.2] 37)).alloc (.cells #[.int .i64 c.1, .int .i64 c.2] 37)).alloc (.cells #[.int .i64 p.1, .int .i64 p.2] 37)) (w.heap.size + 1 + 1) c.1 c.2) := hide (zz ▸ ((BxP.new (w := ((w.alloc (.cells #[.int .i64 a.1, .int .i64 a.2] 37)).alloc (.cells #[.int .i64 b.1, .int .i64 b.2] 37))) (x := c.1) (y := c.2) (t := 37)).later ((Below.refl _ _).alloc (Nat.le_refl _) _)))
  clear zz
  have zz : (((w.alloc (.cells #[.int .i64 a.1, .int .i64 a.2] 37)).alloc (.cells #[.int .i64 b.1, .int .i64 b.2] 37)).alloc (.cells #[.int .i64 c.1, .int .i64 c.2] 37)).heap.size = w.heap.size + 1 + 1 + 1 := by simp
  have Kp : Hid (BxP ((((w.alloc (.cells #[.int .i64 a.1, .int .i64 a.2] 37)).alloc (.cells #[.int .i64 b.1, .int .i64 b.2] 37)).alloc (.cells #[.int .i64 c.1, .int .i64 c.2] 37)).alloc (.cells #[.int .i64 p.1, .int .i64 p.2] 37)) (w.heap.size + 1 + 1 + 1) p.1 p.2) := hide (zz ▸ (BxP.new (w := (((w.alloc (.cells #[.int .i64 a.1, .int .i64 a.2] 37)).alloc (.cells #[.int .i64 b.1, .int .i64 b.2] 37)).alloc (.cells #[.int .i64 c.1, .int .i64 c.2] 37))) (x := p.1) (y := p.2) (t := 37)))
  clear zz
  cases hx : (x == m)
  · have nx : (x != m) = true := by rw [bne, hx]; rfl
    cases hy : (y == m)
    · have ny : (y != m) = true := by rw [bne, hy]; rfl
      cases hz : (z == m)
      · have nz : (z != m) = true := by rw [bne, hz]; rfl
        go_enter Tryz.func37, Tryz.ntmps37
        go_upto_region 1 with fail
        generalize ((((w.alloc (.cells #[.int .i64 a.1, .int .i64 a.2] 37)).alloc (.cells #[.int .i64 b.1, .int .i64 b.2] 37)).alloc (.cells #[.int .i64 c.1, .int .i64 c.2] 37)).alloc (.cells #[.int .i64 p.1, .int .i64 p.2] 37)) = w1 at *
        have Ka_0 := (unhide Ka).c0
        have Ka_1 := (unhide Ka).c1
        have Kb_0 := (unhide Kb).c0
        have Kb_1 := (unhide Kb).c1
        have Kc_0 := (unhide Kc).c0
        have Kc_1 := (unhide Kc).c1
        go_wp2_with fail
        refine (unhide C0 _).mono ?_
        rintro e w2 ⟨rfl, hb⟩
        clear Ka_0 Ka_1 Kb_0 Kb_1 Kc_0 Kc_1
        replace Ka := hide ((unhide Ka).later hb)
        replace Kb := hide ((unhide Kb).later hb)
        replace Kc := hide ((unhide Kc).later hb)
        replace Kp := hide ((unhide Kp).later hb)
        replace BW := hide (below_on (unhide BW) hb)
        clear hb
        go_upto_region 2 with fail
        have Ka_0 := (unhide Ka).c0
        have Ka_1 := (unhide Ka).c1
        have Kb_0 := (unhide Kb).c0
        have Kb_1 := (unhide Kb).c1
        have Kp_0 := (unhide Kp).c0
        have Kp_1 := (unhide Kp).c1
        go_wp2_with fail
        refine (unhide C1 _).mono ?_
        rintro e w3 ⟨rfl, hb⟩
        clear Ka_0 Ka_1 Kb_0 Kb_1 Kp_0 Kp_1
        replace Ka := hide ((unhide Ka).later hb)
        replace Kb := hide ((unhide Kb).later hb)
        replace Kc := hide ((unhide Kc).later hb)
        replace Kp := hide ((unhide Kp).later hb)
        replace BW := hide (below_on (unhide BW) hb)
        clear hb
        have Kb_0 := (unhide Kb).c0
        have Kb_1 := (unhide Kb).c1
        have Kc_0 := (unhide Kc).c0
        have Kc_1 := (unhide Kc).c1
        have Kp_0 := (unhide Kp).c0
        have Kp_1 := (unhide Kp).c1
        go_wp2_with fail
        refine (unhide C2 _).mono ?_
        rintro e w4 ⟨rfl, hb⟩
        clear Kb_0 Kb_1 Kc_0 Kc_1 Kp_0 Kp_1
        replace Ka := hide ((unhide Ka).later hb)
        replace Kb := hide ((unhide Kb).later hb)
        replace Kc := hide ((unhide Kc).later hb)
        replace Kp := hide ((unhide Kp).later hb)
        replace BW := hide (below_on (unhide BW) hb)
        clear hb
        have Kc_0 := (unhide Kc).c0
        have Kc_1 := (unhide Kc).c1
        have Ka_0 := (unhide Ka).c0
        have Ka_1 := (unhide Ka).c1
        have Kp_0 := (unhide Kp).c0
        have Kp_1 := (unhide Kp).c1
        go_wp2_with fail
        refine (unhide C3 _).mono ?_
        rintro e w5 ⟨rfl, hb⟩
        clear Kc_0 Kc_1 Ka_0 Ka_1 Kp_0 Kp_1
        replace Ka := hide ((unhide Ka).later hb)
        replace Kb := hide ((unhide Kb).later hb)
        replace Kc := hide ((unhide Kc).later hb)
        replace Kp := hide ((unhide Kp).later hb)
        replace BW := hide (below_on (unhide BW) hb)
        clear hb
        clear Ka Kb Kc Kp
        go_wp2_with fail
        go_ret
        exact ⟨by simp [*], unhide BW⟩
      · have nz : (z != m) = false := by rw [bne, hz]; rfl
        go_enter Tryz.func37, Tryz.ntmps37
        go_upto_region 1 with fail
        generalize ((((w.alloc (.cells #[.int .i64 a.1, .int .i64 a.2] 37)).alloc (.cells #[.int .i64 b.1, .int .i64 b.2] 37)).alloc (.cells #[.int .i64 c.1, .int .i64 c.2] 37)).alloc (.cells #[.int .i64 p.1, .int .i64 p.2] 37)) = w6 at *
        have Ka_0 := (unhide Ka).c0
        have Ka_1 := (unhide Ka).c1
        have Kb_0 := (unhide Kb).c0
        have Kb_1 := (unhide Kb).c1
        have Kc_0 := (unhide Kc).c0
        have Kc_1 := (unhide Kc).c1
        go_wp2_with fail
        refine (unhide C0 _).mono ?_
        rintro e w7 ⟨rfl, hb⟩
        clear Ka_0 Ka_1 Kb_0 Kb_1 Kc_0 Kc_1
        replace Ka := hide ((unhide Ka).later hb)
        replace Kb := hide ((unhide Kb).later hb)
        replace Kc := hide ((unhide Kc).later hb)
        replace Kp := hide ((unhide Kp).later hb)
        replace BW := hide (below_on (unhide BW) hb)
        clear hb
        go_upto_region 2 with fail
        have Ka_0 := (unhide Ka).c0
        have Ka_1 := (unhide Ka).c1
        have Kb_0 := (unhide Kb).c0
        have Kb_1 := (unhide Kb).c1
        have Kp_0 := (unhide Kp).c0
        have Kp_1 := (unhide Kp).c1
        go_wp2_with fail
        refine (unhide C1 _).mono ?_
        rintro e w8 ⟨rfl, hb⟩
        clear Ka_0 Ka_1 Kb_0 Kb_1 Kp_0 Kp_1
        replace Ka := hide ((unhide Ka).later hb)
        replace Kb := hide ((unhide Kb).later hb)
        replace Kc := hide ((unhide Kc).later hb)
        replace Kp := hide ((unhide Kp).later hb)
        replace BW := hide (below_on (unhide BW) hb)
        clear hb
        have Kb_0 := (unhide Kb).c0
        have Kb_1 := (unhide Kb).c1
        have Kc_0 := (unhide Kc).c0
        have Kc_1 := (unhide Kc).c1
        have Kp_0 := (unhide Kp).c0
        have Kp_1 := (unhide Kp).c1
        go_wp2_with fail
        refine (unhide C2 _).mono ?_
        rintro e w9 ⟨rfl, hb⟩
        clear Kb_0 Kb_1 Kc_0 Kc_1 Kp_0 Kp_1
        replace Ka := hide ((unhide Ka).later hb)
        replace Kb := hide ((unhide Kb).later hb)
        replace Kc := hide ((unhide Kc).later hb)
        replace Kp := hide ((unhide Kp).later hb)
        replace BW := hide (below_on (unhide BW) hb)
        clear hb
        have Kc_0 := (unhide Kc).c0
        have Kc_1 := (unhide Kc).c1
        have Ka_0 := (unhide Ka).c0
        have Ka_1 := (unhide Ka).c1
        have Kp_0 := (unhide Kp).c0
        have Kp_1 := (unhide Kp).c1
        go_wp2_with fail
        refine (unhide C3 _).mono ?_
        rintro e w10 ⟨rfl, hb⟩
        clear Kc_0 Kc_1 Ka_0 Ka_1 Kp_0 Kp_1
        replace Ka := hide ((unhide Ka).later hb)
        replace Kb := hide ((unhide Kb).later hb)
        replace Kc := hide ((unhide Kc).later hb)
        replace Kp := hide ((unhide Kp).later hb)
        replace BW := hide (below_on (unhide BW) hb)
        clear hb
        clear Ka Kb Kc Kp
        go_wp2_with fail
        go_ret
        exact ⟨by simp [*], unhide BW⟩
    · have ny : (y != m) = false := by rw [bne, hy]; rfl
      go_enter Tryz.func37, Tryz.ntmps37
      go_upto_region 1 with fail
      generalize ((((w.alloc (.cells #[.int .i64 a.1, .int .i64 a.2] 37)).alloc (.cells #[.int .i64 b.1, .int .i64 b.2] 37)).alloc (.cells #[.int .i64 c.1, .int .i64 c.2] 37)).alloc (.cells #[.int .i64 p.1, .int .i64 p.2] 37)) = w11 at *
      have Ka_0 := (unhide Ka).c0
      have Ka_1 := (unhide Ka).c1
      have Kb_0 := (unhide Kb).c0
      have Kb_1 := (unhide Kb).c1
      have Kc_0 := (unhide Kc).c0
      have Kc_1 := (unhide Kc).c1
      go_wp2_with fail
      refine (unhide C0 _).mono ?_
      rintro e w12 ⟨rfl, hb⟩
      clear Ka_0 Ka_1 Kb_0 Kb_1 Kc_0 Kc_1
      replace Ka := hide ((unhide Ka).later hb)
      replace Kb := hide ((unhide Kb).later hb)
      replace Kc := hide ((unhide Kc).later hb)
      replace Kp := hide ((unhide Kp).later hb)
      replace BW := hide (below_on (unhide BW) hb)
      clear hb
      go_upto_region 2 with fail
      have Ka_0 := (unhide Ka).c0
      have Ka_1 := (unhide Ka).c1
      have Kb_0 := (unhide Kb).c0
      have Kb_1 := (unhide Kb).c1
      have Kp_0 := (unhide Kp).c0
      have Kp_1 := (unhide Kp).c1
      go_wp2_with fail
      refine (unhide C1 _).mono ?_
      rintro e w13 ⟨rfl, hb⟩
      clear Ka_0 Ka_1 Kb_0 Kb_1 Kp_0 Kp_1
      replace Ka := hide ((unhide Ka).later hb)
      replace Kb := hide ((unhide Kb).later hb)
      replace Kc := hide ((unhide Kc).later hb)
      replace Kp := hide ((unhide Kp).later hb)
      replace BW := hide (below_on (unhide BW) hb)
      clear hb
      have Kb_0 := (unhide Kb).c0
      have Kb_1 := (unhide Kb).c1
      have Kc_0 := (unhide Kc).c0
      have Kc_1 := (unhide Kc).c1
      have Kp_0 := (unhide Kp).c0
      have Kp_1 := (unhide Kp).c1
      go_wp2_with fail
      refine (unhide C2 _).mono ?_
      rintro e w14 ⟨rfl, hb⟩
      clear Kb_0 Kb_1 Kc_0 Kc_1 Kp_0 Kp_1
      replace Ka := hide ((unhide Ka).later hb)
      replace Kb := hide ((unhide Kb).later hb)
      replace Kc := hide ((unhide Kc).later hb)
      replace Kp := hide ((unhide Kp).later hb)
      replace BW := hide (below_on (unhide BW) hb)
      clear hb
      clear Ka Kb Kc Kp
      go_wp2_with fail
      go_ret
      exact ⟨by simp [*], unhide BW⟩
  · have nx : (x != m) = false := by rw [bne, hx]; rfl
    go_enter Tryz.func37, Tryz.ntmps37
    go_upto_region 1 with fail
    generalize ((((w.alloc (.cells #[.int .i64 a.1, .int .i64 a.2] 37)).alloc (.cells #[.int .i64 b.1, .int .i64 b.2] 37)).alloc (.cells #[.int .i64 c.1, .int .i64 c.2] 37)).alloc (.cells #[.int .i64 p.1, .int .i64 p.2] 37)) = w15 at *
    have Ka_0 := (unhide Ka).c0
    have Ka_1 := (unhide Ka).c1
    have Kb_0 := (unhide Kb).c0
    have Kb_1 := (unhide Kb).c1
    have Kc_0 := (unhide Kc).c0
    have Kc_1 := (unhide Kc).c1
    go_wp2_with fail
    refine (unhide C0 _).mono ?_
    rintro e w16 ⟨rfl, hb⟩
    clear Ka_0 Ka_1 Kb_0 Kb_1 Kc_0 Kc_1
    replace Ka := hide ((unhide Ka).later hb)
    replace Kb := hide ((unhide Kb).later hb)
    replace Kc := hide ((unhide Kc).later hb)
    replace Kp := hide ((unhide Kp).later hb)
    replace BW := hide (below_on (unhide BW) hb)
    clear hb
    go_upto_region 2 with fail
    have Ka_0 := (unhide Ka).c0
    have Ka_1 := (unhide Ka).c1
    have Kb_0 := (unhide Kb).c0
    have Kb_1 := (unhide Kb).c1
    have Kp_0 := (unhide Kp).c0
    have Kp_1 := (unhide Kp).c1
    go_wp2_with fail
    refine (unhide C1 _).mono ?_
    rintro e w17 ⟨rfl, hb⟩
    clear Ka_0 Ka_1 Kb_0 Kb_1 Kp_0 Kp_1
    replace Ka := hide ((unhide Ka).later hb)
    replace Kb := hide ((unhide Kb).later hb)
    replace Kc := hide ((unhide Kc).later hb)
    replace Kp := hide ((unhide Kp).later hb)
    replace BW := hide (below_on (unhide BW) hb)
    clear hb
    clear Ka Kb Kc Kp
    go_wp2_with fail
    go_ret
    exact ⟨by simp [*], unhide BW⟩
set_option maxHeartbeats 4000000 in
theorem InTriangleI (a b c p : Int × Int) (w : World) :
    Calls Tryz.prog 14 #[.agg #[.int .i64 a.1, .int .i64 a.2], .agg #[.int .i64 b.1, .int .i64 b.2], .agg #[.int .i64 c.1, .int .i64 c.2], .agg #[.int .i64 p.1, .int .i64 p.2]] w fun e w' => e = .returned (.tuple #[.bool (itV a b c p), .bool (itB a b c p)]) ∧ Below w.heap.size w w' := by
  cases hg : [a, b, c, p].all gPt
  · have e0 : itB a b c p = false := by unfold itB; rw [hg]; rfl
    have e1 : itV a b c p = false := by unfold itV; rw [e0]; rfl
    rw [e0, e1]
    clear e0 e1
    have HG := hide hg
    clear hg
    have BW : Hid (Below w.heap.size w w) := hide (Below.refl _ _)
    have al : Below w.heap.size w ((((w.alloc (.cells #[.int .i64 a.1, .int .i64 a.2] 37)).alloc (.cells #[.int .i64 b.1, .int .i64 b.2] 37)).alloc (.cells #[.int .i64 c.1, .int .i64 c.2] 37)).alloc (.cells #[.int .i64 p.1, .int .i64 p.2] 37)) := (((((Below.refl _ _).alloc (Nat.le_refl _) _).alloc (by simp) _).alloc (by simp; omega) _).alloc (by simp; omega) _)
    replace BW := hide (below_on (unhide BW) al)
    clear al
    have Ka : Hid (BxP ((((w.alloc (.cells #[.int .i64 a.1, .int .i64 a.2] 37)).alloc (.cells #[.int .i64 b.1, .int .i64 b.2] 37)).alloc (.cells #[.int .i64 c.1, .int .i64 c.2] 37)).alloc (.cells #[.int .i64 p.1, .int .i64 p.2] 37)) (w.heap.size) a.1 a.2) := hide (((((BxP.new (w := w) (x := a.1) (y := a.2) (t := 37)).later ((Below.refl _ _).alloc (Nat.le_refl _) _)).later ((Below.refl _ _).alloc (Nat.le_refl _) _)).later ((Below.refl _ _).alloc (Nat.le_refl _) _)))
    have zz : (w.alloc (.cells #[.int .i64 a.1, .int .i64 a.2] 37)).heap.size = w.heap.size + 1 := by simp
    have Kb : Hid (BxP ((((w.alloc (.cells #[.int .i64 a.1, .int .i64 a.2] 37)).alloc (.cells #[.int .i64 b.1, .int .i64 b.2] 37)).alloc (.cells #[.int .i64 c.1, .int .i64 c.2] 37)).alloc (.cells #[.int .i64 p.1, .int .i64 p.2] 37)) (w.heap.size + 1) b.1 b.2) := hide (zz ▸ (((BxP.new (w := (w.alloc (.cells #[.int .i64 a.1, .int .i64 a.2] 37))) (x := b.1) (y := b.2) (t := 37)).later ((Below.refl _ _).alloc (Nat.le_refl _) _)).later ((Below.refl _ _).alloc (Nat.le_refl _) _)))
    clear zz
    have zz : ((w.alloc (.cells #[.int .i64 a.1, .int .i64 a.2] 37)).alloc (.cells #[.int .i64 b.1, .int .i64 b.2] 37)).heap.size = w.heap.size + 1 + 1 := by simp
    have Kc : Hid (BxP ((((w.alloc (.cells #[.int .i64 a.1, .int .i64 a.2] 37)).alloc (.cells #[.int .i64 b.1, .int .i64 b.2] 37)).alloc (.cells #[.int .i64 c.1, .int .i64 c.2] 37)).alloc (.cells #[.int .i64 p.1, .int .i64 p.2] 37)) (w.heap.size + 1 + 1) c.1 c.2) := hide (zz ▸ ((BxP.new (w := ((w.alloc (.cells #[.int .i64 a.1, .int .i64 a.2] 37)).alloc (.cells #[.int .i64 b.1, .int .i64 b.2] 37))) (x := c.1) (y := c.2) (t := 37)).later ((Below.refl _ _).alloc (Nat.le_refl _) _)))
    clear zz
    have zz : (((w.alloc (.cells #[.int .i64 a.1, .int .i64 a.2] 37)).alloc (.cells #[.int .i64 b.1, .int .i64 b.2] 37)).alloc (.cells #[.int .i64 c.1, .int .i64 c.2] 37)).heap.size = w.heap.size + 1 + 1 + 1 := by simp
    have Kp : Hid (BxP ((((w.alloc (.cells #[.int .i64 a.1, .int .i64 a.2] 37)).alloc (.cells #[.int .i64 b.1, .int .i64 b.2] 37)).alloc (.cells #[.int .i64 c.1, .int .i64 c.2] 37)).alloc (.cells #[.int .i64 p.1, .int .i64 p.2] 37)) (w.heap.size + 1 + 1 + 1) p.1 p.2) := hide (zz ▸ (BxP.new (w := (((w.alloc (.cells #[.int .i64 a.1, .int .i64 a.2] 37)).alloc (.cells #[.int .i64 b.1, .int .i64 b.2] 37)).alloc (.cells #[.int .i64 c.1, .int .i64 c.2] 37))) (x := p.1) (y := p.2) (t := 37)))
    clear zz
    have C3 : Hid (SlP (((((w.alloc (.cells #[.int .i64 a.1, .int .i64 a.2] 37)).alloc (.cells #[.int .i64 b.1, .int .i64 b.2] 37)).alloc (.cells #[.int .i64 c.1, .int .i64 c.2] 37)).alloc (.cells #[.int .i64 p.1, .int .i64 p.2] 37)).alloc (.cells #[.int .i64 a.1, .int .i64 a.2, .int .i64 b.1, .int .i64 b.2, .int .i64 c.1, .int .i64 c.2, .int .i64 p.1, .int .i64 p.2] 37)) (some ⟨w.heap.size + 1 + 1 + 1 + 1, 0, none⟩) [a, b, c, p]) := hide (by have k := cellsP4 ((((w.alloc (.cells #[.int .i64 a.1, .int .i64 a.2] 37)).alloc (.cells #[.int .i64 b.1, .int .i64 b.2] 37)).alloc (.cells #[.int .i64 c.1, .int .i64 c.2] 37)).alloc (.cells #[.int .i64 p.1, .int .i64 p.2] 37)) a b c p; rw [show ((((w.alloc (.cells #[.int .i64 a.1, .int .i64 a.2] 37)).alloc (.cells #[.int .i64 b.1, .int .i64 b.2] 37)).alloc (.cells #[.int .i64 c.1, .int .i64 c.2] 37)).alloc (.cells #[.int .i64 p.1, .int .i64 p.2] 37)).heap.size = w.heap.size + 1 + 1 + 1 + 1 by simp] at k; exact k)
    have al : Below ((((w.alloc (.cells #[.int .i64 a.1, .int .i64 a.2] 37)).alloc (.cells #[.int .i64 b.1, .int .i64 b.2] 37)).alloc (.cells #[.int .i64 c.1, .int .i64 c.2] 37)).alloc (.cells #[.int .i64 p.1, .int .i64 p.2] 37)).heap.size ((((w.alloc (.cells #[.int .i64 a.1, .int .i64 a.2] 37)).alloc (.cells #[.int .i64 b.1, .int .i64 b.2] 37)).alloc (.cells #[.int .i64 c.1, .int .i64 c.2] 37)).alloc (.cells #[.int .i64 p.1, .int .i64 p.2] 37)) (((((w.alloc (.cells #[.int .i64 a.1, .int .i64 a.2] 37)).alloc (.cells #[.int .i64 b.1, .int .i64 b.2] 37)).alloc (.cells #[.int .i64 c.1, .int .i64 c.2] 37)).alloc (.cells #[.int .i64 p.1, .int .i64 p.2] 37)).alloc (.cells #[.int .i64 a.1, .int .i64 a.2, .int .i64 b.1, .int .i64 b.2, .int .i64 c.1, .int .i64 c.2, .int .i64 p.1, .int .i64 p.2] 37)) := (Below.refl _ _).alloc (Nat.le_refl _) _
    replace Ka := hide ((unhide Ka).later al)
    replace Kb := hide ((unhide Kb).later al)
    replace Kc := hide ((unhide Kc).later al)
    replace Kp := hide ((unhide Kp).later al)
    replace BW := hide (below_on (unhide BW) al)
    clear al
    go_enter Tryz.func14, Tryz.ntmps14
    go_wp2_with fail
    refine (ptsI _ 4 4 [a, b, c, p] _ (unhide C3) rfl (by unfold maxLen; omega)).mono ?_
    rintro e w1 ⟨rfl, hb⟩
    replace Ka := hide ((unhide Ka).later hb)
    replace Kb := hide ((unhide Kb).later hb)
    replace Kc := hide ((unhide Kc).later hb)
    replace Kp := hide ((unhide Kp).later hb)
    replace BW := hide (below_on (unhide BW) hb)
    clear hb
    clear C3
    rw [unhide HG]
    clear Ka Kb Kc Kp
    go_wp2_with fail
    go_ret2
    exact ⟨rfl, unhide BW⟩
  · have na : Near a := near_of (List.all_eq_true.1 hg a (by simp))
    have nb : Near b := near_of (List.all_eq_true.1 hg b (by simp))
    have nc : Near c := near_of (List.all_eq_true.1 hg c (by simp))
    have np : Near p := near_of (List.all_eq_true.1 hg p (by simp))
    have C0 := hide (fun w => turnI a b c w na nb nc)
    have C1 := hide (fun w ht => inI11 a b c p w na nb nc np ht)
    have e0 : itB a b c p = !(sgZ (crs a b c) == 0) := by unfold itB; rw [hg]; rfl
    have e1 : itV a b c p = (!(sgZ (crs a b c) == 0) && inT a b c p) := by unfold itV; rw [e0]
    rw [e0, e1]
    clear e0 e1 na nb nc np
    generalize sgZ (crs a b c) = k at *
    generalize inT a b c p = v at *
    have HG := hide hg
    clear hg
    have BW : Hid (Below w.heap.size w w) := hide (Below.refl _ _)
    have al : Below w.heap.size w ((((w.alloc (.cells #[.int .i64 a.1, .int .i64 a.2] 37)).alloc (.cells #[.int .i64 b.1, .int .i64 b.2] 37)).alloc (.cells #[.int .i64 c.1, .int .i64 c.2] 37)).alloc (.cells #[.int .i64 p.1, .int .i64 p.2] 37)) := (((((Below.refl _ _).alloc (Nat.le_refl _) _).alloc (by simp) _).alloc (by simp; omega) _).alloc (by simp; omega) _)
    replace BW := hide (below_on (unhide BW) al)
    clear al
    have Ka : Hid (BxP ((((w.alloc (.cells #[.int .i64 a.1, .int .i64 a.2] 37)).alloc (.cells #[.int .i64 b.1, .int .i64 b.2] 37)).alloc (.cells #[.int .i64 c.1, .int .i64 c.2] 37)).alloc (.cells #[.int .i64 p.1, .int .i64 p.2] 37)) (w.heap.size) a.1 a.2) := hide (((((BxP.new (w := w) (x := a.1) (y := a.2) (t := 37)).later ((Below.refl _ _).alloc (Nat.le_refl _) _)).later ((Below.refl _ _).alloc (Nat.le_refl _) _)).later ((Below.refl _ _).alloc (Nat.le_refl _) _)))
    have zz : (w.alloc (.cells #[.int .i64 a.1, .int .i64 a.2] 37)).heap.size = w.heap.size + 1 := by simp
    have Kb : Hid (BxP ((((w.alloc (.cells #[.int .i64 a.1, .int .i64 a.2] 37)).alloc (.cells #[.int .i64 b.1, .int .i64 b.2] 37)).alloc (.cells #[.int .i64 c.1, .int .i64 c.2] 37)).alloc (.cells #[.int .i64 p.1, .int .i64 p.2] 37)) (w.heap.size + 1) b.1 b.2) := hide (zz ▸ (((BxP.new (w := (w.alloc (.cells #[.int .i64 a.1, .int .i64 a.2] 37))) (x := b.1) (y := b.2) (t := 37)).later ((Below.refl _ _).alloc (Nat.le_refl _) _)).later ((Below.refl _ _).alloc (Nat.le_refl _) _)))
    clear zz
    have zz : ((w.alloc (.cells #[.int .i64 a.1, .int .i64 a.2] 37)).alloc (.cells #[.int .i64 b.1, .int .i64 b.2] 37)).heap.size = w.heap.size + 1 + 1 := by simp
    have Kc : Hid (BxP ((((w.alloc (.cells #[.int .i64 a.1, .int .i64 a.2] 37)).alloc (.cells #[.int .i64 b.1, .int .i64 b.2] 37)).alloc (.cells #[.int .i64 c.1, .int .i64 c.2] 37)).alloc (.cells #[.int .i64 p.1, .int .i64 p.2] 37)) (w.heap.size + 1 + 1) c.1 c.2) := hide (zz ▸ ((BxP.new (w := ((w.alloc (.cells #[.int .i64 a.1, .int .i64 a.2] 37)).alloc (.cells #[.int .i64 b.1, .int .i64 b.2] 37))) (x := c.1) (y := c.2) (t := 37)).later ((Below.refl _ _).alloc (Nat.le_refl _) _)))
    clear zz
    have zz : (((w.alloc (.cells #[.int .i64 a.1, .int .i64 a.2] 37)).alloc (.cells #[.int .i64 b.1, .int .i64 b.2] 37)).alloc (.cells #[.int .i64 c.1, .int .i64 c.2] 37)).heap.size = w.heap.size + 1 + 1 + 1 := by simp
    have Kp : Hid (BxP ((((w.alloc (.cells #[.int .i64 a.1, .int .i64 a.2] 37)).alloc (.cells #[.int .i64 b.1, .int .i64 b.2] 37)).alloc (.cells #[.int .i64 c.1, .int .i64 c.2] 37)).alloc (.cells #[.int .i64 p.1, .int .i64 p.2] 37)) (w.heap.size + 1 + 1 + 1) p.1 p.2) := hide (zz ▸ (BxP.new (w := (((w.alloc (.cells #[.int .i64 a.1, .int .i64 a.2] 37)).alloc (.cells #[.int .i64 b.1, .int .i64 b.2] 37)).alloc (.cells #[.int .i64 c.1, .int .i64 c.2] 37))) (x := p.1) (y := p.2) (t := 37)))
    clear zz
    have C3 : Hid (SlP (((((w.alloc (.cells #[.int .i64 a.1, .int .i64 a.2] 37)).alloc (.cells #[.int .i64 b.1, .int .i64 b.2] 37)).alloc (.cells #[.int .i64 c.1, .int .i64 c.2] 37)).alloc (.cells #[.int .i64 p.1, .int .i64 p.2] 37)).alloc (.cells #[.int .i64 a.1, .int .i64 a.2, .int .i64 b.1, .int .i64 b.2, .int .i64 c.1, .int .i64 c.2, .int .i64 p.1, .int .i64 p.2] 37)) (some ⟨w.heap.size + 1 + 1 + 1 + 1, 0, none⟩) [a, b, c, p]) := hide (by have k := cellsP4 ((((w.alloc (.cells #[.int .i64 a.1, .int .i64 a.2] 37)).alloc (.cells #[.int .i64 b.1, .int .i64 b.2] 37)).alloc (.cells #[.int .i64 c.1, .int .i64 c.2] 37)).alloc (.cells #[.int .i64 p.1, .int .i64 p.2] 37)) a b c p; rw [show ((((w.alloc (.cells #[.int .i64 a.1, .int .i64 a.2] 37)).alloc (.cells #[.int .i64 b.1, .int .i64 b.2] 37)).alloc (.cells #[.int .i64 c.1, .int .i64 c.2] 37)).alloc (.cells #[.int .i64 p.1, .int .i64 p.2] 37)).heap.size = w.heap.size + 1 + 1 + 1 + 1 by simp] at k; exact k)
    have al : Below ((((w.alloc (.cells #[.int .i64 a.1, .int .i64 a.2] 37)).alloc (.cells #[.int .i64 b.1, .int .i64 b.2] 37)).alloc (.cells #[.int .i64 c.1, .int .i64 c.2] 37)).alloc (.cells #[.int .i64 p.1, .int .i64 p.2] 37)).heap.size ((((w.alloc (.cells #[.int .i64 a.1, .int .i64 a.2] 37)).alloc (.cells #[.int .i64 b.1, .int .i64 b.2] 37)).alloc (.cells #[.int .i64 c.1, .int .i64 c.2] 37)).alloc (.cells #[.int .i64 p.1, .int .i64 p.2] 37)) (((((w.alloc (.cells #[.int .i64 a.1, .int .i64 a.2] 37)).alloc (.cells #[.int .i64 b.1, .int .i64 b.2] 37)).alloc (.cells #[.int .i64 c.1, .int .i64 c.2] 37)).alloc (.cells #[.int .i64 p.1, .int .i64 p.2] 37)).alloc (.cells #[.int .i64 a.1, .int .i64 a.2, .int .i64 b.1, .int .i64 b.2, .int .i64 c.1, .int .i64 c.2, .int .i64 p.1, .int .i64 p.2] 37)) := (Below.refl _ _).alloc (Nat.le_refl _) _
    replace Ka := hide ((unhide Ka).later al)
    replace Kb := hide ((unhide Kb).later al)
    replace Kc := hide ((unhide Kc).later al)
    replace Kp := hide ((unhide Kp).later al)
    replace BW := hide (below_on (unhide BW) al)
    clear al
    go_enter Tryz.func14, Tryz.ntmps14
    go_wp2_with fail
    refine (ptsI _ 4 4 [a, b, c, p] _ (unhide C3) rfl (by unfold maxLen; omega)).mono ?_
    rintro e w2 ⟨rfl, hb⟩
    replace Ka := hide ((unhide Ka).later hb)
    replace Kb := hide ((unhide Kb).later hb)
    replace Kc := hide ((unhide Kc).later hb)
    replace Kp := hide ((unhide Kp).later hb)
    replace BW := hide (below_on (unhide BW) hb)
    clear hb
    clear C3
    rw [unhide HG]
    have Ka_0 := (unhide Ka).c0
    have Ka_1 := (unhide Ka).c1
    have Kb_0 := (unhide Kb).c0
    have Kb_1 := (unhide Kb).c1
    have Kc_0 := (unhide Kc).c0
    have Kc_1 := (unhide Kc).c1
    go_wp2_with fail
    refine (unhide C0 _).mono ?_
    rintro e w3 ⟨rfl, hb⟩
    clear Ka_0 Ka_1 Kb_0 Kb_1 Kc_0 Kc_1
    replace Ka := hide ((unhide Ka).later hb)
    replace Kb := hide ((unhide Kb).later hb)
    replace Kc := hide ((unhide Kc).later hb)
    replace Kp := hide ((unhide Kp).later hb)
    replace BW := hide (below_on (unhide BW) hb)
    clear hb
    clear C0
    cases hk : (k == 0)
    · skip
      have Ka_0 := (unhide Ka).c0
      have Ka_1 := (unhide Ka).c1
      have Kb_0 := (unhide Kb).c0
      have Kb_1 := (unhide Kb).c1
      have Kc_0 := (unhide Kc).c0
      have Kc_1 := (unhide Kc).c1
      have Kp_0 := (unhide Kp).c0
      have Kp_1 := (unhide Kp).c1
      go_wp2_with fail
      refine (unhide C1 _ (by intro e; rw [e] at hk; exact absurd hk (by decide))).mono ?_
      rintro e w4 ⟨rfl, hb⟩
      clear Ka_0 Ka_1 Kb_0 Kb_1 Kc_0 Kc_1 Kp_0 Kp_1
      replace Ka := hide ((unhide Ka).later hb)
      replace Kb := hide ((unhide Kb).later hb)
      replace Kc := hide ((unhide Kc).later hb)
      replace Kp := hide ((unhide Kp).later hb)
      replace BW := hide (below_on (unhide BW) hb)
      clear hb
      clear Ka Kb Kc Kp
      go_wp2_with fail
      go_ret2
      exact ⟨by simp only [hk]; rfl, unhide BW⟩
    · skip
      clear Ka Kb Kc Kp
      go_wp2_with fail
      go_ret2
      exact ⟨by simp only [hk]; rfl, unhide BW⟩
end Go.Proofs.YtomekmhonfofkaaGreat
namespace Go.Proofs.YtomekmhonfofkaaGreat
open Go.RowKit
set_option linter.unusedVariables false
set_option maxRecDepth 100000
set_option linter.unusedSimpArgs false

/-- A corner's number. -/
def cnB (n : Nat) (k : Int) : Bool := decide (0 ≤ k) && decide (k < (n : Int))
def trB (n : Nat) (t : Int × Int × Int) : Bool := cnB n t.1 && cnB n t.2.1 && cnB n t.2.2
def hsB (g : Int) (t : Int × Int × Int) : Bool := g == t.1 || g == t.2.1 || g == t.2.2
theorem cornerS (a : Option Addr) (n c : Nat) (k : Int) (w : World) :
    Calls Tryz.prog 68 #[.slice a n c, .int .i64 k] w fun e w' => e = .returned (.bool (cnB n k)) ∧ w' = w := by
  unfold cnB
  by_cases h0 : 0 ≤ k
  · have d0 : decide (0 ≤ k) = true := decide_eq_true h0
    cases h1 : decide (k < (n : Int))
    · go_enter Tryz.func68, Tryz.ntmps68
      go_wp2_with fail
      go_ret
      exact ⟨by rw [d0]; rfl, rfl⟩
    · go_enter Tryz.func68, Tryz.ntmps68
      go_wp2_with fail
      go_ret
      exact ⟨by rw [d0]; rfl, rfl⟩
  · have d0 : decide (0 ≤ k) = false := decide_eq_false h0
    go_enter Tryz.func68, Tryz.ntmps68
    go_wp2_with fail
    go_ret
    exact ⟨by first | rfl | (rw [d0]; rfl), rfl⟩
theorem triOfS (a : Option Addr) (n c : Nat) (t : Int × Int × Int) (w : World) :
    Calls Tryz.prog 41 #[.slice a n c, .agg #[.int .i64 t.1, .int .i64 t.2.1, .int .i64 t.2.2]] w fun e w' => e = .returned (.bool (trB n t)) ∧ Below w.heap.size w w' := by
  have C0 := hide (fun w => cornerS a n c t.1 w)
  have C1 := hide (fun w => cornerS a n c t.2.1 w)
  have C2 := hide (fun w => cornerS a n c t.2.2 w)
  unfold trB
  generalize cnB n t.1 = x0 at *
  generalize cnB n t.2.1 = x1 at *
  generalize cnB n t.2.2 = x2 at *
  cases x0
  · go_enter Tryz.func41, Tryz.ntmps41
    go_wp2_with fail
    refine (unhide C0 _).mono ?_
    rintro e wz ⟨rfl, rfl⟩
    go_wp2_with fail
    go_ret
    exact ⟨rfl, (Below.refl _ _).alloc (Nat.le_refl _) _⟩
  · cases x1
    · go_enter Tryz.func41, Tryz.ntmps41
      go_wp2_with fail
      refine (unhide C0 _).mono ?_
      rintro e wz ⟨rfl, rfl⟩
      go_wp2_with fail
      refine (unhide C1 _).mono ?_
      rintro e wz ⟨rfl, rfl⟩
      go_wp2_with fail
      go_ret
      exact ⟨rfl, (Below.refl _ _).alloc (Nat.le_refl _) _⟩
    · cases x2
      · go_enter Tryz.func41, Tryz.ntmps41
        go_wp2_with fail
        refine (unhide C0 _).mono ?_
        rintro e wz ⟨rfl, rfl⟩
        go_wp2_with fail
        refine (unhide C1 _).mono ?_
        rintro e wz ⟨rfl, rfl⟩
        go_wp2_with fail
        refine (unhide C2 _).mono ?_
        rintro e wz ⟨rfl, rfl⟩
        go_wp2_with fail
        go_ret
        exact ⟨rfl, (Below.refl _ _).alloc (Nat.le_refl _) _⟩
      · go_enter Tryz.func41, Tryz.ntmps41
        go_wp2_with fail
        refine (unhide C0 _).mono ?_
        rintro e wz ⟨rfl, rfl⟩
        go_wp2_with fail
        refine (unhide C1 _).mono ?_
        rintro e wz ⟨rfl, rfl⟩
        go_wp2_with fail
        refine (unhide C2 _).mono ?_
        rintro e wz ⟨rfl, rfl⟩
        go_wp2_with fail
        go_ret
        exact ⟨rfl, (Below.refl _ _).alloc (Nat.le_refl _) _⟩
theorem cornerI (a : Option Addr) (n c : Nat) (k : Int) (w : World) :
    Calls Tryz.prog 79 #[.slice a n c, .int .i64 k] w fun e w' => e = .returned (.bool (cnB n k)) ∧ w' = w := by
  unfold cnB
  by_cases h0 : 0 ≤ k
  · have d0 : decide (0 ≤ k) = true := decide_eq_true h0
    cases h1 : decide (k < (n : Int))
    · go_enter Tryz.func79, Tryz.ntmps79
      go_wp2_with fail
      go_ret
      exact ⟨by rw [d0]; rfl, rfl⟩
    · go_enter Tryz.func79, Tryz.ntmps79
      go_wp2_with fail
      go_ret
      exact ⟨by rw [d0]; rfl, rfl⟩
  · have d0 : decide (0 ≤ k) = false := decide_eq_false h0
    go_enter Tryz.func79, Tryz.ntmps79
    go_wp2_with fail
    go_ret
    exact ⟨by first | rfl | (rw [d0]; rfl), rfl⟩
theorem triOfI (a : Option Addr) (n c : Nat) (t : Int × Int × Int) (w : World) :
    Calls Tryz.prog 57 #[.agg #[.int .i64 t.1, .int .i64 t.2.1, .int .i64 t.2.2], .slice a n c] w fun e w' => e = .returned (.bool (trB n t)) ∧ Below w.heap.size w w' := by
  have C0 := hide (fun w => cornerI a n c t.1 w)
  have C1 := hide (fun w => cornerI a n c t.2.1 w)
  have C2 := hide (fun w => cornerI a n c t.2.2 w)
  unfold trB
  generalize cnB n t.1 = x0 at *
  generalize cnB n t.2.1 = x1 at *
  generalize cnB n t.2.2 = x2 at *
  cases x0
  · go_enter Tryz.func57, Tryz.ntmps57
    go_wp2_with fail
    refine (unhide C0 _).mono ?_
    rintro e wz ⟨rfl, rfl⟩
    go_wp2_with fail
    go_ret
    exact ⟨rfl, (Below.refl _ _).alloc (Nat.le_refl _) _⟩
  · cases x1
    · go_enter Tryz.func57, Tryz.ntmps57
      go_wp2_with fail
      refine (unhide C0 _).mono ?_
      rintro e wz ⟨rfl, rfl⟩
      go_wp2_with fail
      refine (unhide C1 _).mono ?_
      rintro e wz ⟨rfl, rfl⟩
      go_wp2_with fail
      go_ret
      exact ⟨rfl, (Below.refl _ _).alloc (Nat.le_refl _) _⟩
    · cases x2
      · go_enter Tryz.func57, Tryz.ntmps57
        go_wp2_with fail
        refine (unhide C0 _).mono ?_
        rintro e wz ⟨rfl, rfl⟩
        go_wp2_with fail
        refine (unhide C1 _).mono ?_
        rintro e wz ⟨rfl, rfl⟩
        go_wp2_with fail
        refine (unhide C2 _).mono ?_
        rintro e wz ⟨rfl, rfl⟩
        go_wp2_with fail
        go_ret
        exact ⟨rfl, (Below.refl _ _).alloc (Nat.le_refl _) _⟩
      · go_enter Tryz.func57, Tryz.ntmps57
        go_wp2_with fail
        refine (unhide C0 _).mono ?_
        rintro e wz ⟨rfl, rfl⟩
        go_wp2_with fail
        refine (unhide C1 _).mono ?_
        rintro e wz ⟨rfl, rfl⟩
        go_wp2_with fail
        refine (unhide C2 _).mono ?_
        rintro e wz ⟨rfl, rfl⟩
        go_wp2_with fail
        go_ret
        exact ⟨rfl, (Below.refl _ _).alloc (Nat.le_refl _) _⟩
theorem hasI11 (t : Int × Int × Int) (k : Int) (w : World) :
    Calls Tryz.prog 78 #[.agg #[.int .i64 t.1, .int .i64 t.2.1, .int .i64 t.2.2], .int .i64 k] w fun e w' => e = .returned (.bool (hsB k t)) ∧ Below w.heap.size w w' := by
  unfold hsB
  cases x0 : (k == t.1)
  · cases x1 : (k == t.2.1)
    · cases x2 : (k == t.2.2)
      · go_enter Tryz.func78, Tryz.ntmps78
        go_wp2_with fail
        go_ret
        exact ⟨rfl, (Below.refl _ _).alloc (Nat.le_refl _) _⟩
      · go_enter Tryz.func78, Tryz.ntmps78
        go_wp2_with fail
        go_ret
        exact ⟨rfl, (Below.refl _ _).alloc (Nat.le_refl _) _⟩
    · go_enter Tryz.func78, Tryz.ntmps78
      go_wp2_with fail
      go_ret
      exact ⟨rfl, (Below.refl _ _).alloc (Nat.le_refl _) _⟩
  · go_enter Tryz.func78, Tryz.ntmps78
    go_wp2_with fail
    go_ret
    exact ⟨rfl, (Below.refl _ _).alloc (Nat.le_refl _) _⟩
def seB (l : List (Int × Int)) (g : Int) (t : Int × Int × Int) : Bool := wayB l && cnB l.length g && trB l.length t
def seV (l : List (Int × Int)) (g : Int) (t : Int × Int × Int) : Bool := seB l g t && hsB g t
end Go.Proofs.YtomekmhonfofkaaGreat
namespace Go.Proofs.YtomekmhonfofkaaGreat
open Go.RowKit Go.ChangeMaps
set_option linter.unusedVariables false
set_option maxRecDepth 100000
set_option linter.unusedSimpArgs false

/-- The map of the corners left lies at B. -/
structure MpC (w : World) (B : Nat) (l : List (Int × Int)) (L : List Nat) (clock : Nat) : Prop where
  at_ : w.heap[B]? = some (.map (mpL l L).toArray clock)
  lt : B < w.heap.size
  up : L.Pairwise (· < ·)
  clk : ∀ k ∈ L, k < clock
  top : ∀ k ∈ L, k < l.length
  n12 : l.length ≤ 12
  near : ∀ p ∈ l, Near p
theorem MpC.later {w w' : World} {B : Nat} {l : List (Int × Int)} {L : List Nat} {clock : Nat} (h : MpC w B l L clock) (hb : Below w.heap.size w w') : MpC w' B l L clock :=
  ⟨(hb.block _ h.lt).trans h.at_, Nat.lt_of_lt_of_le h.lt hb.size, h.up, h.clk, h.top, h.n12, h.near⟩
theorem MpC.look {w : World} {B : Nat} {l : List (Int × Int)} {L : List Nat} {clock : Nat} (h : MpC w B l L clock) {k : Nat} (hk : k ∈ L) :
    (Instr.lookup 50 (.map (some B)) (.int .i64 (k : Int)) false).run Tryz.prog w = .ok (.agg #[.int .i64 (l.getD k (0, 0)).1, .int .i64 (l.getD k (0, 0)).2]) w :=
  look11 h.at_ (fun k hk => by have := h.top k hk; have := h.n12; omega) hk
theorem MpC.nr {w : World} {B : Nat} {l : List (Int × Int)} {L : List Nat} {clock : Nat} (h : MpC w B l L clock) {k : Nat} (hk : k ∈ L) : Near (l.getD k (0, 0)) := near_at h.near (h.top k hk)
set_option maxHeartbeats 4000000 in
theorem turnAtI (B clock : Nat) (l : List (Int × Int)) (L : List Nat) (a b c : Nat) (w : World) (h : MpC w B l L clock) (ha : a ∈ L) (hb : b ∈ L) (hc : c ∈ L) :
    Calls Tryz.prog 53 #[.map (some B), .agg #[.int .i64 (a : Int), .int .i64 (b : Int), .int .i64 (c : Int)]] w fun e w' => e = .returned (.int .i64 (sgZ (crs (l.getD a (0, 0)) (l.getD b (0, 0)) (l.getD c (0, 0))))) ∧ Below w.heap.size w w' := by
  have CT := hide (fun w => turnI (l.getD a (0, 0)) (l.getD b (0, 0)) (l.getD c (0, 0)) w (h.nr ha) (h.nr hb) (h.nr hc))
  have al : Below w.heap.size w (w.alloc (.cells #[.int .i64 (a : Int), .int .i64 (b : Int), .int .i64 (c : Int)] 40)) := (Below.refl _ _).alloc (Nat.le_refl _) _
  have h1 := h.later al
  have la := h1.look ha
  have lb := h1.look hb
  have lc := h1.look hc
  have AL := hide al
  clear al h1 h ha hb hc
  generalize l.getD a (0, 0) = pa at *
  generalize l.getD b (0, 0) = pb at *
  generalize l.getD c (0, 0) = pc at *
  go_enter Tryz.func53, Tryz.ntmps53
  go_wp2_with fail
  refine (unhide CT _).mono ?_
  rintro e w1 ⟨rfl, hb⟩
  go_wp2
  go_ret
  exact ⟨rfl, below_on (unhide AL) hb⟩
set_option maxHeartbeats 8000000 in
theorem otherI (B clock : Nat) (l : List (Int × Int)) (L : List Nat) (a b c : Nat) (ai : Option Addr) (d : Nat) (w : World) (h : MpC w B l L clock) (ha : a ∈ L) (hb : b ∈ L) (hc : c ∈ L) (ht : sgZ (crs (l.getD a (0, 0)) (l.getD b (0, 0)) (l.getD c (0, 0))) ≠ 0) (hs : Sl w ai (cI L)) :
    Calls Tryz.prog 54 #[.map (some B), .agg #[.int .i64 (a : Int), .int .i64 (b : Int), .int .i64 (c : Int)], .slice ai L.length d] w fun e w' => e = .returned (.bool (!L.all (okE l a b c))) ∧ Below w.heap.size w w' := by
  have CH := hide (fun (k : Nat) w => hasI11 ((a : Int), (b : Int), (c : Int)) (k : Int) w)
  have CI := hide (fun (k : Nat) (hk : k ∈ L) w => inI11 (l.getD a (0, 0)) (l.getD b (0, 0)) (l.getD c (0, 0)) (l.getD k (0, 0)) w (h.nr ha) (h.nr hb) (h.nr hc) (h.nr hk) ht)
  have OK : Hid (∀ k : Nat, okE l a b c k = (hsB (k : Int) ((a : Int), (b : Int), (c : Int)) || !inT (l.getD a (0, 0)) (l.getD b (0, 0)) (l.getD c (0, 0)) (l.getD k (0, 0)))) := hide (fun k => by
    have e : ∀ x : Nat, (k == x) = ((k : Int) == (x : Int)) := fun x => by rw [Bool.eq_iff_iff]; simp; omega
    unfold okE hsB
    rw [e, e, e])
  have al : Below w.heap.size w (w.alloc (.cells #[.int .i64 (a : Int), .int .i64 (b : Int), .int .i64 (c : Int)] 40)) := (Below.refl _ _).alloc (Nat.le_refl _) _
  have n12 := h.n12
  have L12 : L.length ≤ 12 := by
    have nd : L.Nodup := h.up.imp (fun h => by omega)
    have := subl11 nd (List.nodup_range (n := l.length)) (fun k hk => List.mem_range.2 (h.top k hk))
    simp at this; omega
  have H1 := hide (h.later al)
  have S1 := hide (hs.later (Nat.le_refl _) al)
  have AL := hide al
  have BX : Hid (∀ w2, Below (w.heap.size + 1) (w.alloc (.cells #[.int .i64 (a : Int), .int .i64 (b : Int), .int .i64 (c : Int)] 40)) w2 → w2.cell? ⟨w.heap.size, 0, none⟩ = some (.int .i64 (a : Int)) ∧ w2.cell? ⟨w.heap.size, 1, none⟩ = some (.int .i64 (b : Int)) ∧ w2.cell? ⟨w.heap.size, 2, none⟩ = some (.int .i64 (c : Int))) := hide (fun w2 hb2 => by
    refine ⟨(hb2.cell (p := ⟨w.heap.size, 0, none⟩) (by simp)).trans ?_, (hb2.cell (p := ⟨w.heap.size, 1, none⟩) (by simp)).trans ?_, (hb2.cell (p := ⟨w.heap.size, 2, none⟩) (by simp)).trans ?_⟩ <;> simp [go_sem])
  have sz : (w.alloc (.cells #[.int .i64 (a : Int), .int .i64 (b : Int), .int .i64 (c : Int)] 40)).heap.size = w.heap.size + 1 := by simp
  have AM := hide (show a ∈ L ∧ b ∈ L ∧ c ∈ L from ⟨ha, hb, hc⟩)
  clear al h hs ha hb hc ht
  generalize hok : okE l a b c = ok at *
  clear hok
  go_enter Tryz.func54, Tryz.ntmps54
  go_wp2
  generalize hw1 : w.alloc (.cells #[.int .i64 (a : Int), .int .i64 (b : Int), .int .i64 (c : Int)] 40) = w1 at *
  clear hw1
  have SZ := hide sz
  clear sz
  go_loopw [11] (fun iv wr => ∃ i : Nat, i ≤ L.length ∧ iv = .int .i64 i ∧ Hid ((L.take i).all ok = true) ∧ Hid (Below w1.heap.size w1 wr)) (fun iv _ => L.length - (intOf iv).toNat)
  case atStart => exact ⟨0, Nat.zero_le _, rfl, hide (by simp), hide (Below.refl _ _)⟩
  case round =>
    obtain ⟨i, hi, rfl, HA, HB⟩ := hrel
    by_cases hlt : i < L.length
    · have hlt' : (i : Int) < (L.length : Int) := by omega
      have kL := mem_at hlt
      have tk : L.take (i + 1) = L.take i ++ [L.getD i 0] := by rw [List.getD_eq_getElem?_getD, List.getElem?_eq_getElem hlt, Option.getD_some]; exact (List.take_append_getElem hlt).symm
      obtain ⟨q, off, rfl, c0⟩ := ((unhide S1).later (Nat.le_refl _) (unhide HB)).at (k := i) (by rw [cI_len]; exact hlt)
      rw [cI_at] at c0
      have OKk := hide (unhide OK (L.getD i 0))
      have bx := unhide BX wr (by rw [← unhide SZ]; exact unhide HB)
      obtain ⟨b0, b1, b2⟩ := bx
      have LK : Hid (∀ w', Below wr.heap.size wr w' → MpC w' B l L clock) := hide (fun w' hb' => ((unhide H1).later (unhide HB)).later hb')
      have CIk := hide (unhide CI _ kL)
      have CHk := hide (unhide CH (L.getD i 0))
      have KL := hide kL
      have TK := hide tk
      clear tk kL
      generalize L.getD i 0 = k at *
      cases hh : hsB (k : Int) ((a : Int), (b : Int), (c : Int))
      · rw [hh] at CHk OKk
        cases hv : inT (l.getD a (0, 0)) (l.getD b (0, 0)) (l.getD c (0, 0)) (l.getD k (0, 0))
        · rw [hv] at CIk OKk
          have AN : Hid ((L.take (i + 1)).all ok = true) := hide (by rw [unhide TK, List.all_append, unhide HA]; simp [unhide OKk])
          clear HA OKk hh hv
          go_wp2_with fail
          refine (unhide CHk _).mono ?_
          rintro e w2 ⟨rfl, hb⟩
          have m2 := unhide LK w2 hb
          have la := m2.look (unhide AM).1
          have lb := m2.look (unhide AM).2.1
          have lc := m2.look (unhide AM).2.2
          have lk := m2.look (unhide KL)
          replace b0 := (hb.cell (p := ⟨w.heap.size, 0, none⟩) (World.block_lt_of_cell? _ _ b0)).trans b0
          replace b1 := (hb.cell (p := ⟨w.heap.size, 1, none⟩) (World.block_lt_of_cell? _ _ b1)).trans b1
          replace b2 := (hb.cell (p := ⟨w.heap.size, 2, none⟩) (World.block_lt_of_cell? _ _ b2)).trans b2
          replace HB := hide (below_on (unhide HB) hb)
          clear hb m2
          generalize l.getD a (0, 0) = pa at *
          generalize l.getD b (0, 0) = pb at *
          generalize l.getD c (0, 0) = pc at *
          generalize l.getD k (0, 0) = pk at *
          go_wp2_with fail
          refine (unhide CIk _).mono ?_
          rintro e w3 ⟨rfl, hb⟩
          replace HB := hide (below_on (unhide HB) hb)
          clear hb la lb lc lk b0 b1 b2
          go_wp2
          go_roundw
          case rel => exact ⟨i + 1, by omega, by go_num, AN, HB⟩
          case measure => simp [intOf]; omega
        · rw [hv] at CIk OKk
          have AN : Hid (L.all ok = false) := hide (by
            rw [List.all_eq_false]
            exact ⟨k, unhide KL, by rw [unhide OKk]; simp⟩)
          clear HA OKk hh hv
          go_wp2_with fail
          refine (unhide CHk _).mono ?_
          rintro e w2 ⟨rfl, hb⟩
          have m2 := unhide LK w2 hb
          have la := m2.look (unhide AM).1
          have lb := m2.look (unhide AM).2.1
          have lc := m2.look (unhide AM).2.2
          have lk := m2.look (unhide KL)
          replace b0 := (hb.cell (p := ⟨w.heap.size, 0, none⟩) (World.block_lt_of_cell? _ _ b0)).trans b0
          replace b1 := (hb.cell (p := ⟨w.heap.size, 1, none⟩) (World.block_lt_of_cell? _ _ b1)).trans b1
          replace b2 := (hb.cell (p := ⟨w.heap.size, 2, none⟩) (World.block_lt_of_cell? _ _ b2)).trans b2
          replace HB := hide (below_on (unhide HB) hb)
          clear hb m2
          generalize l.getD a (0, 0) = pa at *
          generalize l.getD b (0, 0) = pb at *
          generalize l.getD c (0, 0) = pc at *
          generalize l.getD k (0, 0) = pk at *
          go_wp2_with fail
          refine (unhide CIk _).mono ?_
          rintro e w3 ⟨rfl, hb⟩
          replace HB := hide (below_on (unhide HB) hb)
          clear hb la lb lc lk b0 b1 b2
          go_wp2
          go_ret
          exact ⟨by rw [unhide AN]; rfl, below_on (unhide AL) (unhide HB)⟩
      · rw [hh] at CHk OKk
        have AN : Hid ((L.take (i + 1)).all ok = true) := hide (by rw [unhide TK, List.all_append, unhide HA]; simp [unhide OKk])
        clear HA OKk hh
        go_wp2_with fail
        refine (unhide CHk _).mono ?_
        rintro e w2 ⟨rfl, hb⟩
        replace HB := hide (below_on (unhide HB) hb)
        clear hb b0 b1 b2
        go_wp2
        go_roundw
        case rel => exact ⟨i + 1, by omega, by go_num, AN, HB⟩
        case measure => simp [intOf]; omega
    · obtain rfl : i = L.length := by omega
      have E : Hid (L.all ok = true) := hide (by have := unhide HA; rwa [List.take_length] at this)
      go_wp2
      go_ret
      exact ⟨by rw [unhide E]; rfl, below_on (unhide AL) (unhide HB)⟩
end Go.Proofs.YtomekmhonfofkaaGreat
namespace Go.Proofs.YtomekmhonfofkaaGreat
open Go.RowKit
set_option linter.unusedVariables false
set_option maxRecDepth 100000
set_option linter.unusedSimpArgs false

def earL (l : List (Int × Int)) (L : List Nat) (t : Int) : List Nat := (List.range L.length).filter (fun i => earB l L i t)
/-- The ears of a good simple way. -/
noncomputable def eaV (l : List (Int × Int)) : List Int := if ipB l then cI (earL l (List.range l.length) (sgZ (arS l l.length))) else []
theorem filt_yes {f : Nat → Bool} {i : Nat} (h : f i = true) : cI ((List.range (i + 1)).filter f) = cI ((List.range i).filter f) ++ [(i : Int)] := by
  rw [List.range_succ, List.filter_append]
  simp [cI, h]
theorem filt_no {f : Nat → Bool} {i : Nat} (h : f i = false) : (List.range (i + 1)).filter f = (List.range i).filter f := by
  rw [List.range_succ, List.filter_append]
  simp [h]
theorem filt_len {f : Nat → Bool} (i : Nat) : (cI ((List.range i).filter f)).length ≤ i := by
  rw [cI_len]
  exact Nat.le_trans (List.length_filter_le _ _) (by simp)
theorem up_cI (n : Nat) : upI n = cI (List.range n) := rfl
set_option maxHeartbeats 8000000 in
theorem EarsOfS (a : Option Addr) (n c : Nat) (l : List (Int × Int)) (w : World) (h : ArP w a n c l) (h1 : n ≤ 1048576) :
    Calls Tryz.prog 8 #[.slice a n c] w fun e w' => ∃ a' n' c', e = .returned (.tuple #[.slice a' n' c', .bool (ipB l)]) ∧ Below w.heap.size w w' ∧ RtI w.heap.size w' a' n' c' (eaV l) ∧ n' ≤ 1048576 := by
  have hn := h.len
  have CG := hide (fun w (k : SlP w a l) => gswS a n c l w k hn h1)
  have HS := hide h.sl
  cases hp : ipB l
  · rw [hp] at CG
    have EV : eaV l = [] := by unfold eaV; rw [hp]; rfl
    rw [EV]
    clear hp h hn EV
    go_enter Tryz.func8, Tryz.ntmps8
    go_wp2_with fail
    refine (unhide CG _ (unhide HS)).mono ?_
    rintro e w1 ⟨rfl, hb⟩
    go_wp2_with fail
    go_ret2
    exact ⟨none, 0, 0, rfl, hb, ⟨rfl, .inl rfl⟩, by omega⟩
  · rw [hp] at CG
    have wp := way_parts (ip_parts hp).1
    have n12 : n ≤ 12 := by omega
    have CA := hide (fun w (k : SlP w a l) => areaS a n c l w k hn n12 wp.2)
    have CE := hide (fun w ai d (k : SlP w a l) (k' : Sl w ai (cI (List.range n))) (i : Nat) (hi : i < n) => earS a ai n c n d l (List.range n) i (sgZ (arS l l.length)) w k hn k' (by simp) hi h1 h1 wp.2 (fun k hk => List.mem_range.1 hk))
    have EV : eaV l = cI ((List.range n).filter (fun i => earB l (List.range n) i (sgZ (arS l l.length)))) := by unfold eaV earL; rw [hp, hn, List.length_range]; rfl
    rw [EV]
    generalize arS l l.length = A at *
    obtain ⟨f, hf⟩ : ∃ f : Nat → Bool, f = fun i => earB l (List.range n) i (sgZ A) := ⟨_, rfl⟩
    have fe : ∀ i, earB l (List.range n) i (sgZ A) = f i := fun i => by rw [hf]
    simp only [fe] at CE
    rw [← hf]
    clear hp h hn wp EV hf fe
    obtain ⟨i0, hi, hz0, hz1, hz2⟩ := info_parts Tryz.info3
    go_enter Tryz.func8, Tryz.ntmps8
    go_wp2_with fail
    refine (unhide CG _ (unhide HS)).mono ?_
    rintro e w1 ⟨rfl, hb⟩
    replace HS := hide ((unhide HS).later hb)
    have HB := hide hb
    clear hb CG
    go_wp2_with fail
    refine (allS a n c _ h1).mono ?_
    rintro e w2 ⟨v4, rfl, hb, rw4⟩
    obtain ⟨ai, d, rfl, sl4⟩ := rw4.sl
    rw [upI_len]
    rw [up_cI] at sl4
    replace HS := hide ((unhide HS).later hb)
    replace HB := hide (below_on (unhide HB) hb)
    have H4 := hide sl4
    clear hb rw4 sl4
    go_wp2_with fail
    go_loopw [5, 14] (fun v iv wr => ∃ i : Nat, i ≤ n ∧ iv = .int .i64 i ∧ Hid (RwI w2.heap.size wr v (cI ((List.range i).filter f))) ∧ Hid (Below w2.heap.size w2 wr)) (fun _ iv _ => n - (intOf iv).toNat)
    case atStart => exact ⟨0, Nat.zero_le _, rfl, hide (RwI.nil _ _), hide (Below.refl _ _)⟩
    case round =>
      obtain ⟨i, hi', rfl, HR, HW⟩ := hrel
      by_cases hlt : i < n
      · have hlt' : (i : Int) < (n : Int) := by omega
        have k1 := (unhide HS).later (unhide HW)
        have k4 := (unhide H4).later (Nat.le_refl _) (unhide HW)
        have K1 := hide k1
        have K4 := hide k4
        clear k1 k4
        go_wp2_with fail
        refine (unhide CA _ (unhide K1)).mono ?_
        rintro e w3 ⟨rfl, hb⟩
        replace K1 := hide ((unhide K1).later hb)
        replace K4 := hide ((unhide K4).later (Nat.le_refl _) hb)
        replace HR := hide ((unhide HR).later hb)
        replace HW := hide (below_on (unhide HW) hb)
        clear hb
        go_wp2_with fail
        refine (signS8 A _).mono ?_
        rintro e w4 ⟨rfl, rfl⟩
        go_wp2_with fail
        refine (unhide CE _ ai d (unhide K1) (unhide K4) i hlt).mono ?_
        rintro e w5 ⟨rfl, hb⟩
        replace HR := hide ((unhide HR).later hb)
        replace HW := hide (below_on (unhide HW) hb)
        clear hb K1 K4
        have LI := filt_len (f := f) i
        cases hfi : f i
        · have RN : Hid (RwI w2.heap.size w5 _ (cI ((List.range (i + 1)).filter f))) := hide (by rw [filt_no hfi]; exact unhide HR)
          clear HR
          go_wp2
          go_roundw
          case rel => exact ⟨i + 1, by omega, by go_num, RN, HW⟩
          case measure => simp [intOf]; omega
        · go_wp2_with (at_builtin; refine wpList_append_own _ rfl (.tmp 24) (.tmp 26) 28 rfl w2.heap.size 3 i0 (.int .i64 0) 1 8 Tryz.underlying28 hi hz0 hz1 hz2 rfl (by decide) _ _ _ rfl ((unhide HR).row.alloc _) ⟨_, 0, none⟩ 1 1 [.int .i64 (i : Int)] rfl rfl (new_cellI _ _) (fun u hu => by simp at hu; subst hu; rfl) (by unfold maxLen; omega) (by omega) (by have := (unhide HW).size; simp; omega) ?_)
          intro v' w6 hown hgr _
          have RN : Hid (RwI w2.heap.size w6 v' (cI ((List.range (i + 1)).filter f))) := hide (by rw [filt_yes hfi]; exact RwI.snoc hown)
          have HWN := hide (owns_belowR (unhide HW) (unhide HW).size (unhide HR).row hgr)
          clear hown hgr HR
          go_wp2
          go_roundw
          case rel => exact ⟨i + 1, by omega, by go_num, RN, HWN⟩
          case measure => simp [intOf]; omega
      · obtain rfl : i = n := by omega
        obtain ⟨a', c', rfl, rt⟩ := (unhide HR).rt
        have R1 := hide rt
        have LI := filt_len (f := f) i
        clear rt HR
        go_wp2
        go_ret2
        exact ⟨a', _, c', rfl, below_on (unhide HB) (unhide HW), (unhide R1).mono (unhide HB).size, by omega⟩
end Go.Proofs.YtomekmhonfofkaaGreat
namespace Go.Proofs.YtomekmhonfofkaaGreat
open Go.RowKit Go.ChangeMaps
set_option linter.unusedVariables false
set_option maxRecDepth 100000
set_option linter.unusedSimpArgs false

/-- An ear's triangle. -/
def triE (L : List Nat) (i : Nat) : Int × Int × Int := ((bef L i : Nat), (L.getD i 0 : Nat), (aft L i : Nat))
def earT (l : List (Int × Int)) (L : List Nat) (t : Int) : List (Int × Int × Int) := (earL l L t).map (triE L)
theorem emptyT (w : World) : RwT w.heap.size (w.alloc (.cells #[] 40)) (.slice (some ⟨w.heap.size, 0, none⟩) 0 0) [] := by
  refine ⟨⟨rfl, .inr ⟨w.heap.size, 0, #[], rfl, Nat.le_refl _, ?_, by simp, by simp, by simp, rfl⟩⟩⟩
  show (w.heap.push _)[w.heap.size]? = _
  simp
theorem filtT_yes {f : Nat → Bool} {g : Nat → Int × Int × Int} {i : Nat} (h : f i = true) : ((List.range (i + 1)).filter f).map g = ((List.range i).filter f).map g ++ [g i] := by
  rw [List.range_succ, List.filter_append]
  simp [h]
theorem filtT_len {f : Nat → Bool} {g : Nat → Int × Int × Int} (i : Nat) : (((List.range i).filter f).map g).length ≤ i := by
  rw [List.length_map]
  exact Nat.le_trans (List.length_filter_le _ _) (by simp)
set_option maxHeartbeats 8000000 in
theorem earsI (B clock : Nat) (l : List (Int × Int)) (L : List Nat) (t : Int) (w : World) (h : MpC w B l L clock) (h3 : 3 ≤ L.length) (ht : t ≠ 0) :
    Calls Tryz.prog 25 #[.map (some B), .int .i64 t] w fun e w' => ∃ v, e = .returned v ∧ Below w.heap.size w w' ∧ RwT w.heap.size w' v (earT l L t) := by
  obtain ⟨i0, hi0, hz0, hz1, hz2⟩ := info_parts infoTri
  have L12 : L.length ≤ 12 := by
    have nd : L.Nodup := h.up.imp (fun h => by omega)
    have := subl11 nd (List.nodup_range (n := l.length)) (fun k hk => List.mem_range.2 (h.top k hk))
    have := h.n12
    simp at *; omega
  have C1 := hide (orderI B clock l L w h.at_ h.up h.clk (by omega) L12)
  have EV : earT l L t = ((List.range L.length).filter (fun i => earB l L i t)).map (triE L) := rfl
  rw [EV]
  obtain ⟨n, hn⟩ : ∃ n, n = L.length := ⟨_, rfl⟩
  have HM := hide h
  clear h EV
  go_enter Tryz.func25, Tryz.ntmps25
  go_wp2_with fail
  refine (unhide C1).mono ?_
  rintro e w1 ⟨v5, rfl, hb, rw5⟩
  obtain ⟨ai, d, rfl, sl5⟩ := rw5.sl
  rw [cI_len]
  replace HM := hide ((unhide HM).later hb)
  have HB := hide hb
  have S5 := hide sl5
  clear hb rw5 sl5 C1
  rw [← hn]
  have n3 : 3 ≤ n := by omega
  have n12 : n ≤ 12 := by omega
  have HN := hide hn
  clear hn h3 L12
  have E2 := hide (emptyT w1)
  go_wp2
  go_loopw [7, 18] (fun v iv wr => ∃ i : Nat, i ≤ n ∧ iv = .int .i64 i ∧ Hid (RwT w1.heap.size wr v (((List.range i).filter (fun i => earB l L i t)).map (triE L))) ∧ Hid (Below w1.heap.size w1 wr)) (fun _ iv _ => n - (intOf iv).toNat)
  case atStart => exact ⟨0, Nat.zero_le _, rfl, E2, hide ((Below.refl _ _).alloc (Nat.le_refl _) _)⟩
  case round =>
    obtain ⟨i, hi, rfl, HR, HW⟩ := hrel
    by_cases hlt : i < n
    · have hn := unhide HN
      have hlt' : (i : Int) < (n : Int) := by omega
      have hlL : i < L.length := by omega
      obtain ⟨j, hj⟩ : ∃ j, j = (i + n - 1) % n := ⟨_, rfl⟩
      obtain ⟨k, hk⟩ : ∃ k, k = (i + 1) % n := ⟨_, rfl⟩
      have jl : j < n := by rw [hj]; exact Nat.mod_lt _ (by omega)
      have kl : k < n := by rw [hk]; exact Nat.mod_lt _ (by omega)
      have SW := (unhide S5).later (Nat.le_refl _) (unhide HW)
      rcases SW with e | ⟨q, off, rfl, hq, hc⟩
      · have := cI_len L; rw [e] at this; simp at this; omega
      have c0 := hc i (by rw [cI_len]; omega)
      have c1 := hc j (by rw [cI_len]; omega)
      have c2 := hc k (by rw [cI_len]; omega)
      rw [cI_at] at c0 c1 c2
      have ex : L.getD j 0 = bef L i := by unfold bef; rw [← hn, hj]
      have ez : L.getD k 0 = aft L i := by unfold aft; rw [← hn, hk]
      rw [ex] at c1
      rw [ez] at c2
      have mx := bef_mem hlL
      have my := mem_at hlL
      have mz := aft_mem hlL
      have HMr := (unhide HM).later (unhide HW)
      have CT := hide (fun w' (k : MpC w' B l L clock) => turnAtI B clock l L (bef L i) (L.getD i 0) (aft L i) w' k mx my mz)
      have CO := hide (fun w' (k : MpC w' B l L clock) (s : Sl w' (some ⟨q, off, none⟩) (cI L)) hne => otherI B clock l L (bef L i) (L.getD i 0) (aft L i) (some ⟨q, off, none⟩) d w' k mx my mz hne s)
      have FI : Hid (earB l L i t = ((sgZ (crs (l.getD (bef L i) (0, 0)) (l.getD (L.getD i 0) (0, 0)) (l.getD (aft L i) (0, 0))) == t) && L.all (okE l (bef L i) (L.getD i 0) (aft L i)))) := hide rfl
      have TE : Hid (triE L i = ((bef L i : Int), (L.getD i 0 : Int), (aft L i : Int))) := hide rfl
      have SS := hide ((unhide S5).later (Nat.le_refl _) (unhide HW))
      have MM := hide HMr
      clear HMr hc ex ez mx my mz
      rw [← hn] at CO
      generalize L.all (okE l (bef L i) (L.getD i 0) (aft L i)) = al at *
      generalize sgZ (crs (l.getD (bef L i) (0, 0)) (l.getD (L.getD i 0) (0, 0)) (l.getD (aft L i) (0, 0))) = sg at *
      generalize bef L i = x at *
      generalize L.getD i 0 = y at *
      generalize aft L i = z at *
      have d1 : IntKind.i64.wrap ((i : Int) + (n : Int)) = (i : Int) + (n : Int) := by rw [IntKind.wrap_i64]; omega
      have d2 : IntKind.i64.wrap ((i : Int) + (n : Int) - 1) = (i : Int) + (n : Int) - 1 := by rw [IntKind.wrap_i64]; omega
      have d3 : IntKind.i64.wrap ((i : Int) + 1) = (i : Int) + 1 := by rw [IntKind.wrap_i64]; omega
      have j1 : ((i : Int) + (n : Int) - 1).tmod (n : Int) = (j : Int) := by rw [hj, show (i : Int) + (n : Int) - 1 = ((i + n - 1 : Nat) : Int) by omega]; rfl
      have j2 : ((i : Int) + (n : Int) - 1) % (n : Int) = (j : Int) := by rw [hj, show (i : Int) + (n : Int) - 1 = ((i + n - 1 : Nat) : Int) by omega]; rfl
      have k1 : ((i : Int) + 1).tmod (n : Int) = (k : Int) := by rw [hk, ← Int.natCast_one, ← Int.natCast_add]; rfl
      have k2 : ((i : Int) + 1) % (n : Int) = (k : Int) := by rw [hk, ← Int.natCast_one, ← Int.natCast_add]; rfl
      have wj : IntKind.i64.wrap (j : Int) = (j : Int) := by rw [IntKind.wrap_i64]; omega
      have wk : IntKind.i64.wrap (k : Int) = (k : Int) := by rw [IntKind.wrap_i64]; omega
      have jl' : (j : Int) < (n : Int) := by omega
      have kl' : (k : Int) < (n : Int) := by omega
      have j0 : (0 : Int) ≤ (j : Int) := by omega
      have k0 : (0 : Int) ≤ (k : Int) := by omega
      have nz2 : (n : Int) ≠ 0 := by omega
      have nz3 : ¬ (n = 0) := by omega
      have nz4 : ¬ ((n : Int) = -1) := by omega
      clear hj hk hn hlL
      go_upto_region 7 with fail
      go_region
      have bl : Below wr.heap.size wr ((wr.alloc (.cells #[.int .i64 (x : Int), .int .i64 (y : Int), .int .i64 (z : Int)] 40)).drew) := ((Below.refl _ _).alloc (Nat.le_refl _) _).drew
      have t0 : ((wr.alloc (.cells #[.int .i64 (x : Int), .int .i64 (y : Int), .int .i64 (z : Int)] 40)).drew).cell? ⟨wr.heap.size, 0, none⟩ = some (.int .i64 (x : Int)) := by simp [go_sem]
      have t1 : ((wr.alloc (.cells #[.int .i64 (x : Int), .int .i64 (y : Int), .int .i64 (z : Int)] 40)).drew).cell? ⟨wr.heap.size, 1, none⟩ = some (.int .i64 (y : Int)) := by simp [go_sem]
      have t2 : ((wr.alloc (.cells #[.int .i64 (x : Int), .int .i64 (y : Int), .int .i64 (z : Int)] 40)).drew).cell? ⟨wr.heap.size, 2, none⟩ = some (.int .i64 (z : Int)) := by simp [go_sem]
      replace MM := hide ((unhide MM).later bl)
      replace SS := hide ((unhide SS).later (Nat.le_refl _) bl)
      replace HR := hide ((unhide HR).later bl)
      replace HW := hide (below_on (unhide HW) bl)
      clear bl c0 c1 c2 d1 d2 d3 j1 j2 k1 k2 wj wk jl' kl' j0 k0 nz2 nz3 nz4 hq
      generalize ((wr.alloc (.cells #[.int .i64 (x : Int), .int .i64 (y : Int), .int .i64 (z : Int)] 40)).drew) = w4 at *
      generalize wr.heap.size = G at *
      have LF := filtT_len (f := fun i => earB l L i t) (g := triE L) i
      cases hs : (sg == t)
      · have FN : Hid (earB l L i t = false) := hide (by rw [unhide FI, hs]; rfl)
        have FE : Hid ((List.range (i + 1)).filter (fun i => earB l L i t) = (List.range i).filter (fun i => earB l L i t)) := hide (filt_no (f := fun i => earB l L i t) (unhide FN))
        clear FI FN
        · skip
          go_wp2_with fail
          refine (unhide CT _ (unhide MM)).mono ?_
          rintro e w5 ⟨rfl, hb⟩
          replace t0 := (hb.cell (p := ⟨G, 0, none⟩) (World.block_lt_of_cell? _ _ t0)).trans t0
          replace t1 := (hb.cell (p := ⟨G, 1, none⟩) (World.block_lt_of_cell? _ _ t1)).trans t1
          replace t2 := (hb.cell (p := ⟨G, 2, none⟩) (World.block_lt_of_cell? _ _ t2)).trans t2
          replace MM := hide ((unhide MM).later hb)
          replace SS := hide ((unhide SS).later (Nat.le_refl _) hb)
          replace HR := hide ((unhide HR).later hb)
          replace HW := hide (below_on (unhide HW) hb)
          clear hb
          clear MM SS t0 t1 t2
          have RN := HR
          rw [← unhide FE] at RN
          go_wp2
          go_roundw
          case rel => exact ⟨i + 1, by omega, by go_num, RN, HW⟩
          case measure => simp [intOf]; omega
      · have st : sg = t := by simpa using hs
        have NE : Hid (sg ≠ 0) := hide (by rw [st]; exact ht)
        clear st
        cases al
        · have FN : Hid (earB l L i t = false) := hide (by rw [unhide FI, hs]; rfl)
          have FE : Hid ((List.range (i + 1)).filter (fun i => earB l L i t) = (List.range i).filter (fun i => earB l L i t)) := hide (filt_no (f := fun i => earB l L i t) (unhide FN))
          clear FI FN
          go_wp2_with fail
          refine (unhide CT _ (unhide MM)).mono ?_
          rintro e w5 ⟨rfl, hb⟩
          replace t0 := (hb.cell (p := ⟨G, 0, none⟩) (World.block_lt_of_cell? _ _ t0)).trans t0
          replace t1 := (hb.cell (p := ⟨G, 1, none⟩) (World.block_lt_of_cell? _ _ t1)).trans t1
          replace t2 := (hb.cell (p := ⟨G, 2, none⟩) (World.block_lt_of_cell? _ _ t2)).trans t2
          replace MM := hide ((unhide MM).later hb)
          replace SS := hide ((unhide SS).later (Nat.le_refl _) hb)
          replace HR := hide ((unhide HR).later hb)
          replace HW := hide (below_on (unhide HW) hb)
          clear hb
          go_wp2_with fail
          refine (unhide CO _ (unhide MM) (unhide SS) (unhide NE)).mono ?_
          rintro e w6 ⟨rfl, hb⟩
          replace t0 := (hb.cell (p := ⟨G, 0, none⟩) (World.block_lt_of_cell? _ _ t0)).trans t0
          replace t1 := (hb.cell (p := ⟨G, 1, none⟩) (World.block_lt_of_cell? _ _ t1)).trans t1
          replace t2 := (hb.cell (p := ⟨G, 2, none⟩) (World.block_lt_of_cell? _ _ t2)).trans t2
          replace HR := hide ((unhide HR).later hb)
          replace HW := hide (below_on (unhide HW) hb)
          clear hb MM SS
          clear t0 t1 t2
          have RN := HR
          rw [← unhide FE] at RN
          go_wp2
          go_roundw
          case rel => exact ⟨i + 1, by omega, by go_num, RN, HW⟩
          case measure => simp [intOf]; omega
        · have FN : Hid (earB l L i t = true) := hide (by rw [unhide FI, hs]; rfl)
          have FE : Hid (((List.range (i + 1)).filter (fun i => earB l L i t)).map (triE L) = ((List.range i).filter (fun i => earB l L i t)).map (triE L) ++ [triE L i]) := hide (filtT_yes (f := fun i => earB l L i t) (unhide FN))
          rw [unhide TE] at FE
          clear FI FN
          go_wp2_with fail
          refine (unhide CT _ (unhide MM)).mono ?_
          rintro e w5 ⟨rfl, hb⟩
          replace t0 := (hb.cell (p := ⟨G, 0, none⟩) (World.block_lt_of_cell? _ _ t0)).trans t0
          replace t1 := (hb.cell (p := ⟨G, 1, none⟩) (World.block_lt_of_cell? _ _ t1)).trans t1
          replace t2 := (hb.cell (p := ⟨G, 2, none⟩) (World.block_lt_of_cell? _ _ t2)).trans t2
          replace MM := hide ((unhide MM).later hb)
          replace SS := hide ((unhide SS).later (Nat.le_refl _) hb)
          replace HR := hide ((unhide HR).later hb)
          replace HW := hide (below_on (unhide HW) hb)
          clear hb
          go_wp2_with fail
          refine (unhide CO _ (unhide MM) (unhide SS) (unhide NE)).mono ?_
          rintro e w6 ⟨rfl, hb⟩
          replace t0 := (hb.cell (p := ⟨G, 0, none⟩) (World.block_lt_of_cell? _ _ t0)).trans t0
          replace t1 := (hb.cell (p := ⟨G, 1, none⟩) (World.block_lt_of_cell? _ _ t1)).trans t1
          replace t2 := (hb.cell (p := ⟨G, 2, none⟩) (World.block_lt_of_cell? _ _ t2)).trans t2
          replace HR := hide ((unhide HR).later hb)
          replace HW := hide (below_on (unhide HW) hb)
          clear hb MM SS
          go_wp2_with (at_builtin; refine wpList_append_own _ rfl (.tmp 53) (.tmp 55) 25 rfl w1.heap.size 40 i0 (.agg #[.int .i64 0, .int .i64 0, .int .i64 0]) 3 24 Tryz.underlying25 hi0 hz0 hz1 hz2 rfl (by decide) _ _ _ rfl ((unhide HR).row.alloc _) ⟨_, 0, none⟩ 1 1 [.int .i64 (x : Int), .int .i64 (y : Int), .int .i64 (z : Int)] rfl rfl (new_cellT _ _ _ _) (fun u hu => by simp at hu; rcases hu with rfl | rfl | rfl <;> rfl) (by unfold maxLen; omega) (by omega) (by have := (unhide HW).size; simp; omega) ?_)
          intro v' w7 hown hgr _
          have RN : Hid (RwT w1.heap.size w7 v' (((List.range (i + 1)).filter (fun i => earB l L i t)).map (triE L))) := hide (by rw [unhide FE]; refine RwT.snoc ?_; rw [List.length_map]; exact hown)
          replace HW := hide (owns_belowR (unhide HW) (unhide HW).size (unhide HR).row hgr)
          clear hown hgr HR t0 t1 t2
          go_wp2
          go_roundw
          case rel => exact ⟨i + 1, by omega, by go_num, RN, HW⟩
          case measure => simp [intOf]; omega
    · obtain rfl : i = n := by omega
      have RE := hide ((unhide HR).mono (unhide HB).size)
      clear HR
      go_wp2
      go_ret
      exact ⟨_, rfl, below_on (unhide HB) (unhide HW), by rw [← unhide HN]; exact unhide RE⟩
end Go.Proofs.YtomekmhonfofkaaGreat
namespace Go.Proofs.YtomekmhonfofkaaGreat
open Go.RowKit Go.ChangeMaps
set_option linter.unusedVariables false
set_option maxRecDepth 100000
set_option linter.unusedSimpArgs false

/-- The first ear, or the first corner. -/
def fstE (l : List (Int × Int)) (L : List Nat) (t : Int) : Nat := ((List.range L.length).find? (fun i => earB l L i t)).getD 0
/-- The triangles, ears cut off one by one. -/
def cutL (l : List (Int × Int)) (t : Int) : Nat → List Nat → List (Int × Int × Int)
  | 0, L => [(((L.getD 0 0 : Nat) : Int), ((L.getD 1 0 : Nat) : Int), ((L.getD 2 0 : Nat) : Int))]
  | k + 1, L => triE L (fstE l L t) :: cutL l t k (L.eraseIdx (fstE l L t))
theorem cutL_len (l : List (Int × Int)) (t : Int) : ∀ k L, (cutL l t k L).length = k + 1
  | 0, L => rfl
  | k + 1, L => by rw [cutL, List.length_cons, cutL_len l t k]
theorem find_lt {f : Nat → Bool} {n m : Nat} (hm : m ≤ n) (h : 0 < n) : (((List.range n).drop m).find? f).getD 0 < n := by
  cases e : ((List.range n).drop m).find? f with
  | none => exact h
  | some x =>
    have := List.mem_of_find?_eq_some e
    exact List.mem_range.1 (List.mem_of_mem_drop this)
theorem fstE_lt {l : List (Int × Int)} {L : List Nat} {t : Int} (h : 0 < L.length) : fstE l L t < L.length := by
  have := find_lt (f := fun i => earB l L i t) (Nat.zero_le L.length) h
  exact this
theorem drop_range {n m : Nat} (h : m < n) : (List.range n).drop m = m :: (List.range n).drop (m + 1) := by
  rw [List.drop_eq_getElem_cons (by simpa using h)]
  simp
theorem find_yes {f : Nat → Bool} {n m : Nat} (h : m < n) (hf : f m = true) : (((List.range n).drop m).find? f).getD 0 = m := by
  rw [drop_range h, List.find?_cons_of_pos hf]
  rfl
theorem find_no {f : Nat → Bool} {n m : Nat} (h : m < n) (hf : f m = false) : (((List.range n).drop m).find? f).getD 0 = (((List.range n).drop (m + 1)).find? f).getD 0 := by
  rw [drop_range h, List.find?_cons_of_neg (by rw [hf]; simp)]
theorem cI_take (L : List Nat) (k : Nat) : cI (L.take k) = (cI L).take k := by simp [cI, List.map_take]
theorem cI_drop (L : List Nat) (k : Nat) : cI (L.drop k) = (cI L).drop k := by simp [cI, List.map_drop]
theorem cI_app (L M : List Nat) : cI (L ++ M) = cI L ++ cI M := by simp [cI]
theorem er_two (L : List Nat) (e : Nat) : cI (L.eraseIdx e) = (cI L).take e ++ (cI L).drop (e + 1) := by rw [List.eraseIdx_eq_take_drop_succ, cI_app, cI_take, cI_drop]
/-- Cells of a part of a row. -/
theorem RwI.news {B g n c : Nat} {w : World} {L : List Int} (h : RwI B w (.slice (some ⟨g, 0, none⟩) n c) L) (s m : Nat) (hs : s + m ≤ L.length) :
    ∀ j u, (((L.drop s).take m).map (Value.int .i64))[j]? = some u → w.cell? ((⟨g, s, none⟩ : Addr).add j) = some u := by
  intro j u hj
  rw [List.getElem?_map] at hj
  have hj2 : j < m := by
    rcases Nat.lt_or_ge j m with k | k
    · exact k
    · rw [List.getElem?_eq_none (by simp; omega)] at hj; cases hj
  rw [List.getElem?_take_of_lt hj2, List.getElem?_drop] at hj
  have e := h.at11 (i := s + j) (by omega)
  rw [List.getD_eq_getElem?_getD, List.getElem?_eq_getElem (by omega)] at e
  rw [List.getElem?_eq_getElem (by omega)] at hj
  simp only [Option.map_some, Option.some.injEq] at hj
  have ad : (⟨g, s, none⟩ : Addr).add j = ⟨g, s + j, none⟩ := by
    unfold Addr.add
    split
    · rename_i h; subst h; rfl
    · rfl
  rw [ad, e, ← hj]
  rfl
/-- Rows of one's own in blocks apart. -/
def Apt (u v : Value) : Prop := ∀ k, u.ownBlock = some k → v.ownBlock ≠ some k
theorem Apt.symm {u v : Value} (h : Apt u v) : Apt v u := fun k h1 h2 => h k h2 h1
/-- A row stays while another one grows. -/
theorem owns_beside {B k : Nat} {t : TypeId} {w w' : World} {v : Value} {n : Nat} {xs : List Value} {r : Option Nat} (h : w.ownsRow B t k v n xs) (hg : w.grownBy w' r) (hne : ∀ j, v.ownBlock = some j → some j ≠ r) : w'.ownsRow B t k v n xs := by
  refine ⟨h.1, ?_⟩
  rcases h.2 with h' | ⟨g', cap, cur, hv, h1, hg', rr⟩
  · exact .inl h'
  · refine .inr ⟨g', cap, cur, hv, h1, ?_, rr⟩
    rw [hg.block g' (Array.getElem?_eq_some_iff.1 hg').1 (hne g' (by rw [hv]; rfl))]
    exact hg'
theorem RwI.lt11 {B : Nat} {w : World} {v : Value} {L : List Int} (h : RwI B w v L) : ∀ k, v.ownBlock = some k → k < w.heap.size := by
  rcases h.open with ⟨rfl, _⟩ | ⟨g, c, rfl, hB, hl, _⟩
  · intro k hk; simp [Value.ownBlock] at hk
  · intro k hk; simp [Value.ownBlock] at hk; omega
theorem RwT.lt11 {B : Nat} {w : World} {v : Value} {L : List (Int × Int × Int)} (h : RwT B w v L) : ∀ k, v.ownBlock = some k → k < w.heap.size := by
  rcases h.open with ⟨rfl, _⟩ | ⟨g, c, rfl, hB, hl, _⟩
  · intro k hk; simp [Value.ownBlock] at hk
  · intro k hk; simp [Value.ownBlock] at hk; omega
theorem RwT.blk11 {B : Nat} {w : World} {v : Value} {L : List (Int × Int × Int)} (h : RwT B w v L) : ∀ k, v.ownBlock = some k → B ≤ k := by
  rcases h.open with ⟨rfl, _⟩ | ⟨g, c, rfl, hB, hl, _⟩
  · intro k hk; simp [Value.ownBlock] at hk
  · intro k hk; simp [Value.ownBlock] at hk; omega
theorem step_app11 {P : Program} {ops : Array Oper} {o : Oper} {a : Act} {w : World} {K : Act → World → Prop} {Q : Exit → Act → World → Prop} {E : Prop} (hgd : o.guard = none) (s x : Operand) (t : TypeId)
    (ho : o.op = .call { callee := .builtin .append, args := #[s, x], argTypes := #[t, t] })
    (base : Nat) (e : TypeId) (i : TypeInfo) (z : Value) (size bytes : Nat) (ht : P.underlying t = some (.slice e)) (hi : P.info? e = some i) (hz : i.zero = some z)
    (hsize : i.size = size) (hby : i.bytes = bytes) (hzs : z.cells.size = size) (hsz : 0 < size)
    (v : Value) (n : Nat) (xs : List Value) (hs : a.eval s = v) (hown : w.ownsRow base e size v n xs)
    (ad : Addr) (m c : Nat) (news : List Value) (hx : a.eval x = .slice (some ad) m c) (hl : news.length = m * size) (hnews : ∀ j u, news[j]? = some u → w.cell? (ad.add j) = some u) (h1 : ∀ u ∈ news, u.oneCell' = true)
    (h63 : n + m ≤ maxLen) (hbytes : (n + m) * bytes ≤ 140737488355328) (hbase : base ≤ w.heap.size)
    (h : ∀ v' w', w'.ownsRow base e size v' (n + m) (xs ++ news) → w.grownBy w' v.ownBlock → K (a.put o.dst v') w') :
    if Region.wanted o (yielded ops a.tmps) = true then Oper.wp P o a w K Q else E := by
  have hw : Region.wanted o (yielded ops a.tmps) = true := by simp [Region.wanted, hgd]
  rw [if_pos hw]
  obtain ⟨v', w', hr, h2, h3, _, _⟩ := run_append_own_at (P := P) w base t o.type e i z size bytes ht hi hz hsize hby hzs hsz v n xs hown ad m c news hl hnews h1 h63 hbytes hbase
  unfold Oper.wp execOp
  simp only [ho, resolve, invoke, builtin, Sem.run_bind, Sem.run_pure, Result.andThen_ok, List.map_toArray, List.map_cons, List.map_nil, hs, hx, hr]
  exact h v' w' h2 h3
theorem emptyR (w : World) : RwI w.heap.size (w.alloc (.cells #[] 3)) (.slice (some ⟨w.heap.size, 0, none⟩) 0 0) [] := by
  refine ⟨⟨rfl, .inr ⟨w.heap.size, 0, #[], rfl, Nat.le_refl _, ?_, by simp, by simp, by simp, rfl⟩⟩⟩
  show (w.heap.push _)[w.heap.size]? = _
  simp
theorem RwI.lenV {B : Nat} {w : World} {v : Value} {L : List Int} (h : RwI B w v L) : Go.Proofs.YtomekmhonfofkaaGreat.lenV v = L.length := by
  rcases h.open with ⟨rfl, rfl⟩ | ⟨g, c, rfl, _⟩ <;> rfl
end Go.Proofs.YtomekmhonfofkaaGreat
namespace Go.Proofs.YtomekmhonfofkaaGreat
open Go.RowKit Go.ChangeMaps
set_option linter.unusedVariables false
set_option maxRecDepth 100000
set_option linter.unusedSimpArgs false

/-- One corner gets the colour that its neighbours leave. -/
def colO (q : Int × Int × Int) (C : List Int) : List Int := C.set q.2.1.toNat (3 - C.getD q.1.toNat 0 - C.getD q.2.2.toNat 0)
def colF (T : List (Int × Int × Int)) (C : List Int) : List Int := T.foldr colO C
def col1 (n : Nat) (q : Int × Int × Int) : List Int := ((List.replicate n 0).set q.2.1.toNat 1).set q.2.2.toNat 2
theorem colF_cons (q : Int × Int × Int) (T : List (Int × Int × Int)) (C : List Int) : colF (q :: T) C = colO q (colF T C) := rfl
theorem colO_len (q : Int × Int × Int) (C : List Int) : (colO q C).length = C.length := by simp [colO]
theorem colF_len : ∀ (T : List (Int × Int × Int)) (C : List Int), (colF T C).length = C.length
  | [], C => rfl
  | q :: T, C => by rw [colF_cons, colO_len, colF_len T C]
theorem col1_len (n : Nat) (q : Int × Int × Int) : (col1 n q).length = n := by simp [col1]
def bd : Nat → Int
  | 0 => 2
  | s + 1 => 3 + 2 * bd s
theorem bd_pos : ∀ s, 2 ≤ bd s
  | 0 => by simp [bd]
  | s + 1 => by have := bd_pos s; simp [bd]; omega
theorem bd_top : ∀ s, s ≤ 12 → bd s ≤ 100000 := by
  have : ∀ s : Fin 13, bd s.val ≤ 100000 := by decide
  intro s hs
  exact this ⟨s, by omega⟩
theorem set_bd {C : List Int} {K : Int} (h : ∀ j, -K ≤ C.getD j 0 ∧ C.getD j 0 ≤ K) {i : Nat} {v : Int} {K' : Int} (hK : K ≤ K') (hv : -K' ≤ v ∧ v ≤ K') : ∀ j, -K' ≤ (C.set i v).getD j 0 ∧ (C.set i v).getD j 0 ≤ K' := by
  intro j
  have hj := h j
  rw [List.getD_eq_getElem?_getD] at hj ⊢
  rw [List.getElem?_set]
  by_cases e : i = j
  · rw [if_pos e]
    by_cases hl : i < C.length
    · rw [if_pos hl]; exact hv
    · rw [if_neg hl]; simp only [Option.getD_none]; omega
  · rw [if_neg e]; omega
theorem col1_bd (n : Nat) (q : Int × Int × Int) : ∀ j, -2 ≤ (col1 n q).getD j 0 ∧ (col1 n q).getD j 0 ≤ 2 := by
  have h0 : ∀ j, -0 ≤ (List.replicate n (0 : Int)).getD j 0 ∧ (List.replicate n (0 : Int)).getD j 0 ≤ 0 := fun j => by
    rw [List.getD_eq_getElem?_getD, List.getElem?_replicate]
    split <;> simp
  exact set_bd (set_bd h0 (K' := 2) (by omega) (by omega)) (Int.le_refl _) (by omega)
theorem colF_bd (n : Nat) (q : Int × Int × Int) : ∀ T j, -bd T.length ≤ (colF T (col1 n q)).getD j 0 ∧ (colF T (col1 n q)).getD j 0 ≤ bd T.length
  | [], j => col1_bd n q j
  | r :: T, j => by
    have ih := colF_bd n q T
    have p := bd_pos T.length
    have a := ih r.1.toNat
    have b := ih r.2.2.toNat
    rw [colF_cons]
    unfold colO
    have e : bd (r :: T).length = 3 + 2 * bd T.length := rfl
    rw [e]
    exact set_bd ih (by omega) (by omega) j
/-- Numbers of corners, three in a row. -/
def NumT (n : Nat) (q : Int × Int × Int) : Prop := ∃ x y z : Nat, q = ((x : Int), (y : Int), (z : Int)) ∧ x < n ∧ y < n ∧ z < n
theorem cut_nums {l : List (Int × Int)} {t : Int} {n : Nat} : ∀ (k : Nat) (L : List Nat), L.length = k + 3 → (∀ x ∈ L, x < n) → L.Pairwise (· < ·) → ∃ D x y z, cutL l t k L = D ++ [(((x : Nat) : Int), ((y : Nat) : Int), ((z : Nat) : Int))] ∧ D.length = k ∧ x < y ∧ y < z ∧ z < n ∧ ∀ q ∈ D, NumT n q
  | 0, L, hl, hL, hu => by
    refine ⟨[], L.getD 0 0, L.getD 1 0, L.getD 2 0, rfl, rfl, ?_, ?_, hL _ (mem_at (by omega)), fun q hq => by simp at hq⟩
    · have := List.pairwise_iff_getElem.1 hu 0 1 (by omega) (by omega) (by omega)
      simpa [List.getD_eq_getElem?_getD, List.getElem?_eq_getElem (show 0 < L.length by omega), List.getElem?_eq_getElem (show 1 < L.length by omega)] using this
    · have := List.pairwise_iff_getElem.1 hu 1 2 (by omega) (by omega) (by omega)
      simpa [List.getD_eq_getElem?_getD, List.getElem?_eq_getElem (show 1 < L.length by omega), List.getElem?_eq_getElem (show 2 < L.length by omega)] using this
  | k + 1, L, hl, hL, hu => by
    have e := fstE_lt (l := l) (L := L) (t := t) (by omega)
    obtain ⟨D, x, y, z, h1, h2, h3, h4, h5, h6⟩ := cut_nums k (L.eraseIdx (fstE l L t)) (by rw [List.length_eraseIdx, if_pos e]; omega) (fun x hx => hL x (List.mem_of_mem_eraseIdx hx)) (hu.sublist (List.eraseIdx_sublist _ _))
    refine ⟨triE L (fstE l L t) :: D, x, y, z, by rw [cutL, h1]; rfl, by simp [h2], h3, h4, h5, fun q hq => ?_⟩
    rcases List.mem_cons.1 hq with rfl | hq
    · exact ⟨_, _, _, rfl, hL _ (bef_mem e), hL _ (mem_at e), hL _ (aft_mem e)⟩
    · exact h6 q hq
theorem madeN (w : World) (n : Nat) (hm : n ≤ maxLen) : RwI w.heap.size (w.alloc (.cells (madeCells #[.int .i64 0] n) 3)) (.slice (some ⟨w.heap.size, 0, none⟩) n n) (List.replicate n 0) := by
  refine ⟨?_⟩
  rw [List.length_replicate]
  refine ⟨by simp, .inr ⟨w.heap.size, n, madeCells #[.int .i64 0] n, rfl, Nat.le_refl _, ?_, Nat.le_refl _, hm, by simp [size_madeCells], ?_⟩⟩
  · show (w.heap.push _)[w.heap.size]? = _
    simp
  · rw [made_ints, List.take_of_length_le (by simp)]
end Go.Proofs.YtomekmhonfofkaaGreat
namespace Go.Proofs.YtomekmhonfofkaaGreat
open Go.RowKit Go.ChangeMaps
set_option linter.unusedVariables false
set_option maxRecDepth 100000
set_option linter.unusedSimpArgs false

set_option maxHeartbeats 16000000 in
theorem cutS (a : Option Addr) (n c : Nat) (l : List (Int × Int)) (w : World) (h : SlP w a l) (hn : l.length = n) (h3 : 3 ≤ n) (h12 : n ≤ 12) (hg : ∀ p ∈ l, Near p) :
    Calls Tryz.prog 23 #[.slice a n c] w fun e w' => ∃ v, e = .returned v ∧ Below w.heap.size w w' ∧ RwT w.heap.size w' v (cutL l (sgZ (arS l l.length)) (n - 3) (List.range n)) := by
  obtain ⟨i0, hi0, hz0, hz1, hz2⟩ := info_parts infoTri
  obtain ⟨k0, hk0, kz0, kz1, kz2⟩ := info_parts Tryz.info3
  have CA := hide (fun w (k : SlP w a l) => areaS a n c l w k hn h12 hg)
  have CE := hide (fun w ai d (L : List Nat) (t : Int) (k : SlP w a l) (k' : Sl w ai (cI L)) (i : Nat) (hi : i < L.length) (hL : ∀ x ∈ L, x < n) (hl : L.length ≤ 1048576) => earS a ai n c L.length d l L i t w k hn k' rfl hi (by omega) hl hg hL)
  have HS := hide h
  have HQ := hide h
  generalize arS l l.length = A at *
  obtain ⟨t, ht⟩ : ∃ t, t = sgZ A := ⟨_, rfl⟩
  have ST := hide (signS8 A)
  rw [← ht] at ST ⊢
  obtain ⟨T, hT⟩ : ∃ T, T = cutL l t (n - 3) (List.range n) := ⟨_, rfl⟩
  have TL : T.length = n - 2 := by rw [hT, cutL_len]; omega
  rw [← hT]
  have ET := hide hT.symm
  clear h hn hg ht hT
  go_enter Tryz.func23, Tryz.ntmps23
  go_wp2_with fail
  refine (allS a n c _ (by omega)).mono ?_
  rintro e w1 ⟨v3, rfl, hb, rw3⟩
  rw [up_cI] at rw3
  have R3 := hide rw3
  replace HS := hide ((unhide HS).later hb)
  have HB := hide hb
  clear hb rw3
  go_wp2_with fail
  refine (unhide CA _ (unhide HS)).mono ?_
  rintro e w2 ⟨rfl, hb⟩
  replace R3 := hide ((unhide R3).later hb)
  replace HB := hide (below_on (unhide HB) hb)
  replace HS := hide ((unhide HS).later hb)
  clear hb CA
  go_wp2_with fail
  refine (unhide ST _).mono ?_
  rintro e w2' ⟨rfl, rfl⟩
  have HS0 := HS
  go_wp2_with fail
  go_loopw [3, 5] (fun v3 v5 wr => ∃ (N : Nat) (L : List Nat) (D : List (Int × Int × Int)), 3 ≤ N ∧ N ≤ 12 ∧ D.length ≤ 12 ∧ Hid (L.length = N) ∧ Hid (D ++ cutL l t (N - 3) L = T) ∧ Hid (∀ x ∈ L, x < n) ∧ Hid (RwI w.heap.size wr v3 (cI L)) ∧ Hid (RwT w.heap.size wr v5 D) ∧ Hid (Apt v3 v5) ∧ Hid (Below w.heap.size w wr)) (fun v3 _ _ => lenV v3)
  case atStart => exact ⟨n, List.range n, [], h3, h12, by simp, hide (by simp), hide (by rw [List.nil_append]; exact unhide ET), hide (fun x hx => List.mem_range.1 hx), R3, hide (RwT.nil _ _), hide (fun k h1 h2 => by simp [Value.ownBlock] at h2), HB⟩
  case round =>
    clear R3 HB ET
    obtain ⟨N, L, D, N3, N12, hDn, HN, HE, HL, HR, HO, HP, HB⟩ := hrel
    have lc : (cI L).length = N := by rw [cI_len]; exact unhide HN
    obtain ⟨g, c3, rfl, hBg, hgs, hcl, hcm⟩ : ∃ g c3, u3 = .slice (some ⟨g, 0, none⟩) N c3 ∧ w.heap.size ≤ g ∧ g < wr.heap.size ∧ N ≤ c3 ∧ c3 ≤ maxLen := by
      rcases (unhide HR).open with ⟨_, e⟩ | ⟨g, c3, e, h1, h2, h3, h4, _⟩
      · rw [e] at lc; simp at lc; omega
      · rw [lc] at e h3
        exact ⟨g, c3, e, h1, h2, h3, h4⟩
    have S3 : Hid (Sl wr (some ⟨g, 0, none⟩) (cI L)) := hide (Sl.of_owns (by have := (unhide HR).row; rw [lc] at this; exact this) lc)
    have HSp : Hid (SlP wr a l) := hide (by
      rcases (unhide HQ) with e | ⟨q, off, rfl, hq, hc⟩
      · exact .inl e
      · exact .inr ⟨q, off, rfl, Nat.lt_of_lt_of_le hq (unhide HB).size, fun i hi => ⟨((unhide HB).cell (p := ⟨q, off + i * 2, none⟩) hq).trans (hc i hi).1, ((unhide HB).cell (p := ⟨q, off + i * 2 + 1, none⟩) hq).trans (hc i hi).2⟩⟩)
    obtain ⟨wp, hwp⟩ : ∃ x, x = wr := ⟨_, rfl⟩
    subst hwp
    by_cases h4 : 3 < N
    · have h4' : (3 : Int) < (N : Int) := by omega
      have d4 : decide (3 < N) = true := decide_eq_true h4
      have w1N : IntKind.i64.wrap ((N : Int) - 1) = (N : Int) - 1 := by rw [IntKind.wrap_i64]; omega
      go_upto_region 7 with fail
      go_loopw [6, 7] (fun ev iv wr => ∃ m : Nat, m ≤ N ∧ iv = .int .i64 ((m : Int) - 1) ∧ ev = .int .i64 (((((List.range N).drop m).find? (fun i => earB l L i t)).getD 0 : Nat) : Int) ∧ Hid (Below wp.heap.size wp wr)) (fun _ iv _ => ((intOf iv) + 1).toNat)
      case atStart => exact ⟨N, Nat.le_refl _, rfl, by rw [List.drop_eq_nil_of_le (by simp)]; rfl, hide (Below.refl _ _)⟩
      case round =>
        obtain ⟨m, hm, rfl, rfl, HW⟩ := hrel
        by_cases hm0 : m = 0
        · subst hm0
          have FE : (((List.range N).drop 0).find? (fun i => earB l L i t)).getD 0 = fstE l L t := by unfold fstE; rw [unhide HN]; rfl
          have eN : fstE l L t < N := by have := fstE_lt (l := l) (L := L) (t := t) (by rw [unhide HN]; omega); rw [unhide HN] at this; exact this
          rw [FE]
          have TE : Hid (triE L (fstE l L t) = ((bef L (fstE l L t) : Int), (L.getD (fstE l L t) 0 : Int), (aft L (fstE l L t) : Int))) := hide rfl
          have E2 : Hid (D ++ [triE L (fstE l L t)] ++ cutL l t (N - 1 - 3) (L.eraseIdx (fstE l L t)) = T) := hide (by
            have := unhide HE
            rw [show N - 3 = N - 1 - 3 + 1 by omega, cutL] at this
            rw [List.append_assoc]
            exact this)
          have LE : Hid ((L.eraseIdx (fstE l L t)).length = N - 1) := hide (by rw [List.length_eraseIdx, unhide HN, if_pos eN])
          have LX : Hid (∀ x ∈ L.eraseIdx (fstE l L t), x < n) := hide (fun x hx => unhide HL x (List.mem_of_mem_eraseIdx hx))
          have ER : Hid (cI (L.eraseIdx (fstE l L t)) = (cI L).take (fstE l L t) ++ (cI L).drop (fstE l L t + 1)) := hide (er_two L _)
          have K2 := (unhide S3).later (Nat.le_refl _) (unhide HW)
          have C1 := hide (aroundS (some ⟨g, 0, none⟩) N c3 (cI L) (fstE l L t) wr K2 lc eN (by omega))
          have eb : (cI L).getD ((fstE l L t + N - 1) % N) 0 = ((bef L (fstE l L t) : Nat) : Int) := by rw [cI_at]; unfold bef; rw [unhide HN]
          have ea : (cI L).getD ((fstE l L t + 1) % N) 0 = ((aft L (fstE l L t) : Nat) : Int) := by rw [cI_at]; unfold aft; rw [unhide HN]
          rw [eb, ea] at C1
          have HRw := (unhide HR).later (unhide HW)
          have cy := HRw.at11 (i := fstE l L t) (by rw [lc]; exact eN)
          rw [cI_at] at cy
          have R3 := hide HRw
          replace HO := hide ((unhide HO).later (unhide HW))
          have HBW := hide (below_on (unhide HB) (unhide HW))
          have gl : g < wr.heap.size := Nat.lt_of_lt_of_le hgs (unhide HW).size
          clear HRw K2 eb ea FE HE HL HN HR S3 HSp HW HB HS HQ CE
          generalize fstE l L t = ee at *
          generalize bef L ee = x at *
          generalize L.getD ee 0 = y at *
          generalize aft L ee = z at *
          have eN' : (ee : Int) < (N : Int) := by omega
          go_wp2_with fail
          refine (unhide C1).mono ?_
          rintro e w5 ⟨rfl, hb⟩
          replace R3 := hide ((unhide R3).later hb)
          replace HO := hide ((unhide HO).later hb)
          replace HBW := hide (below_on (unhide HBW) hb)
          replace cy := (hb.cell (p := ⟨g, ee, none⟩) gl).trans cy
          replace gl := Nat.lt_of_lt_of_le gl hb.size
          clear hb C1
          go_wp2_with (at_builtin; refine wpList_append_own_at _ rfl (.tmp 38) (.tmp 46) 25 rfl w.heap.size 40 i0 (.agg #[.int .i64 0, .int .i64 0, .int .i64 0]) 3 24 Tryz.underlying25 hi0 hz0 hz1 hz2 rfl (by decide) _ _ _ rfl ((unhide HO).row.alloc _) ⟨_, 0, none⟩ 1 1 [.int .i64 (x : Int), .int .i64 (y : Int), .int .i64 (z : Int)] rfl rfl (new_cellT _ _ _ _) (fun u hu => by simp at hu; rcases hu with rfl | rfl | rfl <;> rfl) (by unfold maxLen; omega) (by omega) (by have := (unhide HBW).size; simp; omega) ?_)
          intro v' w6 hown hgr _ hob
          have O6 : Hid (RwT w.heap.size w6 v' (D ++ [((x : Int), (y : Int), (z : Int))])) := hide (RwT.snoc hown)
          have R6 : Hid (RwI w.heap.size w6 (.slice (some ⟨g, 0, none⟩) N c3) (cI L)) := hide ⟨owns_beside ((unhide R3).row.alloc _) hgr (fun j hj => fun e => unhide HP j hj e.symm)⟩
          have B6 := hide (owns_belowR (unhide HBW) (unhide HBW).size (unhide HO).row hgr)
          have P6 : Hid (v'.ownBlock ≠ some g) := hide (fun e => by
            rcases hob with k | k
            · exact unhide HP g rfl (by rw [← k]; exact e)
            · rw [k] at e; simp at e; omega)
          rw [← unhide TE] at O6
          have g6 : g < w6.heap.size := Nat.lt_of_lt_of_le gl (Nat.le_trans (by simp) hgr.size)
          clear hown hgr hob HO R3 HBW cy HP TE
          have al : Below w6.heap.size w6 (w6.alloc (.cells #[] 3)) := (Below.refl _ _).alloc (Nat.le_refl _) _
          have X1 := hide (emptyR w6)
          have R7 := (unhide R6).later al
          have N1 : Hid (∀ j u, (((cI L).take ee).map (Value.int .i64))[j]? = some u → (w6.alloc (.cells #[] 3)).cell? ((⟨g, 0, none⟩ : Addr).add j) = some u) := hide (by have := R7.news 0 ee (by rw [lc]; omega); simpa using this)
          have L1 : Hid ((((cI L).take ee).map (Value.int .i64)).length = ee * 1) := hide (by simp [lc]; omega)
          have A7 := hide al
          have ec3 : (ee : Int) ≤ (c3 : Int) := by omega
          have eN2 : (ee : Int) ≤ (N : Int) := by omega
          clear al R7
          go_wp2_with (at_builtin; refine wpList_append_own_at _ rfl (.tmp 48) (.tmp 51) 28 rfl w6.heap.size 3 k0 (.int .i64 0) 1 8 Tryz.underlying28 hk0 kz0 kz1 kz2 rfl (by decide) _ _ _ rfl (unhide X1).row ⟨g, 0, none⟩ ee _ (((cI L).take ee).map (Value.int .i64)) rfl (unhide L1) (unhide N1) (one_cells _) (by unfold maxLen; simp; omega) (by simp; omega) (by simp) ?_)
          intro v1 w7 own1 gr1 _ _
          have tk : ((cI L).take ee).length = ee := by rw [List.length_take, lc]; omega
          have X2 : Hid (RwI w6.heap.size w7 v1 ((cI L).take ee)) := hide ⟨by rw [tk]; simpa using own1⟩
          have B7 := hide ((unhide A7).grown gr1 (by simp) (fun k hk => by simp [Value.ownBlock] at hk; omega))
          have R7 := hide ((unhide R6).later (unhide B7))
          clear own1 gr1 X1 N1 L1 A7
          obtain ⟨f, hf⟩ : ∃ f, f = ee + 1 := ⟨_, rfl⟩
          have we : IntKind.i64.wrap ((ee : Int) + 1) = (f : Int) := by rw [IntKind.wrap_i64]; omega
          have fN : f ≤ N := by omega
          have fN' : (f : Int) ≤ (N : Int) := by omega
          have fc' : (f : Int) ≤ (c3 : Int) := by omega
          have fc : f ≤ c3 := by omega
          rw [← hf] at ER
          have ED : Hid (((cI L).drop f).take (N - f) = (cI L).drop f) := hide (by rw [List.take_of_length_le (by rw [List.length_drop, lc]; omega)])
          have dk : (((cI L).drop f).take (N - f)).length = N - f := by rw [List.length_take, List.length_drop, lc]; omega
          have L2 : Hid (((((cI L).drop f).take (N - f)).map (Value.int .i64)).length = (N - f) * 1) := hide (by rw [List.length_map, dk]; omega)
          have NL : Hid (ee + (N - f) = N - 1) := hide (by omega)
          have N13 : Hid (3 ≤ N - 1 ∧ N - 1 ≤ 12 ∧ N - 1 < N) := hide (by omega)
          clear hf
          by_cases hcf : c3 = f
          · subst hcf
            have fe : N = c3 := by omega
            subst fe
            have sb : N - N = 0 := Nat.sub_self N
            have si : ((N : Int) - (N : Int)) = 0 := by omega
            go_wp2_with (at_builtin; refine wpList_append_own_at _ rfl (.tmp 53) (.tmp 57) 28 rfl w6.heap.size 3 k0 (.int .i64 0) 1 8 Tryz.underlying28 hk0 kz0 kz1 kz2 rfl (by decide) _ _ _ rfl (unhide X2).row _ 0 _ [] rfl rfl (fun j u hj => by simp at hj) (fun u hu => by simp at hu) (by unfold maxLen; rw [tk]; omega) (by rw [tk]; omega) (unhide B7).size ?_)
            intro v2 w8 own2 gr2 _ _
            have X3 : Hid (RwI w6.heap.size w8 v2 (cI (L.eraseIdx ee))) := hide (by
              rw [unhide ER]
              refine ⟨?_⟩
              have e1 : (cI L).drop N = [] := List.drop_eq_nil_of_le (by rw [lc]; omega)
              rw [e1, List.append_nil, tk, List.map_take]
              simpa using own2)
            have B8 := hide ((unhide B7).grown gr2 (unhide B7).size (unhide X2).blk)
            have O8 := hide ((unhide O6).later (unhide B8))
            have P8 : Hid (Apt v2 v') := hide (fun k h1 h2 => by
              have := (unhide X3).blk k h1
              have := (unhide O6).lt11 k h2
              omega)
            have LV : Go.Proofs.YtomekmhonfofkaaGreat.lenV v2 = N - 1 := by rw [(unhide X3).lenV, cI_len]; exact unhide LE
            have DL : (D ++ [triE L ee]).length ≤ 12 := by
              have := congrArg List.length (unhide E2)
              rw [List.length_append, TL] at this
              omega
            have R8 := hide ((unhide X3).mono (unhide B6).size)
            have B9 := hide (below_on (unhide B6) (unhide B8))
            clear own2 gr2
            go_wp2
            go_roundw
            case rel => exact ⟨N - 1, L.eraseIdx ee, D ++ [triE L ee], (unhide N13).1, (unhide N13).2.1, DL, LE, E2, LX, R8, O8, P8, B9⟩
            case measure => rw [LV]; have := (unhide N13).2.2; simp [lenV]; omega
          · have N2 := hide ((unhide R7).news f (N - f) (by rw [lc]; omega))
            have kc2 : ¬ ((c3 : Int) = (f : Int)) := by omega
            have kc3 : ¬ (c3 - f = 0) := by omega
            go_wp2_with (at_builtin; refine wpList_append_own_at _ rfl (.tmp 53) (.tmp 57) 28 rfl w6.heap.size 3 k0 (.int .i64 0) 1 8 Tryz.underlying28 hk0 kz0 kz1 kz2 rfl (by decide) _ _ _ rfl (unhide X2).row ⟨g, f, none⟩ (N - f) _ ((((cI L).drop f).take (N - f)).map (Value.int .i64)) rfl (unhide L2) (unhide N2) (one_cells _) (by unfold maxLen; rw [tk]; omega) (by rw [tk]; omega) (unhide B7).size ?_)
            intro v2 w8 own2 gr2 _ _
            have X3 : Hid (RwI w6.heap.size w8 v2 (cI (L.eraseIdx ee))) := hide (by
              rw [unhide ER]
              refine ⟨?_⟩
              have e1 : (List.drop f ((cI L).map (Value.int .i64))).take (N - f) = List.drop f ((cI L).map (Value.int .i64)) := by rw [List.take_of_length_le (by rw [List.length_drop, List.length_map, lc]; omega)]
              have e2 : ((cI L).drop f).length = N - f := by rw [List.length_drop, lc]
              rw [List.map_append, List.length_append, tk, e2, List.map_take, List.map_drop, ← e1]
              exact own2)
            have B8 := hide ((unhide B7).grown gr2 (unhide B7).size (unhide X2).blk)
            have O8 := hide ((unhide O6).later (unhide B8))
            have P8 : Hid (Apt v2 v') := hide (fun k h1 h2 => by
              have := (unhide X3).blk k h1
              have := (unhide O6).lt11 k h2
              omega)
            have LV : Go.Proofs.YtomekmhonfofkaaGreat.lenV v2 = N - 1 := by rw [(unhide X3).lenV, cI_len]; exact unhide LE
            have DL : (D ++ [triE L ee]).length ≤ 12 := by
              have := congrArg List.length (unhide E2)
              rw [List.length_append, TL] at this
              omega
            have R8 := hide ((unhide X3).mono (unhide B6).size)
            have B9 := hide (below_on (unhide B6) (unhide B8))
            clear own2 gr2
            go_wp2
            go_roundw
            case rel => exact ⟨N - 1, L.eraseIdx ee, D ++ [triE L ee], (unhide N13).1, (unhide N13).2.1, DL, LE, E2, LX, R8, O8, P8, B9⟩
            case measure => rw [LV]; have := (unhide N13).2.2; simp [lenV]; omega
        · obtain ⟨p, hp⟩ : ∃ p, m = p + 1 := ⟨m - 1, by omega⟩
          have ip : (m : Int) - 1 = (p : Int) := by omega
          rw [ip]
          have wp1 : IntKind.i64.wrap ((p : Int) - 1) = (p : Int) - 1 := by rw [IntKind.wrap_i64]; omega
          have hpN : p < N := by omega
          have K1 := (unhide HSp).later (unhide HW)
          have K2 := (unhide S3).later (Nat.le_refl _) (unhide HW)
          have CC := hide (unhide CE _ _ c3 L t K1 K2 p (by rw [unhide HN]; exact hpN) (unhide HL) (by rw [unhide HN]; omega))
          rw [unhide HN] at CC
          have FY : Hid (earB l L p t = true → (((List.range N).drop p).find? (fun i => earB l L i t)).getD 0 = p) := hide (fun e => find_yes (f := fun i => earB l L i t) hpN e)
          have FN : Hid (earB l L p t = false → (((List.range N).drop p).find? (fun i => earB l L i t)).getD 0 = (((List.range N).drop m).find? (fun i => earB l L i t)).getD 0) := hide (fun e => by rw [find_no (f := fun i => earB l L i t) hpN e, hp])
          clear K1 K2 ip hp
          generalize earB l L p t = b at *
          generalize (((List.range N).drop m).find? (fun i => earB l L i t)).getD 0 = ev at *
          cases b
          · have FE : Hid ((((List.range N).drop p).find? (fun i => earB l L i t)).getD 0 = ev) := hide (unhide FN rfl)
            clear FY FN
            go_wp2_with fail
            refine (unhide CC).mono ?_
            rintro e w5 ⟨rfl, hb⟩
            replace HW := hide (below_on (unhide HW) hb)
            clear hb
            go_wp2
            go_roundw
            case rel => exact ⟨p, by omega, by go_num, by rw [unhide FE], HW⟩
            case measure => (try simp [intOf]); (try omega)
          · have FE : Hid ((((List.range N).drop p).find? (fun i => earB l L i t)).getD 0 = p) := hide (unhide FY rfl)
            clear FY FN
            go_wp2_with fail
            refine (unhide CC).mono ?_
            rintro e w5 ⟨rfl, hb⟩
            replace HW := hide (below_on (unhide HW) hb)
            clear hb
            go_wp2
            go_roundw
            case rel => exact ⟨p, by omega, by go_num, by rw [unhide FE], HW⟩
            case measure => (try simp [intOf]); (try omega)
    · obtain rfl : N = 3 := by omega
      have cx := (unhide HR).at11 (i := 0) (by rw [lc]; omega)
      have cy := (unhide HR).at11 (i := 1) (by rw [lc]; omega)
      have cz := (unhide HR).at11 (i := 2) (by rw [lc]; omega)
      rw [cI_at] at cx cy cz
      have ET : Hid (D ++ [((L.getD 0 0 : Int), (L.getD 1 0 : Int), (L.getD 2 0 : Int))] = T) := hide (unhide HE)
      generalize L.getD 0 0 = x at *
      generalize L.getD 1 0 = y at *
      generalize L.getD 2 0 = z at *
      have HOd := hide ((unhide HO).later (Below.refl wp.heap.size wp).drew)
      have HBd := hide (unhide HB).drew
      have SZd : w.heap.size ≤ wp.drew.heap.size := (unhide HB).size
      clear HE HN HL HR HO HP S3 HSp HS HQ CE ST HS0
      go_upto_region 15 with fail
      go_region_law (first
        | (refine step_app11 rfl (.tmp 59) (.tmp 70) 25 rfl w.heap.size 40 i0 (.agg #[.int .i64 0, .int .i64 0, .int .i64 0]) 3 24 Tryz.underlying25 hi0 hz0 hz1 hz2 rfl (by decide) u5 D.length (flatT D) (by simp [Act.eval, Act.put]) ((unhide HOd).row.alloc _) ⟨wp.heap.size, 0, none⟩ 1 1 [.int .i64 (x : Int), .int .i64 (y : Int), .int .i64 (z : Int)] (by simp [Act.eval, Act.put]) rfl (new_cellT _ _ _ _) (fun u hu => by simp at hu; rcases hu with rfl | rfl | rfl <;> rfl) (by unfold maxLen; omega) (by omega) (by simp; omega) (fun v6 w6 own6 gr6 => ?_); have R6 := hide (RwT.snoc (t := ((x : Int), (y : Int), (z : Int))) own6); have HB6 := hide (owns_belowR (unhide HBd) SZd (unhide HOd).row gr6); clear own6 gr6))
      all_goals go_wp2
      all_goals go_ret
      all_goals exact ⟨_, rfl, unhide HB6, by rw [← unhide ET]; exact unhide R6⟩
end Go.Proofs.YtomekmhonfofkaaGreat
namespace Go.Proofs.YtomekmhonfofkaaGreat
open Go.RowKit Go.ChangeMaps
set_option linter.unusedVariables false
set_option maxRecDepth 100000
set_option linter.unusedSimpArgs false

/-- The colours of all corners. -/
def clV (T : List (Int × Int × Int)) (n : Nat) : List Int := colF T.dropLast (col1 n (T.getLast?.getD (0, 0, 0)))
theorem clV_snoc (D : List (Int × Int × Int)) (q : Int × Int × Int) (n : Nat) : clV (D ++ [q]) n = colF D (col1 n q) := by simp [clV]
theorem colF_drop {D : List (Int × Int × Int)} {p : Nat} (h : p < D.length) (C : List Int) : colF (D.drop p) C = colO D[p] (colF (D.drop (p + 1)) C) := by rw [List.drop_eq_getElem_cons h, colF_cons]
end Go.Proofs.YtomekmhonfofkaaGreat
namespace Go.Proofs.YtomekmhonfofkaaGreat
open Go.RowKit Go.ChangeMaps
set_option linter.unusedVariables false
set_option maxRecDepth 100000
set_option linter.unusedSimpArgs false

theorem clV_cons (q : Int × Int × Int) (T : List (Int × Int × Int)) (n : Nat) (h : T ≠ []) : clV (q :: T) n = colO q (clV T n) := by
  unfold clV
  rw [List.dropLast_cons_of_ne_nil h, colF_cons]
  congr 2
  cases T with
  | nil => exact absurd rfl h
  | cons a T => simp
theorem clV_len (T : List (Int × Int × Int)) (n : Nat) : (clV T n).length = n := by unfold clV; rw [colF_len, col1_len]
theorem er_at {L : List Nat} {e j : Nat} : (L.eraseIdx e).getD j 0 = if j < e then L.getD j 0 else L.getD (j + 1) 0 := by
  rw [List.getD_eq_getElem?_getD, List.getElem?_eraseIdx]
  split <;> rw [List.getD_eq_getElem?_getD]
/-- Who is next to whom stays, but for the one that is struck out. -/
theorem er_next {L : List Nat} {N e i : Nat} (hN : L.length = N) (h3 : 3 ≤ N) (he : e < N) (hi : i < N) (h1 : i ≠ e) (h2 : (i + 1) % N ≠ e) : ∃ j, j < N - 1 ∧ (L.eraseIdx e).getD j 0 = L.getD i 0 ∧ aft (L.eraseIdx e) j = aft L i := by
  have hl : (L.eraseIdx e).length = N - 1 := by rw [List.length_eraseIdx, if_pos (by omega), hN]
  unfold aft
  rw [hl, hN]
  by_cases c1 : i + 1 = N
  · rw [c1, Nat.mod_self] at h2 ⊢
    refine ⟨N - 2, by omega, ?_, ?_⟩
    · rw [er_at, if_neg (by omega), show N - 2 + 1 = i by omega]
    · rw [show N - 2 + 1 = N - 1 by omega, Nat.mod_self, er_at, if_pos (by omega)]
  · rw [Nat.mod_eq_of_lt (by omega)] at h2 ⊢
    by_cases c2 : i < e
    · refine ⟨i, by omega, by rw [er_at, if_pos c2], ?_⟩
      rw [Nat.mod_eq_of_lt (by omega), er_at, if_pos (by omega)]
    · refine ⟨i - 1, by omega, ?_, ?_⟩
      · rw [er_at, if_neg (by omega), show i - 1 + 1 = i by omega]
      · rw [Nat.mod_eq_of_lt (by omega), er_at, if_neg (by omega), show i - 1 + 1 + 1 = i + 1 by omega]
/-- Behind one that is struck out its neighbours are next to each other. -/
theorem er_join {L : List Nat} {N e : Nat} (hN : L.length = N) (h3 : 3 ≤ N) (he : e < N) : ∃ j, j < N - 1 ∧ (L.eraseIdx e).getD j 0 = bef L e ∧ aft (L.eraseIdx e) j = aft L e := by
  have hl : (L.eraseIdx e).length = N - 1 := by rw [List.length_eraseIdx, if_pos (by omega), hN]
  unfold aft bef
  rw [hl, hN]
  by_cases c0 : e = 0
  · subst c0
    rw [Nat.mod_eq_of_lt (show 0 + N - 1 < N by omega), Nat.mod_eq_of_lt (show 0 + 1 < N by omega)]
    refine ⟨N - 2, by omega, ?_, ?_⟩
    · rw [er_at, if_neg (by omega), show N - 2 + 1 = 0 + N - 1 by omega]
    · rw [show N - 2 + 1 = N - 1 by omega, Nat.mod_self, er_at, if_neg (by omega)]
  · rw [show e + N - 1 = e - 1 + N by omega, Nat.add_mod_right, Nat.mod_eq_of_lt (show e - 1 < N by omega)]
    refine ⟨e - 1, by omega, by rw [er_at, if_pos (by omega)], ?_⟩
    rw [show e - 1 + 1 = e by omega]
    by_cases c1 : e + 1 = N
    · rw [c1, Nat.mod_self, show e = N - 1 by omega, Nat.mod_self, er_at, if_pos (by omega)]
    · rw [Nat.mod_eq_of_lt (show e + 1 < N by omega), Nat.mod_eq_of_lt (show e < N - 1 by omega), er_at, if_neg (by omega)]
def Is3 (c : Int) : Prop := c = 0 ∨ c = 1 ∨ c = 2
/-- Each corner left has one of three colours, another one than the next. -/
structure Col3 (C : List Int) (L : List Nat) : Prop where
  is : ∀ k ∈ L, Is3 (C.getD k 0)
  ne : ∀ i, i < L.length → C.getD (L.getD i 0) 0 ≠ C.getD (aft L i) 0
theorem set_get {C : List Int} {i j : Nat} {v : Int} (hi : i < C.length) : (C.set i v).getD j 0 = if i = j then v else C.getD j 0 := by
  rw [List.getD_eq_getElem?_getD, List.getElem?_set]
  by_cases e : i = j
  · rw [if_pos e, if_pos e, if_pos hi]; rfl
  · rw [if_neg e, if_neg e, List.getD_eq_getElem?_getD]
theorem up_at {L : List Nat} (h : L.Pairwise (· < ·)) {i j : Nat} (hi : i < L.length) (hj : j < L.length) (e : L.getD i 0 = L.getD j 0) : i = j := by
  rw [List.getD_eq_getElem?_getD, List.getD_eq_getElem?_getD, List.getElem?_eq_getElem hi, List.getElem?_eq_getElem hj] at e
  simp only [Option.getD_some] at e
  rcases Nat.lt_trichotomy i j with k | k | k
  · have := List.pairwise_iff_getElem.1 h i j hi hj k; omega
  · exact k
  · have := List.pairwise_iff_getElem.1 h j i hj hi k; omega
/-- Three colours do. -/
theorem col_ok {l : List (Int × Int)} {t : Int} {n : Nat} : ∀ (k : Nat) (L : List Nat), L.length = k + 3 → (∀ x ∈ L, x < n) → L.Pairwise (· < ·) →
    Col3 (clV (cutL l t k L) n) L ∧ ∀ q ∈ cutL l t k L, ∃ x y z : Nat, q = ((x : Int), (y : Int), (z : Int)) ∧ x ∈ L ∧ y ∈ L ∧ z ∈ L ∧ (clV (cutL l t k L) n).getD x 0 ≠ (clV (cutL l t k L) n).getD y 0 ∧ (clV (cutL l t k L) n).getD y 0 ≠ (clV (cutL l t k L) n).getD z 0 ∧ (clV (cutL l t k L) n).getD x 0 ≠ (clV (cutL l t k L) n).getD z 0
  | 0, L, hl, hL, hu => by
    obtain ⟨x, y, z, rfl⟩ : ∃ x y z, L = [x, y, z] := by
      match L, hl with
      | [x, y, z], _ => exact ⟨x, y, z, rfl⟩
    have hx := hL x (by simp)
    have hy := hL y (by simp)
    have hz := hL z (by simp)
    have hxy : x < y := by simp at hu; omega
    have hyz : y < z := by simp at hu; omega
    have eC : clV (cutL l t 0 [x, y, z]) n = ((List.replicate n (0 : Int)).set y 1).set z 2 := by
      simp [clV, cutL, colF, col1]
    have g : ∀ j, j < n → (((List.replicate n (0 : Int)).set y 1).set z 2).getD j 0 = if z = j then 2 else if y = j then 1 else 0 := fun j hj => by
      rw [set_get (by simp; omega), set_get (by simp; omega)]
      have : (List.replicate n (0 : Int)).getD j 0 = 0 := by rw [List.getD_eq_getElem?_getD, List.getElem?_replicate]; split <;> rfl
      rw [this]
    rw [eC]
    have gx : (((List.replicate n (0 : Int)).set y 1).set z 2).getD x 0 = 0 := by rw [g x hx, if_neg (by omega), if_neg (by omega)]
    have gy : (((List.replicate n (0 : Int)).set y 1).set z 2).getD y 0 = 1 := by rw [g y hy, if_neg (by omega), if_pos rfl]
    have gz : (((List.replicate n (0 : Int)).set y 1).set z 2).getD z 0 = 2 := by rw [g z hz, if_pos rfl]
    refine ⟨⟨fun k hk => ?_, fun i hi => ?_⟩, fun q hq => ?_⟩
    · simp only [List.mem_cons, List.not_mem_nil, or_false] at hk
      rcases hk with rfl | rfl | rfl
      · exact .inl gx
      · exact .inr (.inl gy)
      · exact .inr (.inr gz)
    · match i, hi with
      | 0, _ => show _ ≠ (((List.replicate n (0 : Int)).set y 1).set z 2).getD y 0; rw [show [x, y, z].getD 0 0 = x from rfl, gx, gy]; decide
      | 1, _ => show _ ≠ (((List.replicate n (0 : Int)).set y 1).set z 2).getD z 0; rw [show [x, y, z].getD 1 0 = y from rfl, gy, gz]; decide
      | 2, _ => rw [show aft [x, y, z] 2 = x by simp [aft], show [x, y, z].getD 2 0 = z from rfl, gz, gx]; decide
    · simp only [cutL, List.mem_singleton] at hq
      exact ⟨x, y, z, hq, by simp, by simp, by simp, by rw [gx, gy]; decide, by rw [gy, gz]; decide, by rw [gx, gz]; decide⟩
  | k + 1, L, hl, hL, hu => by
    have e := fstE_lt (l := l) (L := L) (t := t) (by omega)
    generalize he : fstE l L t = ee at e
    have hsub := List.eraseIdx_sublist L ee
    have ih := col_ok (l := l) (t := t) (n := n) k (L.eraseIdx ee) (by rw [List.length_eraseIdx, if_pos e]; omega) (fun x hx => hL x (List.mem_of_mem_eraseIdx hx)) (hu.sublist hsub)
    have eC : clV (cutL l t (k + 1) L) n = colO (triE L ee) (clV (cutL l t k (L.eraseIdx ee)) n) := by
      rw [cutL, he, clV_cons _ _ _ (by intro h; have := cutL_len l t k (L.eraseIdx ee); rw [h] at this; simp at this)]
    have eT : cutL l t (k + 1) L = triE L ee :: cutL l t k (L.eraseIdx ee) := by rw [cutL, he]
    rw [eC, eT]
    have CL := clV_len (cutL l t k (L.eraseIdx ee)) n
    generalize clV (cutL l t k (L.eraseIdx ee)) n = C at *
    obtain ⟨c3, tr⟩ := ih
    have yn := hL _ (mem_at e)
    have eO : colO (triE L ee) C = C.set (L.getD ee 0) (3 - C.getD (bef L ee) 0 - C.getD (aft L ee) 0) := by simp [colO, triE]
    have G : ∀ j, (colO (triE L ee) C).getD j 0 = if L.getD ee 0 = j then 3 - C.getD (bef L ee) 0 - C.getD (aft L ee) 0 else C.getD j 0 := fun j => by rw [eO, set_get (by rw [CL]; exact yn)]
    obtain ⟨j, hj, j1, j2⟩ := er_join (L := L) (N := k + 4) (by omega) (by omega) (by omega : ee < k + 4)
    have hel : (L.eraseIdx ee).length = k + 3 := by rw [List.length_eraseIdx, if_pos e]; omega
    have mb : bef L ee ∈ L.eraseIdx ee := by rw [← j1]; exact mem_at (by omega)
    have ma : aft L ee ∈ L.eraseIdx ee := by rw [← j2]; exact aft_mem (by omega)
    have nj := c3.ne j (by omega)
    rw [j1, j2] at nj
    have ib := c3.is _ mb
    have ia := c3.is _ ma
    have v3 : Is3 (3 - C.getD (bef L ee) 0 - C.getD (aft L ee) 0) := by unfold Is3 at *; omega
    have vb : 3 - C.getD (bef L ee) 0 - C.getD (aft L ee) 0 ≠ C.getD (bef L ee) 0 := by unfold Is3 at *; omega
    have va : 3 - C.getD (bef L ee) 0 - C.getD (aft L ee) 0 ≠ C.getD (aft L ee) 0 := by unfold Is3 at *; omega
    have ny : ∀ x ∈ L.eraseIdx ee, L.getD ee 0 ≠ x := fun x hx he => by
      obtain ⟨m, hm, hm2⟩ := List.getElem_of_mem hx
      have h3 : (L.eraseIdx ee).getD m 0 = x := by rw [List.getD_eq_getElem?_getD, List.getElem?_eq_getElem hm]; exact hm2
      rw [er_at] at h3
      rw [← he] at h3
      split at h3
      · have := up_at hu (show m < L.length by omega) e h3; omega
      · have := up_at hu (show m + 1 < L.length by omega) e h3; omega
    have gb : (colO (triE L ee) C).getD (bef L ee) 0 = C.getD (bef L ee) 0 := by rw [G, if_neg (ny _ mb)]
    have ga : (colO (triE L ee) C).getD (aft L ee) 0 = C.getD (aft L ee) 0 := by rw [G, if_neg (ny _ ma)]
    have gy : (colO (triE L ee) C).getD (L.getD ee 0) 0 = 3 - C.getD (bef L ee) 0 - C.getD (aft L ee) 0 := by rw [G, if_pos rfl]
    refine ⟨⟨fun x hx => ?_, fun i hi => ?_⟩, fun q hq => ?_⟩
    · rw [G]
      by_cases c : L.getD ee 0 = x
      · rw [if_pos c]; exact v3
      · rw [if_neg c]
        apply c3.is
        obtain ⟨m, hm, rfl⟩ : ∃ m, m < L.length ∧ L.getD m 0 = x := by
          obtain ⟨m, hm, h2⟩ := List.getElem_of_mem hx
          exact ⟨m, hm, by rw [List.getD_eq_getElem?_getD, List.getElem?_eq_getElem hm]; exact h2⟩
        have hme : m ≠ ee := fun h => c (by rw [h])
        by_cases cm : m < ee
        · have := mem_at (L := L.eraseIdx ee) (i := m) (by omega)
          rw [er_at, if_pos cm] at this; exact this
        · have := mem_at (L := L.eraseIdx ee) (i := m - 1) (by omega)
          rw [er_at, if_neg (by omega), show m - 1 + 1 = m by omega] at this; exact this
    · by_cases c1 : i = ee
      · subst c1; rw [gy, ga]; exact va
      · by_cases c2 : (i + 1) % L.length = ee
        · have ea : aft L i = L.getD ee 0 := by unfold aft; rw [c2]
          have eb : L.getD i 0 = bef L ee := by
            unfold bef
            congr 1
            by_cases w : i + 1 = L.length
            · rw [w, Nat.mod_self] at c2
              subst c2
              rw [Nat.mod_eq_of_lt (by omega)]; omega
            · rw [Nat.mod_eq_of_lt (by omega)] at c2
              rw [← c2, show i + 1 + L.length - 1 = i + L.length by omega, Nat.add_mod_right, Nat.mod_eq_of_lt hi]
          rw [ea, eb, gy, gb]; exact fun h => vb h.symm
        · obtain ⟨m, hm, m1, m2⟩ := er_next (L := L) (N := L.length) rfl (by omega) e hi c1 c2
          have h := c3.ne m (by omega)
          rw [m1, m2] at h
          have x1 : L.getD i 0 ∈ L.eraseIdx ee := by rw [← m1]; exact mem_at (by omega)
          have x2 : aft L i ∈ L.eraseIdx ee := by rw [← m2]; exact aft_mem (by omega)
          rw [G, G, if_neg (ny _ x1), if_neg (ny _ x2)]
          exact h
    · rcases List.mem_cons.1 hq with rfl | hq
      · exact ⟨bef L ee, L.getD ee 0, aft L ee, rfl, List.mem_of_mem_eraseIdx mb, mem_at e, List.mem_of_mem_eraseIdx ma, by rw [gb, gy]; exact fun h => vb h.symm, by rw [gy, ga]; exact va, by rw [gb, ga]; exact nj⟩
      · obtain ⟨x, y, z, h1, h2, h3, h4, h5, h6, h7⟩ := tr q hq
        exact ⟨x, y, z, h1, List.mem_of_mem_eraseIdx h2, List.mem_of_mem_eraseIdx h3, List.mem_of_mem_eraseIdx h4, by rw [G, G, if_neg (ny _ h2), if_neg (ny _ h3)]; exact h5, by rw [G, G, if_neg (ny _ h3), if_neg (ny _ h4)]; exact h6, by rw [G, G, if_neg (ny _ h2), if_neg (ny _ h4)]; exact h7⟩
end Go.Proofs.YtomekmhonfofkaaGreat
namespace Go.Proofs.YtomekmhonfofkaaGreat.Jor
set_option linter.unusedVariables false
set_option maxRecDepth 100000
set_option linter.unusedSimpArgs false

abbrev Q2 := Rat × Rat
/-- Twice the area of three points. -/
def jc (a b c : Q2) : Rat := (b.1 - a.1) * (c.2 - a.2) - (b.2 - a.2) * (c.1 - a.1)
def lerp (a b : Q2) (t : Rat) : Q2 := (a.1 + t * (b.1 - a.1), a.2 + t * (b.2 - a.2))
/-- A point on a segment. -/
def OnJ (a b x : Q2) : Prop := ∃ t : Rat, 0 ≤ t ∧ t ≤ 1 ∧ x = lerp a b t
/-- Two segments have a point in common. -/
def MeetJ (a b c d : Q2) : Prop := ∃ x, OnJ a b x ∧ OnJ c d x
/-- How a segment goes round a point. -/
def wT (u v q : Q2) : Int := (if u.2 ≤ q.2 ∧ q.2 < v.2 ∧ 0 < jc u v q then 1 else 0) - (if v.2 ≤ q.2 ∧ q.2 < u.2 ∧ jc u v q < 0 then 1 else 0)
theorem mpos {x y : Rat} (h : 0 < x) (k : 0 < y) : 0 < x * y := Rat.mul_pos h k
theorem mnn {x y : Rat} (h : 0 ≤ x) (k : 0 ≤ y) : 0 ≤ x * y := Rat.mul_nonneg h k
theorem mnp {x y : Rat} (h : 0 ≤ x) (k : y ≤ 0) : x * y ≤ 0 := by have := mnn h (show 0 ≤ -y by grind); grind
theorem mpn {x y : Rat} (h : 0 < x) (k : y < 0) : x * y < 0 := by have := mpos h (show 0 < -y by grind); grind
/-- Where a product's sign tells a factor's. -/
theorem pos_of {x y : Rat} (h : 0 < x) (k : 0 < x * y) : 0 < y := by
  rcases (Rat.le_total : y ≤ 0 ∨ 0 ≤ y) with g | g
  · have := mnp (x := x) (by grind) g; grind
  · rcases Rat.le_iff_lt_or_eq.1 g with g | g
    · exact g
    · rw [← g] at k; grind
theorem nn_of {x y : Rat} (h : 0 < x) (k : 0 ≤ x * y) : 0 ≤ y := by
  rcases (Rat.le_total : 0 ≤ y ∨ y ≤ 0) with g | g
  · exact g
  · rcases Rat.le_iff_lt_or_eq.1 g with g | g
    · have := mpn h g; grind
    · grind
theorem np_of {x y : Rat} (h : 0 < x) (k : x * y ≤ 0) : y ≤ 0 := by
  have := nn_of (x := x) (y := -y) h (by grind); grind
theorem neg_of {x y : Rat} (h : 0 < x) (k : x * y < 0) : y < 0 := by
  have := pos_of (x := x) (y := -y) h (by grind); grind
theorem jc_back (a b c : Q2) : jc b a c = -jc a b c := by unfold jc; grind
theorem jc_rot (a b c : Q2) : jc b c a = jc a b c := by unfold jc; grind
theorem jc_lerp (a b u v : Q2) (t : Rat) : jc a b (lerp u v t) = (1 - t) * jc a b u + t * jc a b v := by unfold jc lerp; grind
theorem div_01 {x y : Rat} (h : 0 ≤ x) (k : x ≤ y) (p : 0 < y) : 0 ≤ x / y ∧ x / y ≤ 1 := by
  have i := Rat.inv_pos.2 p
  have e : y * y⁻¹ = 1 := Rat.mul_inv_cancel _ (by grind)
  rw [Rat.div_def]
  have a := mnn h (show 0 ≤ y⁻¹ by grind)
  have b := mnn (show 0 ≤ y - x by grind) (show 0 ≤ y⁻¹ by grind)
  grind
theorem meet_pos {u v q r : Q2} (h1 : 0 ≤ jc q r u) (h2 : jc q r v ≤ 0) (h3 : jc u v q ≤ 0) (h4 : 0 ≤ jc u v r) (h5 : 0 < jc q r u - jc q r v) : MeetJ u v q r := by
  have e : jc u v r - jc u v q = jc q r u - jc q r v := by unfold jc; grind
  have d1 := div_01 h1 (show jc q r u ≤ jc q r u - jc q r v by grind) h5
  have d2 := div_01 (show 0 ≤ -jc u v q by grind) (show -jc u v q ≤ jc q r u - jc q r v by grind) h5
  have i : (jc q r u - jc q r v) * (jc q r u - jc q r v)⁻¹ = 1 := Rat.mul_inv_cancel _ (by grind)
  refine ⟨lerp u v (jc q r u / (jc q r u - jc q r v)), ⟨_, d1.1, d1.2, rfl⟩, ⟨_, d2.1, d2.2, ?_⟩⟩
  rw [Rat.div_def, Rat.div_def]
  generalize hI : (jc q r u - jc q r v)⁻¹ = I at *
  unfold lerp
  unfold jc at *
  apply Prod.ext <;> simp only <;> grind
theorem meet_swap {u v q r : Q2} (h : MeetJ v u q r) : MeetJ u v q r := by
  obtain ⟨x, ⟨t, t0, t1, e⟩, h2⟩ := h
  exact ⟨x, ⟨1 - t, by grind, by grind, by rw [e]; unfold lerp; apply Prod.ext <;> simp only <;> grind⟩, h2⟩
theorem meet_neg {u v q r : Q2} (h1 : jc q r u ≤ 0) (h2 : 0 ≤ jc q r v) (h3 : 0 ≤ jc u v q) (h4 : jc u v r ≤ 0) (h5 : jc q r u - jc q r v < 0) : MeetJ u v q r :=
  meet_swap (meet_pos h2 h1 (by rw [jc_back]; grind) (by rw [jc_back]; grind) (by grind))
theorem wT_back (u v q : Q2) : wT u v q + wT v u q = 0 := by
  unfold wT
  rw [jc_back u v q]
  grind
theorem hi1 (u v q r : Q2) : (v.2 - q.2) * jc q r u + (q.2 - u.2) * jc q r v = -((r.2 - q.2) * jc u v q) := by unfold jc; grind
theorem hi2 (u v q r : Q2) : (v.2 - r.2) * jc q r u + (r.2 - u.2) * jc q r v = -((r.2 - q.2) * jc u v r) := by unfold jc; grind
theorem hi3 (u v q r : Q2) : jc u v q - jc u v r = jc q r v - jc q r u := by unfold jc; grind
/-- Right of the segment from q up to r. -/
def phi (q r u : Q2) : Int := if q.2 < u.2 ∧ u.2 ≤ r.2 ∧ jc q r u < 0 then 1 else 0
theorem edge_up {u v q r : Q2} (hq : q.2 ≤ r.2) (hu : u.2 ≤ v.2) (h : ¬ MeetJ u v q r) : wT u v q - wT u v r = phi q r v - phi q r u := by
  have n1 : ¬ (0 ≤ jc q r u ∧ jc q r v ≤ 0 ∧ jc u v q ≤ 0 ∧ 0 ≤ jc u v r ∧ 0 < jc q r u - jc q r v) := fun ⟨a, b, c, d, e⟩ => h (meet_pos a b c d e)
  have n2 : ¬ (jc q r u ≤ 0 ∧ 0 ≤ jc q r v ∧ 0 ≤ jc u v q ∧ jc u v r ≤ 0 ∧ jc q r u - jc q r v < 0) := fun ⟨a, b, c, d, e⟩ => h (meet_neg a b c d e)
  have e1 := hi1 u v q r
  have e2 := hi2 u v q r
  have e3 := hi3 u v q r
  have z : q.2 = r.2 → jc q r u = (r.1 - q.1) * (u.2 - q.2) ∧ jc q r v = (r.1 - q.1) * (v.2 - q.2) := by intro e; unfold jc; grind
  unfold wT phi
  generalize jc q r u = α at *
  generalize jc q r v = β at *
  generalize jc u v q = γ at *
  generalize jc u v r = δ at *
  generalize r.1 - q.1 = X at *
  generalize q.2 = y at *
  generalize r.2 = s at *
  generalize u.2 = a at *
  generalize v.2 = b at *
  clear h
  by_cases c1 : a ≤ y
  · by_cases c2 : b ≤ y
    · grind
    · by_cases c3 : b ≤ s
      · -- below, mid
        have hs : 0 < s - y := by grind
        have k : (0 < γ) ↔ (β < 0) := by
          constructor
          · intro g
            have p := mpos hs g
            false_or_by_contra
            rename_i hb
            have q1 := mnn (show 0 ≤ y - a by grind) (show 0 ≤ β by grind)
            have ha : α < 0 := neg_of (x := b - y) (by grind) (by grind)
            have q2 := mnn (show 0 ≤ s - b by grind) (show 0 ≤ -α by grind)
            have q3 := mnn (show 0 ≤ s - a by grind) (show 0 ≤ β by grind)
            have hd : δ ≤ 0 := np_of hs (by grind)
            exact n2 ⟨by grind, by grind, by grind, by grind, by grind⟩
          · intro g
            false_or_by_contra
            rename_i hg
            have p := mnn (show 0 ≤ s - y by grind) (show 0 ≤ -γ by grind)
            have q1 := mnn (show 0 ≤ y - a by grind) (show 0 ≤ -β by grind)
            have ha : 0 ≤ α := nn_of (x := b - y) (by grind) (by grind)
            have q2 := mnn (show 0 ≤ s - b by grind) ha
            have q3 := mpos (show 0 < s - a by grind) (show 0 < -β by grind)
            have hd : 0 < δ := pos_of hs (by grind)
            exact n1 ⟨by grind, by grind, by grind, by grind, by grind⟩
        clear n1 n2 e1 e2 e3 z
        grind
      · -- below, above
        have k : (0 < γ) ↔ (0 < δ) := by
          have key : α - β ≠ 0 → (0 < γ ↔ 0 < δ) := by
            intro hne
            by_cases hys : y = s
            · obtain ⟨z1, z2⟩ := z hys
              constructor
              · intro g
                false_or_by_contra
                rename_i hd
                have : 0 < X * (b - a) := by grind
                have hx : 0 < X := pos_of (x := b - a) (by grind) (by grind)
                have := mnn (show 0 ≤ X by grind) (show 0 ≤ y - a by grind)
                have := mnn (show 0 ≤ X by grind) (show 0 ≤ b - y by grind)
                exact n2 ⟨by grind, by grind, by grind, by grind, by grind⟩
              · intro g
                false_or_by_contra
                rename_i hd
                have : X * (b - a) < 0 := by grind
                have hx : X < 0 := neg_of (x := b - a) (by grind) (by grind)
                have := mnn (show 0 ≤ -X by grind) (show 0 ≤ y - a by grind)
                have := mnn (show 0 ≤ -X by grind) (show 0 ≤ b - y by grind)
                exact n1 ⟨by grind, by grind, by grind, by grind, by grind⟩
            · have hs : 0 < s - y := by grind
              constructor
              · intro g
                false_or_by_contra
                rename_i hd
                have p1 := mpos hs g
                have p2 := mnn (show 0 ≤ s - y by grind) (show 0 ≤ -δ by grind)
                have ha : α ≤ 0 := by
                  false_or_by_contra
                  have := mpos (show 0 < b - y by grind) (show 0 < α by grind)
                  have := mnn (show 0 ≤ y - a by grind) (show 0 ≤ β by grind)
                  grind
                have hb : 0 ≤ β := by
                  false_or_by_contra
                  have := mpos (show 0 < b - s by grind) (show 0 < -α by grind)
                  have := mnn (show 0 ≤ s - a by grind) (show 0 ≤ -β by grind)
                  grind
                exact n2 ⟨by grind, by grind, by grind, by grind, by grind⟩
              · intro g
                false_or_by_contra
                rename_i hd
                have p1 := mpos hs g
                have p2 := mnn (show 0 ≤ s - y by grind) (show 0 ≤ -γ by grind)
                have ha : 0 ≤ α := by
                  false_or_by_contra
                  have := mpos (show 0 < b - y by grind) (show 0 < -α by grind)
                  have := mnn (show 0 ≤ y - a by grind) (show 0 ≤ -β by grind)
                  grind
                have hb : β ≤ 0 := by
                  false_or_by_contra
                  have := mpos (show 0 < b - s by grind) (show 0 < α by grind)
                  have := mnn (show 0 ≤ s - a by grind) (show 0 ≤ β by grind)
                  grind
                exact n1 ⟨by grind, by grind, by grind, by grind, by grind⟩
          by_cases hne : α - β = 0
          · have : γ = δ := by grind
            rw [this]
          · exact key hne
        clear n1 n2 e1 e2 e3 z
        grind
  · by_cases c2 : a ≤ s
    · have hs : 0 < s - y := by grind
      by_cases c3 : b ≤ s
      · -- mid, mid
        have k : (α < 0) ↔ (β < 0) := by
          constructor
          · intro g
            false_or_by_contra
            rename_i hb
            have q1 := mpos (show 0 < b - y by grind) (show 0 < -α by grind)
            have q2 := mnn (show 0 ≤ a - y by grind) (show 0 ≤ β by grind)
            have hg : 0 < γ := pos_of hs (by grind)
            have q3 := mnn (show 0 ≤ s - b by grind) (show 0 ≤ -α by grind)
            have q4 := mnn (show 0 ≤ s - a by grind) (show 0 ≤ β by grind)
            have hd : δ ≤ 0 := np_of hs (by grind)
            exact n2 ⟨by grind, by grind, by grind, by grind, by grind⟩
          · intro g
            false_or_by_contra
            rename_i hb
            have q1 := mnn (show 0 ≤ b - y by grind) (show 0 ≤ α by grind)
            have q2 := mpos (show 0 < a - y by grind) (show 0 < -β by grind)
            have hg : γ < 0 := neg_of hs (by grind)
            have q3 := mnn (show 0 ≤ s - b by grind) (show 0 ≤ α by grind)
            have q4 := mnn (show 0 ≤ s - a by grind) (show 0 ≤ -β by grind)
            have hd : 0 ≤ δ := nn_of hs (by grind)
            exact n1 ⟨by grind, by grind, by grind, by grind, by grind⟩
        clear n1 n2 e1 e2 e3 z
        grind
      · -- mid, above
        have k : (0 < δ) ↔ (α < 0) := by
          constructor
          · intro g
            false_or_by_contra
            rename_i ha
            have p := mpos hs g
            have q1 := mnn (show 0 ≤ b - s by grind) (show 0 ≤ α by grind)
            have hb : β < 0 := by
              false_or_by_contra
              have := mnn (show 0 ≤ s - a by grind) (show 0 ≤ β by grind)
              grind
            have q2 := mnn (show 0 ≤ b - y by grind) (show 0 ≤ α by grind)
            have q3 := mpos (show 0 < a - y by grind) (show 0 < -β by grind)
            have hg : γ < 0 := neg_of hs (by grind)
            exact n1 ⟨by grind, by grind, by grind, by grind, by grind⟩
          · intro g
            false_or_by_contra
            rename_i ha
            have p := mnn (show 0 ≤ s - y by grind) (show 0 ≤ -δ by grind)
            have q1 := mpos (show 0 < b - s by grind) (show 0 < -α by grind)
            have hb : 0 < β := by
              false_or_by_contra
              have := mnn (show 0 ≤ s - a by grind) (show 0 ≤ -β by grind)
              grind
            have q2 := mpos (show 0 < b - y by grind) (show 0 < -α by grind)
            have q3 := mpos (show 0 < a - y by grind) hb
            have hg : 0 < γ := pos_of hs (by grind)
            exact n2 ⟨by grind, by grind, by grind, by grind, by grind⟩
        clear n1 n2 e1 e2 e3 z
        grind
    · grind
theorem edge_any {u v q r : Q2} (hq : q.2 ≤ r.2) (h : ¬ MeetJ u v q r) : wT u v q - wT u v r = phi q r v - phi q r u := by
  rcases (Rat.le_total : u.2 ≤ v.2 ∨ v.2 ≤ u.2) with k | k
  · exact edge_up hq k h
  · have := edge_up (u := v) (v := u) hq k (fun m => h (meet_swap m))
    have := wT_back u v q
    have := wT_back u v r
    omega
/-- The segments along a list. -/
def pe : Q2 → List Q2 → List (Q2 × Q2)
  | _, [] => []
  | a, b :: l => (a, b) :: pe b l
/-- The segments of a way round. -/
def eds : List Q2 → List (Q2 × Q2)
  | [] => []
  | a :: l => pe a (l ++ [a])
def wsum (q : Q2) (l : List (Q2 × Q2)) : Int := (l.map (fun e => wT e.1 e.2 q)).sum
/-- How often a way goes round a point. -/
def wn (P : List Q2) (q : Q2) : Int := wsum q (eds P)
theorem pe_app (a : Q2) (l : List Q2) (b : Q2) (m : List Q2) : pe a (l ++ b :: m) = pe a (l ++ [b]) ++ pe b m := by
  induction l generalizing a with
  | nil => rfl
  | cons c l ih => simp only [List.cons_append, pe, ih]
theorem pe_mem {a : Q2} {l : List Q2} {e : Q2 × Q2} (h : e ∈ pe a l) : e.1 ∈ a :: l ∧ e.2 ∈ l := by
  induction l generalizing a with
  | nil => simp [pe] at h
  | cons b l ih =>
    simp only [pe, List.mem_cons] at h
    rcases h with rfl | h
    · simp
    · have := ih h
      exact ⟨List.mem_cons_of_mem _ this.1, List.mem_cons_of_mem _ this.2⟩
theorem ed_mem {P : List Q2} {e : Q2 × Q2} (h : e ∈ eds P) : e.1 ∈ P ∧ e.2 ∈ P := by
  cases P with
  | nil => simp [eds] at h
  | cons a l =>
    have := pe_mem h
    simp only [List.mem_cons, List.mem_append] at this ⊢
    grind
theorem wsum_app (q : Q2) (l m : List (Q2 × Q2)) : wsum q (l ++ m) = wsum q l + wsum q m := by simp [wsum]
theorem wsum_cons (q : Q2) (e : Q2 × Q2) (l : List (Q2 × Q2)) : wsum q (e :: l) = wT e.1 e.2 q + wsum q l := by simp [wsum]
theorem wsum_nil (q : Q2) : wsum q [] = 0 := rfl
theorem tele (f : Q2 → Int) (q r : Q2) : ∀ (a : Q2) (l : List Q2) (b : Q2), (∀ e ∈ pe a (l ++ [b]), wT e.1 e.2 q - wT e.1 e.2 r = f e.2 - f e.1) → wsum q (pe a (l ++ [b])) - wsum r (pe a (l ++ [b])) = f b - f a
  | a, [], b, h => by
    have := h (a, b) (by simp [pe])
    simp only [List.nil_append, pe, wsum_cons, wsum_nil] at this ⊢
    omega
  | a, c :: l, b, h => by
    have h0 := h (a, c) (by simp [pe])
    have ih := tele f q r c l b (fun e he => h e (by simp only [List.cons_append, pe, List.mem_cons]; exact .inr he))
    simp only [List.cons_append, pe, wsum_cons] at h0 ih ⊢
    omega
/-- Where no segment is met, the number stays. -/
theorem wn_const {P : List Q2} {q r : Q2} (h : ∀ e ∈ eds P, ¬ MeetJ e.1 e.2 q r) : wn P q = wn P r := by
  cases P with
  | nil => rfl
  | cons a l =>
    show wsum q (pe a (l ++ [a])) = wsum r (pe a (l ++ [a]))
    rcases (Rat.le_total : q.2 ≤ r.2 ∨ r.2 ≤ q.2) with k | k
    · have := tele (phi q r) q r a l a (fun e he => edge_any k (h e he))
      omega
    · have := tele (phi r q) r q a l a (fun e he => edge_any k (fun ⟨x, m1, t, t0, t1, m2⟩ => h e he ⟨x, m1, 1 - t, by grind, by grind, by rw [m2]; unfold lerp; apply Prod.ext <;> simp only <;> grind⟩))
      omega
def fl (α β : Rat) (p : Q2) : Rat := α * p.1 + β * p.2
theorem sep_edge {α β : Rat} {u v q : Q2} (hu : fl α β q < fl α β u) (hv : fl α β q < fl α β v) : wT u v q = if 0 < α then (if q.2 < v.2 then 1 else 0) - (if q.2 < u.2 then 1 else 0) else 0 := by
  have e : (q.2 - u.2) * (fl α β v - fl α β q) + (v.2 - q.2) * (fl α β u - fl α β q) = α * jc u v q := by unfold fl jc; grind
  unfold wT
  by_cases c1 : u.2 ≤ q.2
  · by_cases c2 : q.2 < v.2
    · have p1 := mnn (show 0 ≤ q.2 - u.2 by grind) (show 0 ≤ fl α β v - fl α β q by grind)
      have p2 := mpos (show 0 < v.2 - q.2 by grind) (show 0 < fl α β u - fl α β q by grind)
      have hp : 0 < α * jc u v q := by grind
      have k : 0 < α ↔ 0 < jc u v q := ⟨fun h => pos_of h hp, fun h => pos_of h (by grind)⟩
      grind
    · grind
  · by_cases c2 : v.2 ≤ q.2
    · have p1 := mpos (show 0 < u.2 - q.2 by grind) (show 0 < fl α β v - fl α β q by grind)
      have p2 := mnn (show 0 ≤ q.2 - v.2 by grind) (show 0 ≤ fl α β u - fl α β q by grind)
      have hp : α * jc u v q < 0 := by grind
      have k : 0 < α ↔ jc u v q < 0 := ⟨fun h => neg_of h hp, fun h => pos_of (x := -jc u v q) (by grind) (by grind)⟩
      grind
    · grind
theorem tele0 (f : Q2 → Int) (q : Q2) : ∀ (a : Q2) (l : List Q2) (b : Q2), (∀ e ∈ pe a (l ++ [b]), wT e.1 e.2 q = f e.2 - f e.1) → wsum q (pe a (l ++ [b])) = f b - f a
  | a, [], b, h => by
    have := h (a, b) (by simp [pe])
    simp only [List.nil_append, pe, wsum_cons, wsum_nil] at this ⊢
    omega
  | a, c :: l, b, h => by
    have h0 := h (a, c) (by simp [pe])
    have ih := tele0 f q c l b (fun e he => h e (by simp only [List.cons_append, pe, List.mem_cons]; exact .inr he))
    simp only [List.cons_append, pe, wsum_cons] at h0 ih ⊢
    omega
/-- A way doesn't go round a point that lies apart from it. -/
theorem wn_sep {α β : Rat} {P : List Q2} {q : Q2} (h : ∀ p ∈ P, fl α β q < fl α β p) : wn P q = 0 := by
  cases P with
  | nil => rfl
  | cons a l =>
    have := tele0 (fun p => if 0 < α then (if q.2 < p.2 then 1 else 0) else 0) q a l a (fun e he => by
      have m := ed_mem (P := a :: l) he
      have := sep_edge (h _ m.1) (h _ m.2)
      rw [this]
      by_cases c : 0 < α <;> simp [c])
    have e : wn (a :: l) q = wsum q (pe a (l ++ [a])) := rfl
    rw [e, this]
    omega
theorem wn_tri (a b c q : Q2) : wn [a, b, c] q = wT a b q + wT b c q + wT c a q := by
  simp [wn, eds, pe, wsum]
  omega
theorem jc_three (a b c q : Q2) : jc a b q + jc b c q + jc c a q = jc a b c := by unfold jc; grind
theorem jc_y (a b c q : Q2) : jc b c q * (a.2 - q.2) + jc c a q * (b.2 - q.2) + jc a b q * (c.2 - q.2) = 0 := by unfold jc; grind
/-- Once round what is within a triangle. -/
theorem tri_in {a b c q : Q2} (h1 : 0 < jc a b q) (h2 : 0 < jc b c q) (h3 : 0 < jc c a q) : wn [a, b, c] q = 1 := by
  rw [wn_tri]
  have e := jc_y a b c q
  have hs := jc_three a b c q
  have n1 : ¬ (q.2 < a.2 ∧ q.2 < b.2 ∧ q.2 < c.2) := fun ⟨x, y, z⟩ => by
    have := mpos h2 (show 0 < a.2 - q.2 by grind)
    have := mpos h3 (show 0 < b.2 - q.2 by grind)
    have := mpos h1 (show 0 < c.2 - q.2 by grind)
    grind
  have n2 : ¬ (a.2 ≤ q.2 ∧ b.2 ≤ q.2 ∧ c.2 ≤ q.2) := fun ⟨x, y, z⟩ => by
    have m1 := mnn (Rat.le_of_lt h2) (show 0 ≤ q.2 - a.2 by grind)
    have m2 := mnn (Rat.le_of_lt h3) (show 0 ≤ q.2 - b.2 by grind)
    have m3 := mnn (Rat.le_of_lt h1) (show 0 ≤ q.2 - c.2 by grind)
    have z1 : q.2 - a.2 = 0 := by
      have := np_of h2 (show jc b c q * (q.2 - a.2) ≤ 0 by grind)
      grind
    have z2 : q.2 - b.2 = 0 := by
      have := np_of h3 (show jc c a q * (q.2 - b.2) ≤ 0 by grind)
      grind
    have : jc a b q = 0 := by unfold jc; grind
    grind
  unfold wT
  grind
theorem tri_off1 {a b c q : Q2} (h : 0 < jc a b c) (h1 : jc a b q < 0) : wn [a, b, c] q = 0 := by
  have e : ∀ p, fl (-(b.2 - a.2)) (b.1 - a.1) p - fl (-(b.2 - a.2)) (b.1 - a.1) q = jc a b p - jc a b q := fun p => by unfold fl jc; grind
  apply wn_sep (α := -(b.2 - a.2)) (β := b.1 - a.1)
  intro p hp
  have hz : jc a b a = 0 := by unfold jc; grind
  have hz2 : jc a b b = 0 := by unfold jc; grind
  have := e p
  simp only [List.mem_cons, List.not_mem_nil, or_false] at hp
  rcases hp with rfl | rfl | rfl <;> grind
theorem wn_tri_rot (a b c q : Q2) : wn [b, c, a] q = wn [a, b, c] q := by rw [wn_tri, wn_tri]; omega
theorem tri_out {a b c q : Q2} (h : 0 < jc a b c) (h1 : jc a b q < 0 ∨ jc b c q < 0 ∨ jc c a q < 0) : wn [a, b, c] q = 0 := by
  rcases h1 with k | k | k
  · exact tri_off1 h k
  · rw [← wn_tri_rot]; exact tri_off1 (by rw [jc_rot]; exact h) k
  · rw [← wn_tri_rot, ← wn_tri_rot]; exact tri_off1 (by rw [jc_rot, jc_rot]; exact h) k
/-- The same way, begun elsewhere. -/
structure Same (P P' : List Q2) : Prop where
  mem : ∀ p, p ∈ P' ↔ p ∈ P
  ed : ∀ e, e ∈ eds P' ↔ e ∈ eds P
  wn : ∀ q, wn P' q = wn P q
  len : P'.length = P.length
  nd : P'.Nodup ↔ P.Nodup
theorem eds_rot (a : Q2) (s : List Q2) (b : Q2) (t : List Q2) : eds (a :: (s ++ b :: t)) = pe a (s ++ [b]) ++ pe b (t ++ [a]) ∧ eds (b :: (t ++ a :: s)) = pe b (t ++ [a]) ++ pe a (s ++ [b]) := by
  constructor
  · show pe a ((s ++ b :: t) ++ [a]) = _
    rw [List.append_assoc, List.cons_append, pe_app]
  · show pe b ((t ++ a :: s) ++ [b]) = _
    rw [List.append_assoc, List.cons_append, pe_app]
theorem rot_to {P : List Q2} {b : Q2} (h : b ∈ P) : ∃ l, Same P (b :: l) := by
  obtain ⟨s, t, rfl⟩ := List.append_of_mem h
  cases s with
  | nil => exact ⟨t, ⟨fun _ => Iff.rfl, fun _ => Iff.rfl, fun _ => rfl, rfl, Iff.rfl⟩⟩
  | cons a s =>
    refine ⟨t ++ a :: s, ?_, ?_, ?_, ?_, ?_⟩
    · intro p
      simp only [List.mem_cons, List.mem_append, List.cons_append]
      grind
    · intro e
      rw [(eds_rot a s b t).2, List.cons_append, (eds_rot a s b t).1, List.mem_append, List.mem_append]
      exact Or.comm
    · intro q
      unfold wn
      rw [(eds_rot a s b t).2, List.cons_append, (eds_rot a s b t).1, wsum_app, wsum_app]
      omega
    · simp only [List.length_cons, List.length_append]
      omega
    · have : (b :: (t ++ a :: s)).Perm (a :: s ++ b :: t) := by
        have := List.perm_append_comm (l₁ := b :: t) (l₂ := a :: s)
        simpa using this
      exact this.nodup_iff
def rv : List Q2 → List Q2
  | [] => []
  | a :: l => a :: l.reverse
theorem pe_rev : ∀ (a : Q2) (l : List Q2) (b : Q2), pe b (l.reverse ++ [a]) = ((pe a (l ++ [b])).map (fun e => (e.2, e.1))).reverse
  | a, [], b => rfl
  | a, c :: l, b => by
    rw [List.reverse_cons, List.append_assoc, List.singleton_append, pe_app, pe_rev c l b]
    simp [pe]
theorem eds_rev (P : List Q2) : eds (rv P) = ((eds P).map (fun e => (e.2, e.1))).reverse := by
  cases P with
  | nil => rfl
  | cons a l => exact pe_rev a l a
theorem ed_rev {P : List Q2} {u v : Q2} : (u, v) ∈ eds (rv P) ↔ (v, u) ∈ eds P := by
  rw [eds_rev]
  rw [List.mem_reverse, List.mem_map]
  constructor
  · rintro ⟨e, h, he⟩
    have h1 : e.2 = u := congrArg Prod.fst he
    have h2 : e.1 = v := congrArg Prod.snd he
    rw [← h1, ← h2]; exact h
  · intro h; exact ⟨(v, u), h, rfl⟩
theorem wsum_rev (q : Q2) : ∀ l : List (Q2 × Q2), wsum q ((l.map (fun e => (e.2, e.1))).reverse) = -wsum q l
  | [] => rfl
  | e :: l => by
    rw [List.map_cons, List.reverse_cons, wsum_app, wsum_rev q l, wsum_cons, wsum_cons, wsum_nil]
    have := wT_back e.1 e.2 q
    simp only
    omega
theorem wn_rev (P : List Q2) (q : Q2) : wn (rv P) q = -wn P q := by unfold wn; rw [eds_rev, wsum_rev]
theorem mem_rv {P : List Q2} {p : Q2} : p ∈ rv P ↔ p ∈ P := by cases P <;> simp [rv]
theorem len_rv (P : List Q2) : (rv P).length = P.length := by cases P <;> simp [rv]
theorem rv_rv (P : List Q2) : rv (rv P) = P := by cases P <;> simp [rv]
theorem nd_rv {P : List Q2} (h : P.Nodup) : (rv P).Nodup := by
  cases P with
  | nil => exact h
  | cons a l =>
    simp only [rv, List.nodup_cons, List.mem_reverse] at h ⊢
    exact ⟨h.1, (List.reverse_perm l).nodup_iff.2 h.2⟩
theorem on_swap {a b x : Q2} (h : OnJ a b x) : OnJ b a x := by
  obtain ⟨t, t0, t1, e⟩ := h
  exact ⟨1 - t, by grind, by grind, by rw [e]; unfold lerp; apply Prod.ext <;> simp only <;> grind⟩
theorem on_fst (a b : Q2) : OnJ a b a := ⟨0, by grind, by grind, by unfold lerp; apply Prod.ext <;> simp only <;> grind⟩
theorem on_snd (a b : Q2) : OnJ a b b := ⟨1, by grind, by grind, by unfold lerp; apply Prod.ext <;> simp only <;> grind⟩
/-- A simple way. -/
structure SimJ (P : List Q2) : Prop where
  n3 : 3 ≤ P.length
  nd : P.Nodup
  cr : ∀ e ∈ eds P, ∀ e' ∈ eds P, e ≠ e' → ∀ x, OnJ e.1 e.2 x → OnJ e'.1 e'.2 x → (x = e.1 ∨ x = e.2) ∧ (x = e'.1 ∨ x = e'.2)
theorem SimJ.same {P P' : List Q2} (h : SimJ P) (s : Same P P') : SimJ P' :=
  ⟨by rw [s.len]; exact h.n3, s.nd.2 h.nd, fun e he e' he' => h.cr e ((s.ed e).1 he) e' ((s.ed e').1 he')⟩
theorem SimJ.rev {P : List Q2} (h : SimJ P) : SimJ (rv P) := by
  refine ⟨by rw [len_rv]; exact h.n3, nd_rv h.nd, ?_⟩
  rintro ⟨u, v⟩ he ⟨u', v'⟩ he' hne x hx hx'
  have := h.cr (v, u) (ed_rev.1 he) (v', u') (ed_rev.1 he') (by intro e; apply hne; simp only [Prod.mk.injEq] at e ⊢; exact ⟨e.2, e.1⟩) x (on_swap hx) (on_swap hx')
  simp only at this ⊢
  exact ⟨this.1.symm, this.2.symm⟩
theorem out_ed {P : List Q2} {x : Q2} (h : x ∈ P) : ∃ y, (x, y) ∈ eds P := by
  obtain ⟨l, s⟩ := rot_to h
  cases l with
  | nil => exact ⟨x, (s.ed _).1 (by simp [eds, pe])⟩
  | cons y l => exact ⟨y, (s.ed _).1 (by simp [eds, pe])⟩
/-- A corner on a segment is its end. -/
theorem SimJ.corner {P : List Q2} (h : SimJ P) {x : Q2} {e : Q2 × Q2} (hx : x ∈ P) (he : e ∈ eds P) (ho : OnJ e.1 e.2 x) : x = e.1 ∨ x = e.2 := by
  obtain ⟨y, hy⟩ := out_ed hx
  by_cases c : e = (x, y)
  · exact .inl (by rw [c])
  · exact (h.cr e he (x, y) hy c x ho (on_fst x y)).1
/-- Off a way. -/
def Off (P : List Q2) (q : Q2) : Prop := ∀ e ∈ eds P, ¬ OnJ e.1 e.2 q
theorem Off.same {P P' : List Q2} {q : Q2} (h : Off P q) (s : Same P P') : Off P' q := fun e he => h e ((s.ed e).1 he)
theorem Off.rev {P : List Q2} {q : Q2} (h : Off P q) : Off (rv P) q := fun ⟨u, v⟩ he ho => h (v, u) (ed_rev.1 he) (on_swap ho)
/-- On a segment, by signs. -/
theorem on_iff {u v x : Q2} : OnJ u v x ↔ jc u v x = 0 ∧ (u.1 ≤ x.1 ∧ x.1 ≤ v.1 ∨ v.1 ≤ x.1 ∧ x.1 ≤ u.1) ∧ (u.2 ≤ x.2 ∧ x.2 ≤ v.2 ∨ v.2 ≤ x.2 ∧ x.2 ≤ u.2) := by
  constructor
  · rintro ⟨t, t0, t1, rfl⟩
    have k : ∀ a b : Rat, (a ≤ a + t * (b - a) ∧ a + t * (b - a) ≤ b) ∨ (b ≤ a + t * (b - a) ∧ a + t * (b - a) ≤ a) := by
      intro a b
      rcases (Rat.le_total : a ≤ b ∨ b ≤ a) with h | h
      · have := mnn t0 (show 0 ≤ b - a by grind)
        have := mnn (show 0 ≤ 1 - t by grind) (show 0 ≤ b - a by grind)
        exact .inl (by grind)
      · have := mnn t0 (show 0 ≤ a - b by grind)
        have := mnn (show 0 ≤ 1 - t by grind) (show 0 ≤ a - b by grind)
        exact .inr (by grind)
    exact ⟨by unfold jc lerp; grind, k u.1 v.1, k u.2 v.2⟩
  · rintro ⟨h0, hx, hy⟩
    by_cases c1 : v.1 - u.1 = 0
    · by_cases c2 : v.2 - u.2 = 0
      · exact ⟨0, by grind, by grind, by unfold lerp; apply Prod.ext <;> simp only <;> grind⟩
      · have i : (v.2 - u.2) * (v.2 - u.2)⁻¹ = 1 := Rat.mul_inv_cancel _ c2
        refine ⟨(x.2 - u.2) / (v.2 - u.2), ?_⟩
        have d : 0 ≤ (x.2 - u.2) / (v.2 - u.2) ∧ (x.2 - u.2) / (v.2 - u.2) ≤ 1 := by
          rcases hy with hy | hy
          · exact div_01 (by grind) (by grind) (by grind)
          · have := div_01 (show 0 ≤ u.2 - x.2 by grind) (show u.2 - x.2 ≤ u.2 - v.2 by grind) (by grind)
            have e : (u.2 - x.2) / (u.2 - v.2) = (x.2 - u.2) / (v.2 - u.2) := by
              have i2 : (u.2 - v.2) * (u.2 - v.2)⁻¹ = 1 := Rat.mul_inv_cancel _ (by grind)
              rw [Rat.div_def, Rat.div_def]
              grind
            rw [← e]; exact this
        refine ⟨d.1, d.2, ?_⟩
        rw [Rat.div_def]
        unfold lerp
        apply Prod.ext <;> simp only <;> grind
    · have i : (v.1 - u.1) * (v.1 - u.1)⁻¹ = 1 := Rat.mul_inv_cancel _ c1
      refine ⟨(x.1 - u.1) / (v.1 - u.1), ?_⟩
      have d : 0 ≤ (x.1 - u.1) / (v.1 - u.1) ∧ (x.1 - u.1) / (v.1 - u.1) ≤ 1 := by
        rcases hx with hx | hx
        · exact div_01 (by grind) (by grind) (by grind)
        · have := div_01 (show 0 ≤ u.1 - x.1 by grind) (show u.1 - x.1 ≤ u.1 - v.1 by grind) (by grind)
          have e : (u.1 - x.1) / (u.1 - v.1) = (x.1 - u.1) / (v.1 - u.1) := by
            have i2 : (u.1 - v.1) * (u.1 - v.1)⁻¹ = 1 := Rat.mul_inv_cancel _ (by grind)
            rw [Rat.div_def, Rat.div_def]
            grind
          rw [← e]; exact this
      refine ⟨d.1, d.2, ?_⟩
      rw [Rat.div_def]
      unfold jc at h0
      unfold lerp
      apply Prod.ext <;> simp only <;> grind
/-- Near a point. -/
structure Nr (ε : Rat) (m x : Q2) : Prop where
  a : m.1 - ε ≤ x.1
  b : x.1 ≤ m.1 + ε
  c : m.2 - ε ≤ x.2
  d : x.2 ≤ m.2 + ε
theorem mabs {A d ε : Rat} (h1 : -ε ≤ d) (h2 : d ≤ ε) : ∃ A', A ≤ A' ∧ -A ≤ A' ∧ A * d ≤ A' * ε ∧ -(A * d) ≤ A' * ε := by
  rcases (Rat.le_total : 0 ≤ A ∨ A ≤ 0) with h | h
  · have := mnn h (show 0 ≤ ε - d by grind)
    have := mnn h (show 0 ≤ ε + d by grind)
    exact ⟨A, by grind, by grind, by grind, by grind⟩
  · have := mnn (show 0 ≤ -A by grind) (show 0 ≤ ε - d by grind)
    have := mnn (show 0 ≤ -A by grind) (show 0 ≤ ε + d by grind)
    exact ⟨-A, by grind, by grind, by grind, by grind⟩
def ab (A : Rat) : Rat := if 0 ≤ A then A else -A
theorem ab_nn (A : Rat) : 0 ≤ ab A := by unfold ab; grind
theorem ab_le (A : Rat) : A ≤ ab A ∧ -A ≤ ab A := by unfold ab; grind
theorem ab_mul {A d ε : Rat} (h1 : -ε ≤ d) (h2 : d ≤ ε) : A * d ≤ ab A * ε ∧ -(A * d) ≤ ab A * ε := by
  unfold ab
  by_cases h : 0 ≤ A
  · rw [if_pos h]
    have := mnn h (show 0 ≤ ε - d by grind)
    have := mnn h (show 0 ≤ ε + d by grind)
    grind
  · rw [if_neg h]
    have := mnn (show 0 ≤ -A by grind) (show 0 ≤ ε - d by grind)
    have := mnn (show 0 ≤ -A by grind) (show 0 ≤ ε + d by grind)
    grind
theorem near1 {u v m : Q2} (h : ¬ OnJ u v m) : ∃ ε : Rat, 0 < ε ∧ ∀ x, Nr ε m x → ¬ OnJ u v x := by
  have h' : ¬ (jc u v m = 0 ∧ (u.1 ≤ m.1 ∧ m.1 ≤ v.1 ∨ v.1 ≤ m.1 ∧ m.1 ≤ u.1) ∧ (u.2 ≤ m.2 ∧ m.2 ≤ v.2 ∨ v.2 ≤ m.2 ∧ m.2 ≤ u.2)) := fun k => h (on_iff.2 k)
  have box : ∀ (p a b c : Rat), ¬ (a ≤ p ∧ p ≤ b ∨ b ≤ p ∧ p ≤ a) → ∃ ε : Rat, 0 < ε ∧ ∀ x, p - ε ≤ x → x ≤ p + ε → ¬ (a ≤ x ∧ x ≤ b ∨ b ≤ x ∧ x ≤ a) := by
    intro p a b c hn
    by_cases h1 : p < a ∧ p < b
    · rcases (Rat.le_total : a ≤ b ∨ b ≤ a) with k | k
      · exact ⟨(a - p) / 2, by grind, fun x _ _ => by grind⟩
      · exact ⟨(b - p) / 2, by grind, fun x _ _ => by grind⟩
    · have h2 : a < p ∧ b < p := by grind
      rcases (Rat.le_total : a ≤ b ∨ b ≤ a) with k | k
      · exact ⟨(p - b) / 2, by grind, fun x _ _ => by grind⟩
      · exact ⟨(p - a) / 2, by grind, fun x _ _ => by grind⟩
  by_cases c0 : jc u v m = 0
  · by_cases c1 : (u.1 ≤ m.1 ∧ m.1 ≤ v.1 ∨ v.1 ≤ m.1 ∧ m.1 ≤ u.1)
    · obtain ⟨ε, e0, e1⟩ := box m.2 u.2 v.2 0 (fun k => h' ⟨c0, c1, k⟩)
      exact ⟨ε, e0, fun x n o => e1 x.2 n.c n.d (on_iff.1 o).2.2⟩
    · obtain ⟨ε, e0, e1⟩ := box m.1 u.1 v.1 0 c1
      exact ⟨ε, e0, fun x n o => e1 x.1 n.a n.b (on_iff.1 o).2.1⟩
  · obtain ⟨D, hD⟩ : ∃ D, D = ab (v.1 - u.1) + ab (v.2 - u.2) + 1 := ⟨_, rfl⟩
    have D1 : 1 ≤ D := by have := ab_nn (v.1 - u.1); have := ab_nn (v.2 - u.2); grind
    have i : D * D⁻¹ = 1 := Rat.mul_inv_cancel _ (by grind)
    have ip := Rat.inv_pos.2 (show 0 < D by grind)
    have J0 : 0 < ab (jc u v m) := by unfold ab; grind
    refine ⟨ab (jc u v m) * D⁻¹, mpos J0 ip, fun x n o => ?_⟩
    have e := (on_iff.1 o).1
    have k : jc u v x - jc u v m = (v.1 - u.1) * (x.2 - m.2) - (v.2 - u.2) * (x.1 - m.1) := by unfold jc; grind
    generalize hE : ab (jc u v m) * D⁻¹ = E at *
    have E0 : 0 < E := by rw [← hE]; exact mpos J0 ip
    have t1 := ab_mul (A := v.1 - u.1) (d := x.2 - m.2) (ε := E) (by have := n.c; grind) (by have := n.d; grind)
    have t2 := ab_mul (A := v.2 - u.2) (d := x.1 - m.1) (ε := E) (by have := n.a; grind) (by have := n.b; grind)
    have DE : D * E = ab (jc u v m) := by rw [← hE]; grind
    have j := ab_le (jc u v m)
    have j2 : ab (jc u v m) = jc u v m ∨ ab (jc u v m) = -jc u v m := by unfold ab; grind
    have DE' : ab (v.1 - u.1) * E + ab (v.2 - u.2) * E + E = ab (jc u v m) := by rw [← DE, hD]; grind
    clear hD DE hE i ip D1
    generalize (v.1 - u.1) * (x.2 - m.2) = X at *
    generalize (v.2 - u.2) * (x.1 - m.1) = Y at *
    generalize ab (v.1 - u.1) * E = A at *
    generalize ab (v.2 - u.2) * E = B at *
    generalize ab (jc u v m) = J at *
    generalize jc u v m = M at *
    generalize jc u v x = N at *
    clear h' box h n o
    rcases j2 with j2 | j2 <;> grind
theorem near_all {m : Q2} : ∀ E : List (Q2 × Q2), (∀ e ∈ E, ¬ OnJ e.1 e.2 m) → ∃ ε : Rat, 0 < ε ∧ ∀ x, Nr ε m x → ∀ e ∈ E, ¬ OnJ e.1 e.2 x
  | [], _ => ⟨1, by grind, fun _ _ _ h => by simp at h⟩
  | e :: E, h => by
    obtain ⟨ε1, p1, h1⟩ := near1 (h e (by simp))
    obtain ⟨ε2, p2, h2⟩ := near_all E (fun e he => h e (by simp [he]))
    rcases (Rat.le_total : ε1 ≤ ε2 ∨ ε2 ≤ ε1) with k | k
    · refine ⟨ε1, p1, fun x n e' he' => ?_⟩
      rcases List.mem_cons.1 he' with rfl | he'
      · exact h1 x n
      · exact h2 x ⟨by have := n.a; grind, by have := n.b; grind, by have := n.c; grind, by have := n.d; grind⟩ e' he'
    · refine ⟨ε2, p2, fun x n e' he' => ?_⟩
      rcases List.mem_cons.1 he' with rfl | he'
      · exact h1 x ⟨by have := n.a; grind, by have := n.b; grind, by have := n.c; grind, by have := n.d; grind⟩
      · exact h2 x n e' he'
/-- A small step: δ times d stays near, for each d that is no greater than K. -/
theorem near_step {ε K : Rat} (hε : 0 < ε) (hK : 0 ≤ K) : ∃ δ : Rat, 0 < δ ∧ δ ≤ 1 ∧ ∀ (m d : Q2), -K ≤ d.1 → d.1 ≤ K → -K ≤ d.2 → d.2 ≤ K → ∀ s, -δ ≤ s → s ≤ δ → Nr ε m (m.1 + s * d.1, m.2 + s * d.2) := by
  have key : ∃ δ : Rat, 0 < δ ∧ δ ≤ 1 ∧ δ * K ≤ ε := by
    have i : (K + 1) * (K + 1)⁻¹ = 1 := Rat.mul_inv_cancel _ (by grind)
    have ip := Rat.inv_pos.2 (show 0 < K + 1 by grind)
    have q := mpos hε ip
    have e1 : ε * (K + 1)⁻¹ * (K + 1) = ε := by grind
    rcases (Rat.le_total : ε * (K + 1)⁻¹ ≤ 1 ∨ 1 ≤ ε * (K + 1)⁻¹) with k | k
    · exact ⟨ε * (K + 1)⁻¹, q, k, by grind⟩
    · have := mnn (show 0 ≤ ε * (K + 1)⁻¹ - 1 by grind) (show 0 ≤ K + 1 by grind)
      exact ⟨1, by grind, by grind, by grind⟩
  obtain ⟨δ, d0, d1, dk⟩ := key
  refine ⟨δ, d0, d1, fun m d a1 a2 b1 b2 s s1 s2 => ?_⟩
  have A : ∀ z, -K ≤ z → z ≤ K → -ε ≤ s * z ∧ s * z ≤ ε := by
    intro z z1 z2
    have t := ab_mul (A := z) (d := s) (ε := δ) s1 s2
    have : ab z ≤ K := by unfold ab; grind
    have := mnn (show 0 ≤ δ by grind) (show 0 ≤ K - ab z by grind)
    grind
  have x := A d.1 a1 a2
  have y := A d.2 b1 b2
  exact ⟨by simp only; grind, by simp only; grind, by simp only; grind, by simp only; grind⟩
/-- Within a triangle that turns left, or on it. -/
structure InC (a b c x : Q2) : Prop where
  p : 0 ≤ jc a b x
  q : 0 ≤ jc b c x
  r : 0 ≤ jc c a x
theorem lin2 {x y t : Rat} (t0 : 0 ≤ t) (t1 : t ≤ 1) (hx : 0 ≤ x) (hy : 0 ≤ y) : 0 ≤ (1 - t) * x + t * y := by
  have := mnn (show 0 ≤ 1 - t by grind) hx
  have := mnn t0 hy
  grind
theorem lin_le {x y z t : Rat} (t0 : 0 ≤ t) (t1 : t ≤ 1) (hx : z ≤ x) (hy : z ≤ y) : z ≤ (1 - t) * x + t * y := by
  have := mnn (show 0 ≤ 1 - t by grind) (show 0 ≤ x - z by grind)
  have := mnn t0 (show 0 ≤ y - z by grind)
  grind
theorem lin_lt {x y z t : Rat} (t0 : 0 ≤ t) (t1 : t ≤ 1) (hx : z < x) (hy : z < y) : z < (1 - t) * x + t * y := by
  rcases (Rat.le_total : x ≤ y ∨ y ≤ x) with k | k
  · have := lin_le (x := x) (y := y) (z := x) t0 t1 (by grind) k; grind
  · have := lin_le (x := x) (y := y) (z := y) t0 t1 k (by grind); grind
theorem InC.lerp {a b c x y : Q2} {t : Rat} (h : InC a b c x) (k : InC a b c y) (t0 : 0 ≤ t) (t1 : t ≤ 1) : InC a b c (lerp x y t) :=
  ⟨by rw [jc_lerp]; exact lin2 t0 t1 h.p k.p, by rw [jc_lerp]; exact lin2 t0 t1 h.q k.q, by rw [jc_lerp]; exact lin2 t0 t1 h.r k.r⟩
theorem jc_aa (a b : Q2) : jc a b a = 0 := by unfold jc; grind
theorem jc_ab (a b : Q2) : jc a b b = 0 := by unfold jc; grind
theorem inC_a {a b c : Q2} (h : 0 < jc a b c) : InC a b c a := ⟨by rw [jc_aa]; grind, by rw [jc_rot]; grind, by rw [jc_ab]; grind⟩
theorem inC_b {a b c : Q2} (h : 0 < jc a b c) : InC a b c b := ⟨by rw [jc_ab]; grind, by rw [jc_aa]; grind, by rw [jc_rot, jc_rot]; grind⟩
theorem inC_c {a b c : Q2} (h : 0 < jc a b c) : InC a b c c := ⟨by grind, by rw [jc_ab]; grind, by rw [jc_aa]; grind⟩
theorem on_ac {a b c x : Q2} (h : 0 < jc a b c) (o : OnJ a c x) : InC a b c x ∧ jc c a x = 0 := by
  obtain ⟨t, t0, t1, rfl⟩ := o
  exact ⟨(inC_a h).lerp (inC_c h) t0 t1, by rw [jc_lerp, jc_ab, jc_aa]; grind⟩
theorem on_ab {a b c y : Q2} (h : 0 < jc a b c) (h0 : jc a b y = 0) (h1 : 0 ≤ jc b c y) (h2 : 0 ≤ jc c a y) : OnJ a b y := by
  have s := jc_three a b c y
  have d := div_01 h2 (show jc c a y ≤ jc a b c by grind) h
  refine ⟨jc c a y / jc a b c, d.1, d.2, ?_⟩
  have i : jc a b c * (jc a b c)⁻¹ = 1 := Rat.mul_inv_cancel _ (by grind)
  rw [Rat.div_def]
  have e1 : jc b c y * (a.1 - y.1) + jc c a y * (b.1 - y.1) + jc a b y * (c.1 - y.1) = 0 := by unfold jc; grind
  have e2 := jc_y a b c y
  generalize (jc a b c)⁻¹ = I at *
  generalize jc a b c = J at *
  generalize jc b c y = B at *
  generalize jc c a y = C at *
  unfold lerp
  apply Prod.ext <;> simp only <;> grind
theorem on_bc {a b c y : Q2} (h : 0 < jc a b c) (h0 : jc b c y = 0) (h1 : 0 ≤ jc a b y) (h2 : 0 ≤ jc c a y) : OnJ b c y :=
  on_ab (c := a) (by rw [jc_rot]; exact h) h0 h2 h1
theorem on_ca {a b c y : Q2} (h : 0 < jc a b c) (h0 : jc c a y = 0) (h1 : 0 ≤ jc a b y) (h2 : 0 ≤ jc b c y) : OnJ c a y :=
  on_ab (c := b) (by rw [jc_rot, jc_rot]; exact h) h0 h1 h2
theorem root01 {p p' : Rat} (h : 0 ≤ p) (k : p' < 0) : ∃ t, 0 ≤ t ∧ t ≤ 1 ∧ (1 - t) * p + t * p' = 0 := by
  have d := div_01 h (show p ≤ p - p' by grind) (by grind)
  have i : (p - p') * (p - p')⁻¹ = 1 := Rat.mul_inv_cancel _ (by grind)
  refine ⟨p / (p - p'), d.1, d.2, ?_⟩
  rw [Rat.div_def]
  grind
theorem before {r r' t s : Rat} (hr : 0 ≤ r) (hs : (1 - s) * r + s * r' = 0) (hts : t ≤ s) (h : r' < 0) : 0 ≤ (1 - t) * r + t * r' := by
  have := mnn (show 0 ≤ s - t by grind) (show 0 ≤ r - r' by grind)
  grind
/-- Out of a triangle one comes by one of its sides. -/
theorem leave {a b c x w : Q2} (h : 0 < jc a b c) (hx : InC a b c x) (hw : 0 ≤ jc c a w) (hn : ¬ InC a b c w) : ∃ t, 0 ≤ t ∧ t ≤ 1 ∧ (OnJ a b (lerp x w t) ∨ OnJ b c (lerp x w t)) := by
  have side1 : ∀ t, 0 ≤ t → t ≤ 1 → (1 - t) * jc a b x + t * jc a b w = 0 → 0 ≤ (1 - t) * jc b c x + t * jc b c w → OnJ a b (lerp x w t) := fun t t0 t1 e1 e2 =>
    on_ab h (by rw [jc_lerp]; exact e1) (by rw [jc_lerp]; exact e2) (by rw [jc_lerp]; exact lin2 t0 t1 hx.r hw)
  have side2 : ∀ t, 0 ≤ t → t ≤ 1 → (1 - t) * jc b c x + t * jc b c w = 0 → 0 ≤ (1 - t) * jc a b x + t * jc a b w → OnJ b c (lerp x w t) := fun t t0 t1 e1 e2 =>
    on_bc h (by rw [jc_lerp]; exact e1) (by rw [jc_lerp]; exact e2) (by rw [jc_lerp]; exact lin2 t0 t1 hx.r hw)
  by_cases c1 : jc a b w < 0
  · obtain ⟨t1, a1, b1, e1⟩ := root01 hx.p c1
    by_cases c2 : jc b c w < 0
    · obtain ⟨t2, a2, b2, e2⟩ := root01 hx.q c2
      rcases (Rat.le_total : t1 ≤ t2 ∨ t2 ≤ t1) with k | k
      · exact ⟨t1, a1, b1, .inl (side1 t1 a1 b1 e1 (before hx.q e2 k c2))⟩
      · exact ⟨t2, a2, b2, .inr (side2 t2 a2 b2 e2 (before hx.p e1 k c1))⟩
    · exact ⟨t1, a1, b1, .inl (side1 t1 a1 b1 e1 (lin2 a1 b1 hx.q (by grind)))⟩
  · by_cases c2 : jc b c w < 0
    · obtain ⟨t2, a2, b2, e2⟩ := root01 hx.q c2
      exact ⟨t2, a2, b2, .inr (side2 t2 a2 b2 e2 (lin2 a2 b2 hx.p (by grind)))⟩
    · exact absurd ⟨by grind, by grind, hw⟩ hn
theorem on_on {u v x w : Q2} {t : Rat} (hx : OnJ u v x) (hw : OnJ u v w) (t0 : 0 ≤ t) (t1 : t ≤ 1) : OnJ u v (lerp x w t) := by
  obtain ⟨s, s0, s1, rfl⟩ := hx
  obtain ⟨r, r0, r1, rfl⟩ := hw
  refine ⟨(1 - t) * s + t * r, lin2 t0 t1 s0 r0, ?_, ?_⟩
  · have := lin2 t0 t1 (show 0 ≤ 1 - s by grind) (show 0 ≤ 1 - r by grind); grind
  · unfold lerp; apply Prod.ext <;> simp only <;> grind
/-- The segments of a way with one corner first. -/
theorem eds_at (b c : Q2) (mid : List Q2) (a : Q2) : eds (b :: c :: (mid ++ [a])) = (b, c) :: (pe c (mid ++ [a]) ++ [(a, b)]) := by
  show pe b ((c :: (mid ++ [a])) ++ [b]) = _
  rw [List.cons_append, pe, List.append_assoc, List.singleton_append, pe_app]
  rfl
theorem pe_ends {c : Q2} {mid : List Q2} {a : Q2} {e : Q2 × Q2} (h : e ∈ pe c (mid ++ [a])) : e.1 ∈ c :: mid ∧ e.2 ∈ mid ++ [a] := by
  induction mid generalizing c with
  | nil => simp [pe] at h; subst h; simp
  | cons m mid ih =>
    simp only [List.cons_append, pe, List.mem_cons] at h
    rcases h with rfl | h
    · simp
    · have := ih h
      exact ⟨List.mem_cons_of_mem _ this.1, List.mem_cons_of_mem _ this.2⟩
theorem nd_at {b c : Q2} {mid : List Q2} {a : Q2} (h : (b :: c :: (mid ++ [a])).Nodup) : b ≠ c ∧ b ∉ mid ∧ b ≠ a ∧ c ∉ mid ∧ c ≠ a ∧ a ∉ mid ∧ mid.Nodup := by
  simp only [List.nodup_cons, List.nodup_append, List.mem_cons, List.mem_append, List.mem_nil_iff, or_false, not_or] at h
  obtain ⟨⟨h1, h2, h3⟩, ⟨h4, h5⟩, h6, h7, h8⟩ := h
  exact ⟨h1, h2, h3, h4, h5, fun k => h8 a k a rfl rfl, h6⟩
/-- Nothing of what is left reaches into an empty corner. -/
theorem cut_free {b c : Q2} {mid : List Q2} {a : Q2} (S : SimJ (b :: c :: (mid ++ [a]))) (h : 0 < jc a b c) (hm : mid ≠ []) (he : ∀ p ∈ mid, ¬ InC a b c p) :
    ∀ e ∈ pe c (mid ++ [a]), ∀ x, OnJ e.1 e.2 x → InC a b c x → x = a ∨ x = c := by
  rintro ⟨u, v⟩ hp x hx hi
  obtain ⟨n1, n2, n3, n4, n5, n6, n7⟩ := nd_at S.nd
  have ends := pe_ends hp
  simp only at ends hx
  have uE : u = c ∨ u ∈ mid := List.mem_cons.1 ends.1
  have vE : v ∈ mid ∨ v = a := by have := List.mem_append.1 ends.2; simpa using this
  have ub : u ≠ b := fun k => by rw [k] at uE; exact uE.elim n1 n2
  have vb : v ≠ b := fun k => by rw [k] at vE; exact vE.elim n2 n3
  have ua : u ≠ a := fun k => by rw [k] at uE; exact uE.elim (fun h => n5 h.symm) n6
  have vc : v ≠ c := fun k => by rw [k] at vE; exact vE.elim n4 n5
  have E : (u, v) ∈ eds (b :: c :: (mid ++ [a])) := by rw [eds_at]; simp [hp]
  have E1 : (a, b) ∈ eds (b :: c :: (mid ++ [a])) := by rw [eds_at]; simp
  have E2 : (b, c) ∈ eds (b :: c :: (mid ++ [a])) := by rw [eds_at]; simp
  have onab : ∀ y, OnJ u v y → OnJ a b y → y = a ∧ v = a := fun y h1 h2 => by
    have := S.cr (u, v) E (a, b) E1 (by intro e; simp only [Prod.mk.injEq] at e; exact vb e.2) y h1 h2
    simp only at this
    grind
  have onbc : ∀ y, OnJ u v y → OnJ b c y → y = c ∧ u = c := fun y h1 h2 => by
    have := S.cr (u, v) E (b, c) E2 (by intro e; simp only [Prod.mk.injEq] at e; exact ub e.1) y h1 h2
    simp only at this
    grind
  false_or_by_contra
  rename_i hne
  have xa : x ≠ a := fun k => hne (.inl k)
  have xc : x ≠ c := fun k => hne (.inr k)
  have uv : u ≠ v := by
    rintro rfl
    rcases uE with k | k
    · exact vc k
    · obtain ⟨s, s0, s1, rfl⟩ := hx
      exact he u k (by have : lerp u u s = u := by (unfold lerp; apply Prod.ext <;> simp only <;> grind)
                       rw [this] at hi; exact hi)
  -- no end is beyond ab or bc
  have noU : 0 ≤ jc c a u → InC a b c u := fun hu => by
    false_or_by_contra
    rename_i hn
    obtain ⟨t, t0, t1, k | k⟩ := leave h hi hu hn
    · obtain ⟨k1, k2⟩ := onab _ (on_on hx (on_fst u v) t0 t1) k
      subst k2
      obtain ⟨s, s0, s1, rfl⟩ := hx
      have e : lerp (lerp u v s) u t = lerp u v (s * (1 - t)) := by unfold lerp; apply Prod.ext <;> simp only <;> grind
      rw [e] at k1
      have x1 : (s * (1 - t) - 1) * (v.1 - u.1) = 0 := by have := congrArg Prod.fst k1; unfold lerp at this; simp only at this; grind
      have x2 : (s * (1 - t) - 1) * (v.2 - u.2) = 0 := by have := congrArg Prod.snd k1; unfold lerp at this; simp only at this; grind
      have st : s * (1 - t) = 1 := by
        false_or_by_contra
        rename_i hst
        apply uv
        have i : (s * (1 - t) - 1) * (s * (1 - t) - 1)⁻¹ = 1 := Rat.mul_inv_cancel _ (by grind)
        apply Prod.ext <;> grind
      have s1' : s = 1 := by
        have := mnn s0 t0
        grind
      apply xa
      rw [s1']; unfold lerp; apply Prod.ext <;> simp only <;> grind
    · obtain ⟨k1, k2⟩ := onbc _ (on_on hx (on_fst u v) t0 t1) k
      subst k2
      exact hn (inC_c h)
  have noV : 0 ≤ jc c a v → InC a b c v := fun hu => by
    false_or_by_contra
    rename_i hn
    obtain ⟨t, t0, t1, k | k⟩ := leave h hi hu hn
    · obtain ⟨k1, k2⟩ := onab _ (on_on hx (on_snd u v) t0 t1) k
      subst k2
      exact hn (inC_a h)
    · obtain ⟨k1, k2⟩ := onbc _ (on_on hx (on_snd u v) t0 t1) k
      subst k2
      obtain ⟨s, s0, s1, rfl⟩ := hx
      have e : lerp (lerp u v s) v t = lerp u v (s + t * (1 - s)) := by unfold lerp; apply Prod.ext <;> simp only <;> grind
      rw [e] at k1
      have x1 : (s + t * (1 - s)) * (v.1 - u.1) = 0 := by have := congrArg Prod.fst k1; unfold lerp at this; simp only at this; grind
      have x2 : (s + t * (1 - s)) * (v.2 - u.2) = 0 := by have := congrArg Prod.snd k1; unfold lerp at this; simp only at this; grind
      have st : s + t * (1 - s) = 0 := by
        false_or_by_contra
        rename_i hst
        apply uv
        have i : (s + t * (1 - s)) * (s + t * (1 - s))⁻¹ = 1 := Rat.mul_inv_cancel _ (by grind)
        apply Prod.ext <;> grind
      have s1' : s = 0 := by
        have := mnn t0 (show 0 ≤ 1 - s by grind)
        grind
      apply xc
      rw [s1']; unfold lerp; apply Prod.ext <;> simp only <;> grind
  have U : jc c a u < 0 ∨ u = c := by
    by_cases k : jc c a u < 0
    · exact .inl k
    · rcases uE with k2 | k2
      · exact .inr k2
      · exact absurd (noU (by grind)) (he u k2)
  have V : jc c a v < 0 ∨ v = a := by
    by_cases k : jc c a v < 0
    · exact .inl k
    · rcases vE with k2 | k2
      · exact absurd (noV (by grind)) (he v k2)
      · exact .inr k2
  obtain ⟨s, s0, s1, rfl⟩ := hx
  have g := hi.r
  rw [jc_lerp] at g
  rcases U with k1 | k1 <;> rcases V with k2 | k2
  · have := lin_lt (z := 0) s0 s1 (show 0 < -jc c a u by grind) (show 0 < -jc c a v by grind); grind
  · rw [k2, jc_ab] at g
    have : s = 1 := by
      false_or_by_contra
      have := mpos (show 0 < 1 - s by grind) (show 0 < -jc c a u by grind); grind
    apply xa
    rw [this, k2]; unfold lerp; apply Prod.ext <;> simp only <;> grind
  · rw [k1, jc_aa] at g
    have : s = 0 := by
      false_or_by_contra
      have := mpos (show 0 < s by grind) (show 0 < -jc c a v by grind); grind
    apply xc
    rw [this, k1]; unfold lerp; apply Prod.ext <;> simp only <;> grind
  · subst k1 k2
    cases mid with
    | nil => exact hm rfl
    | cons m mid =>
      simp only [List.cons_append, pe, List.mem_cons, Prod.mk.injEq, true_and] at hp
      rcases hp with k | k
      · exact n6 (by rw [k]; simp)
      · have := (pe_ends k).1
        exact n4 this
theorem eds_cut (c : Q2) (mid : List Q2) (a : Q2) : eds (c :: (mid ++ [a])) = pe c (mid ++ [a]) ++ [(a, c)] := by
  show pe c ((mid ++ [a]) ++ [c]) = _
  rw [List.append_assoc, List.singleton_append, pe_app]
  rfl
theorem wn_cut (b c : Q2) (mid : List Q2) (a q : Q2) : wn (b :: c :: (mid ++ [a])) q = wn (c :: (mid ++ [a])) q + wn [a, b, c] q := by
  have := wT_back a c q
  rw [wn_tri]
  unfold wn
  rw [eds_at, eds_cut, wsum_cons, wsum_app, wsum_app, wsum_cons, wsum_cons, wsum_nil]
  simp only
  omega
/-- What is left when an empty corner is cut off is simple. -/
theorem cut_simple {b c : Q2} {mid : List Q2} {a : Q2} (S : SimJ (b :: c :: (mid ++ [a]))) (h : 0 < jc a b c) (hm : mid ≠ []) (he : ∀ p ∈ mid, ¬ InC a b c p) : SimJ (c :: (mid ++ [a])) := by
  have fr := cut_free S h hm he
  obtain ⟨n1, n2, n3, n4, n5, n6, n7⟩ := nd_at S.nd
  have old : ∀ e ∈ pe c (mid ++ [a]), e ∈ eds (b :: c :: (mid ++ [a])) := fun e he => by rw [eds_at]; simp [he]
  refine ⟨?_, (List.nodup_cons.1 S.nd).2, ?_⟩
  · have := List.length_pos_iff.2 hm
    simp only [List.length_cons, List.length_append, List.length_nil]
    omega
  · have two : ∀ e ∈ pe c (mid ++ [a]), ∀ x, OnJ e.1 e.2 x → OnJ a c x → (x = e.1 ∨ x = e.2) ∧ (x = a ∨ x = c) := fun e h1 x h2 h3 => by
      have k := fr e h1 x h2 (on_ac h h3).1
      refine ⟨S.corner ?_ (old e h1) h2, k⟩
      rcases k with rfl | rfl <;> simp
    intro e h1 e' h2 hne x ho ho'
    rw [eds_cut, List.mem_append, List.mem_singleton] at h1 h2
    rcases h1 with h1 | rfl <;> rcases h2 with h2 | rfl
    · exact S.cr e (old e h1) e' (old e' h2) hne x ho ho'
    · exact two e h1 x ho ho'
    · exact (two e' h2 x ho' ho).symm
    · exact absurd rfl hne
/-- Within a triangle, on none of its sides. -/
structure InO (a b c x : Q2) : Prop where
  p : 0 < jc a b x
  q : 0 < jc b c x
  r : 0 < jc c a x
theorem InO.c {a b c x : Q2} (h : InO a b c x) : InC a b c x := ⟨Rat.le_of_lt h.p, Rat.le_of_lt h.q, Rat.le_of_lt h.r⟩
theorem pos_lin {x y t : Rat} (t0 : 0 ≤ t) (t1 : t ≤ 1) (hx : 0 < x) (hy : 0 < y) : 0 < (1 - t) * x + t * y := lin_lt t0 t1 hx hy
theorem InO.lerp {a b c x y : Q2} {t : Rat} (h : InO a b c x) (k : InO a b c y) (t0 : 0 ≤ t) (t1 : t ≤ 1) : InO a b c (Jor.lerp x y t) :=
  ⟨by rw [jc_lerp]; exact pos_lin t0 t1 h.p k.p, by rw [jc_lerp]; exact pos_lin t0 t1 h.q k.q, by rw [jc_lerp]; exact pos_lin t0 t1 h.r k.r⟩
/-- Cutting off an empty corner: once round more, or all the other way round. -/
theorem cut_round {b c : Q2} {mid : List Q2} {a : Q2} (S : SimJ (b :: c :: (mid ++ [a]))) (h : 0 < jc a b c) (hm : mid ≠ []) (he : ∀ p ∈ mid, ¬ InC a b c p) {σ : Int} (hσ : σ = 1 ∨ σ = -1)
    (J : ∀ q, Off (c :: (mid ++ [a])) q → wn (c :: (mid ++ [a])) q = 0 ∨ wn (c :: (mid ++ [a])) q = σ) :
    (σ = 1 ∧ (∀ q, Off (b :: c :: (mid ++ [a])) q → wn (b :: c :: (mid ++ [a])) q = 0 ∨ wn (b :: c :: (mid ++ [a])) q = 1) ∧ (∀ q, Off (b :: c :: (mid ++ [a])) q → InC a b c q → wn (b :: c :: (mid ++ [a])) q = 1)) ∨
    (σ = -1 ∧ ∀ q, Off (b :: c :: (mid ++ [a])) q → wn (b :: c :: (mid ++ [a])) q = 0 ∨ wn (b :: c :: (mid ++ [a])) q = -1) := by
  have fr := cut_free S h hm he
  obtain ⟨n1, n2, n3, n4, n5, n6, n7⟩ := nd_at S.nd
  have W := wn_cut b c mid a
  have E1 : (a, b) ∈ eds (b :: c :: (mid ++ [a])) := by rw [eds_at]; simp
  have E2 : (b, c) ∈ eds (b :: c :: (mid ++ [a])) := by rw [eds_at]; simp
  have cell : ∀ e, e ∈ eds (b :: c :: (mid ++ [a])) → e = (b, c) ∨ e ∈ pe c (mid ++ [a]) ∨ e = (a, b) := fun e k => by rw [eds_at] at k; simpa using k
  have offP' : ∀ q, Off (b :: c :: (mid ++ [a])) q → ¬ OnJ a c q → Off (c :: (mid ++ [a])) q := fun q o k e h1 => by
    rw [eds_cut, List.mem_append, List.mem_singleton] at h1
    rcases h1 with h1 | rfl
    · exact o e (by rw [eds_at]; simp [h1])
    · exact k
  -- one number in the open triangle
  have con : ∀ q r, InO a b c q → InO a b c r → wn (c :: (mid ++ [a])) q = wn (c :: (mid ++ [a])) r := fun q r iq ir => by
    apply wn_const
    rintro e h1 ⟨x, o1, t, t0, t1, rfl⟩
    have ix := iq.lerp ir t0 t1
    rw [eds_cut, List.mem_append, List.mem_singleton] at h1
    have z := ix.r
    rcases h1 with h1 | rfl
    · rcases fr e h1 _ o1 ix.c with k | k
      · rw [k, jc_ab] at z; grind
      · rw [k, jc_aa] at z; grind
    · rw [(on_ac h o1).2] at z; grind
  -- the middle of the cut
  obtain ⟨m, hmd⟩ : ∃ m, m = lerp a c (1 / 2) := ⟨_, rfl⟩
  have mo : OnJ a c m := ⟨1 / 2, by grind, by grind, hmd⟩
  have m1 : jc a b m = jc a b c / 2 := by rw [hmd, jc_lerp, jc_aa]; grind
  have m2 : jc b c m = jc a b c / 2 := by rw [hmd, jc_lerp, jc_ab, jc_rot]; grind
  have m3 : jc c a m = 0 := (on_ac h mo).2
  have ma : m ≠ a := fun k => by rw [k, jc_aa] at m1; grind
  have mc : m ≠ c := fun k => by rw [k, jc_ab] at m2; grind
  have moff : Off (b :: c :: (mid ++ [a])) m := fun e h1 o => by
    rcases cell e h1 with rfl | k | rfl
    · have := (on_iff.1 o).1; simp only at this; grind
    · rcases fr e k m o (on_ac h mo).1 with k | k
      · exact ma k
      · exact mc k
    · have := (on_iff.1 o).1; simp only at this; grind
  obtain ⟨ε, e0, e1⟩ := near_all _ moff
  obtain ⟨δ, d0, d1, dn⟩ := near_step (K := ab (b.1 - m.1) + ab (b.2 - m.2)) e0 (by have := ab_nn (b.1 - m.1); have := ab_nn (b.2 - m.2); grind)
  have box := dn m (b.1 - m.1, b.2 - m.2) (by have := ab_le (b.1 - m.1); have := ab_nn (b.2 - m.2); simp only; grind) (by have := ab_le (b.1 - m.1); have := ab_nn (b.2 - m.2); simp only; grind) (by have := ab_le (b.2 - m.2); have := ab_nn (b.1 - m.1); simp only; grind) (by have := ab_le (b.2 - m.2); have := ab_nn (b.1 - m.1); simp only; grind)
  have pt : ∀ s, (m.1 + s * (b.1 - m.1), m.2 + s * (b.2 - m.2)) = lerp m b s := fun s => rfl
  simp only [pt] at box
  have J1 : ∀ s, jc a b (lerp m b s) = (1 - s) * (jc a b c / 2) := fun s => by rw [jc_lerp, m1, jc_ab]; grind
  have J2 : ∀ s, jc b c (lerp m b s) = (1 - s) * (jc a b c / 2) := fun s => by rw [jc_lerp, m2, jc_aa]; grind
  have J3 : ∀ s, jc c a (lerp m b s) = s * jc a b c := fun s => by rw [jc_lerp, m3, jc_rot, jc_rot]; grind
  obtain ⟨q0, hq0⟩ : ∃ q0, q0 = lerp m b (δ / 2) := ⟨_, rfl⟩
  obtain ⟨r0, hr0⟩ : ∃ r0, r0 = lerp m b (-(δ / 2)) := ⟨_, rfl⟩
  have iq : InO a b c q0 := by
    rw [hq0]
    exact ⟨by rw [J1]; exact mpos (by grind) (by grind), by rw [J2]; exact mpos (by grind) (by grind), by rw [J3]; exact mpos (by grind) h⟩
  have orr : jc c a r0 < 0 := by
    rw [hr0, J3]
    have := mpos (show 0 < δ / 2 by grind) h
    grind
  have oq : Off (b :: c :: (mid ++ [a])) q0 := fun e k => e1 _ (by rw [hq0]; exact box _ (by grind) (by grind)) e k
  have orf : Off (b :: c :: (mid ++ [a])) r0 := fun e k => e1 _ (by rw [hr0]; exact box _ (by grind) (by grind)) e k
  have same : wn (b :: c :: (mid ++ [a])) q0 = wn (b :: c :: (mid ++ [a])) r0 := by
    apply wn_const
    rintro e h1 ⟨x, o1, t, t0, t1, rfl⟩
    have ee : lerp q0 r0 t = lerp m b (δ / 2 - t * δ) := by rw [hq0, hr0]; unfold lerp; apply Prod.ext <;> simp only <;> grind
    rw [ee] at o1
    have u1 := mnn t0 (show 0 ≤ δ by grind)
    have u2 := mnn (show 0 ≤ 1 - t by grind) (show 0 ≤ δ by grind)
    exact e1 _ (box _ (by grind) (by grind)) e h1 o1
  have tq : wn [a, b, c] q0 = 1 := tri_in iq.p iq.q iq.r
  have tr : wn [a, b, c] r0 = 0 := tri_out h (.inr (.inr orr))
  have Jq := J q0 (offP' q0 oq (fun k => by have := (on_ac h k).2; have := iq.r; grind))
  have Jr := J r0 (offP' r0 orf (fun k => by have := (on_ac h k).2; grind))
  have Wq := W q0
  have Wr := W r0
  -- the numbers of P
  have inside : ∀ q, Off (b :: c :: (mid ++ [a])) q → InC a b c q → wn (b :: c :: (mid ++ [a])) q = wn (c :: (mid ++ [a])) q0 + 1 := fun q o iC => by
    have p1 : 0 < jc a b q := by
      false_or_by_contra
      exact o (a, b) E1 (on_ab h (by have := iC.p; grind) iC.q iC.r)
    have p2 : 0 < jc b c q := by
      false_or_by_contra
      exact o (b, c) E2 (on_bc h (by have := iC.q; grind) iC.p iC.r)
    by_cases p3 : 0 < jc c a q
    · rw [W q, tri_in p1 p2 p3, con q q0 ⟨p1, p2, p3⟩ iq]
    · have qa : q ≠ a := fun k => o (a, b) E1 (by rw [k]; exact on_fst a b)
      have qc : q ≠ c := fun k => o (b, c) E2 (by rw [k]; exact on_snd b c)
      have st : wn (b :: c :: (mid ++ [a])) q = wn (b :: c :: (mid ++ [a])) q0 := by
        apply wn_const
        rintro e h1 ⟨x, o1, t, t0, t1, rfl⟩
        have ix := iC.lerp iq.c t0 t1
        have y1 : 0 < jc a b (lerp q q0 t) := by rw [jc_lerp]; exact pos_lin t0 t1 p1 iq.p
        have y2 : 0 < jc b c (lerp q q0 t) := by rw [jc_lerp]; exact pos_lin t0 t1 p2 iq.q
        rcases cell e h1 with rfl | k | rfl
        · have := (on_iff.1 o1).1; simp only at this; grind
        · rcases fr e k _ o1 ix with k | k
          · rw [k, jc_aa] at y1; grind
          · rw [k, jc_ab] at y2; grind
        · have := (on_iff.1 o1).1; simp only at this; grind
      rw [st, Wq, tq]
  have outside : ∀ q, Off (b :: c :: (mid ++ [a])) q → ¬ InC a b c q → wn (b :: c :: (mid ++ [a])) q = 0 ∨ wn (b :: c :: (mid ++ [a])) q = σ := fun q o iC => by
    have t : wn [a, b, c] q = 0 := by
      apply tri_out h
      false_or_by_contra
      exact iC ⟨by grind, by grind, by grind⟩
    rw [W q, t]
    have := J q (offP' q o (fun k => iC (on_ac h k).1))
    omega
  rcases hσ with rfl | rfl
  · left
    have z : wn (c :: (mid ++ [a])) q0 = 0 := by omega
    refine ⟨rfl, fun q o => ?_, fun q o iC => by rw [inside q o iC]; omega⟩
    by_cases iC : InC a b c q
    · right; rw [inside q o iC]; omega
    · exact outside q o iC
  · right
    have z : wn (c :: (mid ++ [a])) q0 = -1 := by omega
    refine ⟨rfl, fun q o => ?_⟩
    by_cases iC : InC a b c q
    · left; rw [inside q o iC]; omega
    · exact outside q o iC
theorem fl_lerp (α β : Rat) (u v : Q2) (t : Rat) : fl α β (lerp u v t) = (1 - t) * fl α β u + t * fl α β v := by unfold fl lerp; grind
theorem gap (f : Q2 → Rat) (z : Rat) : ∀ l : List Q2, (∀ p ∈ l, z < f p) → ∃ η : Rat, 0 < η ∧ ∀ p ∈ l, z + η ≤ f p
  | [], _ => ⟨1, by grind, fun _ h => by simp at h⟩
  | a :: l, h => by
    obtain ⟨η, h1, h2⟩ := gap f z l (fun p hp => h p (by simp [hp]))
    have ha := h a (by simp)
    rcases (Rat.le_total : η ≤ f a - z ∨ f a - z ≤ η) with k | k
    · refine ⟨η, h1, fun p hp => ?_⟩
      rcases List.mem_cons.1 hp with rfl | hp
      · grind
      · exact h2 p hp
    · refine ⟨f a - z, by grind, fun p hp => ?_⟩
      rcases List.mem_cons.1 hp with rfl | hp
      · grind
      · have := h2 p hp; grind
/-- An outermost corner turns. -/
theorem ext_turn {b c : Q2} {mid : List Q2} {a : Q2} (S : SimJ (b :: c :: (mid ++ [a]))) {α β : Rat} (hf : ∀ p ∈ c :: (mid ++ [a]), fl α β b < fl α β p) : jc a b c ≠ 0 := by
  intro h0
  obtain ⟨n1, n2, n3, n4, n5, n6, n7⟩ := nd_at S.nd
  have fa := hf a (by simp)
  have fc := hf c (by simp)
  have E1 : (a, b) ∈ eds (b :: c :: (mid ++ [a])) := by rw [eds_at]; simp
  have E2 : (b, c) ∈ eds (b :: c :: (mid ++ [a])) := by rw [eds_at]; simp
  have key : ∀ u v : Q2, jc u b v = 0 → fl α β b < fl α β u → fl α β u ≤ fl α β v → OnJ b v u := by
    intro u v z h1 h2
    have d := div_01 (show 0 ≤ fl α β u - fl α β b by grind) (show fl α β u - fl α β b ≤ fl α β v - fl α β b by grind) (by grind)
    refine ⟨_, d.1, d.2, ?_⟩
    have i : (fl α β v - fl α β b) * (fl α β v - fl α β b)⁻¹ = 1 := Rat.mul_inv_cancel _ (by grind)
    have x1 : (u.1 - b.1) * (fl α β v - fl α β b) = (v.1 - b.1) * (fl α β u - fl α β b) := by unfold fl; unfold jc at z; grind
    have x2 : (u.2 - b.2) * (fl α β v - fl α β b) = (v.2 - b.2) * (fl α β u - fl α β b) := by unfold fl; unfold jc at z; grind
    rw [Rat.div_def]
    generalize (fl α β v - fl α β b)⁻¹ = I at *
    generalize fl α β v - fl α β b = V at *
    generalize fl α β u - fl α β b = U at *
    unfold lerp
    apply Prod.ext <;> simp only <;> grind
  rcases (Rat.le_total : fl α β a ≤ fl α β c ∨ fl α β c ≤ fl α β a) with k | k
  · rcases S.corner (x := a) (by simp) E2 (key a c h0 fa k) with k | k
    · exact n3 k.symm
    · exact n5 k.symm
  · rcases S.corner (x := c) (by simp) E1 (on_swap (key c a (by unfold jc at h0 ⊢; grind) fc k)) with k | k
    · exact n5 k
    · exact n1 k.symm
/-- Beside an outermost corner that turns left there is a point that the way goes round once. -/
theorem ext_one {b c : Q2} {mid : List Q2} {a : Q2} (h : 0 < jc a b c) {α β : Rat} (hf : ∀ p ∈ c :: (mid ++ [a]), fl α β b < fl α β p) : ∃ q, Off (b :: c :: (mid ++ [a])) q ∧ wn (b :: c :: (mid ++ [a])) q = 1 := by
  have fa := hf a (by simp)
  have fc := hf c (by simp)
  obtain ⟨η, e0, e1⟩ := gap (fl α β) (fl α β b) _ hf
  obtain ⟨D, hD⟩ : ∃ D, D = (fl α β a - fl α β b) + (fl α β c - fl α β b) := ⟨_, rfl⟩
  have key : ∃ s : Rat, 0 < s ∧ s ≤ 1 / 3 ∧ s * D < η := by
    have D0 : 0 < D := by grind
    have i : D * D⁻¹ = 1 := Rat.mul_inv_cancel _ (by grind)
    have ip := Rat.inv_pos.2 D0
    have q := mpos (show 0 < η / 2 by grind) ip
    rcases (Rat.le_total : η / 2 * D⁻¹ ≤ 1 / 3 ∨ 1 / 3 ≤ η / 2 * D⁻¹) with k | k
    · have e2 : η / 2 * D⁻¹ * D = η / 2 := by rw [Rat.mul_assoc, Rat.mul_comm D⁻¹ D, i, Rat.mul_one]
      exact ⟨η / 2 * D⁻¹, q, k, by rw [e2]; clear hf e1 hD; grind⟩
    · have e2 : η / 2 * D⁻¹ * D = η / 2 := by rw [Rat.mul_assoc, Rat.mul_comm D⁻¹ D, i, Rat.mul_one]
      clear hf e1 hD
      have := mnn (show 0 ≤ η / 2 * D⁻¹ - 1 / 3 by grind) (show 0 ≤ D by grind)
      exact ⟨1 / 3, by grind, by grind, by grind⟩
  obtain ⟨s, s0, s1, s2⟩ := key
  obtain ⟨q, hq⟩ : ∃ q : Q2, q = (b.1 + s * (a.1 - b.1) + s * (c.1 - b.1), b.2 + s * (a.2 - b.2) + s * (c.2 - b.2)) := ⟨_, rfl⟩
  have j1 : jc a b q = s * jc a b c := by rw [hq]; unfold jc; grind
  have j2 : jc b c q = s * jc a b c := by rw [hq]; unfold jc; grind
  have j3 : jc c a q = (1 - 2 * s) * jc a b c := by rw [hq]; unfold jc; grind
  have p1 : 0 < jc a b q := by rw [j1]; exact mpos s0 h
  have p2 : 0 < jc b c q := by rw [j2]; exact mpos s0 h
  have p3 : 0 < jc c a q := by rw [j3]; exact mpos (by grind) h
  have fq : fl α β q = fl α β b + s * D := by rw [hq, hD]; unfold fl; grind
  have lo : ∀ p ∈ c :: (mid ++ [a]), fl α β q < fl α β p := fun p hp => by have := e1 p hp; grind
  refine ⟨q, fun e he o => ?_, ?_⟩
  · rw [eds_at] at he
    simp only [List.mem_cons, List.mem_append, List.not_mem_nil, or_false] at he
    rcases he with rfl | he | rfl
    · have := (on_iff.1 o).1; simp only at this; grind
    · have m := pe_ends he
      have l1 := lo e.1 (by have := m.1; simp only [List.mem_cons, List.mem_append] at this ⊢; grind)
      have l2 := lo e.2 (by have := m.2; simp only [List.mem_cons, List.mem_append] at this ⊢; grind)
      obtain ⟨t, t0, t1, k⟩ := o
      have := lin_lt t0 t1 l1 l2
      rw [← fl_lerp, ← k] at this
      grind
    · have := (on_iff.1 o).1; simp only at this; grind
  · rw [wn_cut, tri_in p1 p2 p3, wn_sep lo]
    rfl
theorem arg_max (f : Q2 → Rat) : ∀ l : List Q2, l ≠ [] → ∃ z ∈ l, ∀ p ∈ l, f p ≤ f z
  | [], h => absurd rfl h
  | [a], _ => ⟨a, by simp, fun p hp => by simp at hp; rw [hp]; grind⟩
  | a :: b :: l, _ => by
    obtain ⟨z, h1, h2⟩ := arg_max f (b :: l) (by simp)
    rcases (Rat.le_total : f a ≤ f z ∨ f z ≤ f a) with k | k
    · refine ⟨z, List.mem_cons_of_mem _ h1, fun p hp => ?_⟩
      rcases List.mem_cons.1 hp with rfl | hp
      · exact k
      · exact h2 p hp
    · refine ⟨a, by simp, fun p hp => ?_⟩
      rcases List.mem_cons.1 hp with rfl | hp
      · grind
      · have := h2 p hp; grind
theorem arg_maxP (f : Q2 → Rat) (p : Q2 → Prop) (l : List Q2) (h : ∃ x ∈ l, p x) : ∃ z ∈ l, p z ∧ ∀ x ∈ l, p x → f x ≤ f z := by
  classical
  obtain ⟨x, hx, px⟩ := h
  obtain ⟨z, h1, h2⟩ := arg_max f (l.filter (fun x => decide (p x))) (by intro e; have : x ∈ l.filter (fun x => decide (p x)) := by simp [hx, px]
                                                                         rw [e] at this; simp at this)
  have := List.mem_filter.1 h1
  exact ⟨z, this.1, of_decide_eq_true this.2, fun y hy py => h2 y (List.mem_filter.2 ⟨hy, decide_eq_true py⟩)⟩
/-- From a corner to the corner in its triangle that is farthest off the third side nothing is met. -/
theorem diag_free {b c : Q2} {mid : List Q2} {a z : Q2} (S : SimJ (b :: c :: (mid ++ [a]))) (h : 0 < jc a b c) (hz : z ∈ mid) (iz : InC a b c z) (hmax : ∀ p ∈ mid, InC a b c p → jc c a p ≤ jc c a z) :
    0 < jc a b z ∧ 0 < jc b c z ∧ ∀ e ∈ eds (b :: c :: (mid ++ [a])), ∀ x, OnJ e.1 e.2 x → OnJ b z x → x = b ∨ x = z := by
  obtain ⟨n1, n2, n3, n4, n5, n6, n7⟩ := nd_at S.nd
  have E1 : (a, b) ∈ eds (b :: c :: (mid ++ [a])) := by rw [eds_at]; simp
  have E2 : (b, c) ∈ eds (b :: c :: (mid ++ [a])) := by rw [eds_at]; simp
  have za : z ≠ a := fun k => n6 (k ▸ hz)
  have zb : z ≠ b := fun k => n2 (k ▸ hz)
  have zc : z ≠ c := fun k => n4 (k ▸ hz)
  have zP : z ∈ b :: c :: (mid ++ [a]) := by simp [hz]
  have z1 : 0 < jc a b z := by
    false_or_by_contra
    rcases S.corner zP E1 (on_ab h (by have := iz.p; grind) iz.q iz.r) with k | k
    · exact za k
    · exact zb k
  have z2 : 0 < jc b c z := by
    false_or_by_contra
    rcases S.corner zP E2 (on_bc h (by have := iz.q; grind) iz.p iz.r) with k | k
    · exact zb k
    · exact zc k
  have hs := jc_three a b c z
  refine ⟨z1, z2, ?_⟩
  rintro e he x ho ⟨t, t0, t1, rfl⟩
  have tb : t = 0 → lerp b z t = b := fun k => by rw [k]; unfold lerp; apply Prod.ext <;> simp only <;> grind
  have tz : t = 1 → lerp b z t = z := fun k => by rw [k]; unfold lerp; apply Prod.ext <;> simp only <;> grind
  have he' := he
  rw [eds_at] at he
  simp only [List.mem_cons, List.mem_append, List.not_mem_nil, or_false] at he
  rcases he with rfl | he | rfl
  · left
    apply tb
    have k := (on_iff.1 ho).1
    simp only at k
    rw [jc_lerp, jc_aa] at k
    false_or_by_contra
    have := mpos (show 0 < t by grind) z2
    grind
  · obtain ⟨u, v⟩ := e
    have ends := pe_ends he
    simp only at ends ho
    have uE : u = c ∨ u ∈ mid := List.mem_cons.1 ends.1
    have vE : v ∈ mid ∨ v = a := by have := List.mem_append.1 ends.2; simpa using this
    have ub : u ≠ b := fun k => by rw [k] at uE; exact uE.elim n1 n2
    have vb : v ≠ b := fun k => by rw [k] at vE; exact vE.elim n2 n3
    by_cases t0' : t = 0
    · exact .inl (tb t0')
    · by_cases t1' : t = 1
      · exact .inr (tz t1')
      · exfalso
        have ix : InC a b c (lerp b z t) := (inC_b h).lerp iz t0 t1
        have gx : jc c a z < jc c a (lerp b z t) := by
          have eb : jc c a b = jc a b c := by unfold jc; grind
          rw [jc_lerp, eb]
          have := mpos (show 0 < 1 - t by grind) (show 0 < jc a b c - jc c a z by grind)
          grind
        have gz := iz.r
        have far : ∀ w, OnJ u v w → (w = c ∨ w = a ∨ w ∈ mid) → jc c a (lerp b z t) ≤ jc c a w → False := fun w ow wE gw => by
          have nw : ¬ InC a b c w := fun k => by
            rcases wE with rfl | rfl | k2
            · rw [jc_aa] at gw; grind
            · rw [jc_ab] at gw; grind
            · have := hmax w k2 k; grind
          obtain ⟨s, s0, s1, k⟩ := leave h ix (by grind) nw
          have oy := on_on ho ow s0 s1
          have gy : jc c a z < jc c a (lerp (lerp b z t) w s) := by rw [jc_lerp]; exact lin_lt s0 s1 gx (by grind)
          rcases k with k | k
          · have := S.cr (u, v) he' (a, b) E1 (by intro e; simp only [Prod.mk.injEq] at e; exact vb e.2) _ oy k
            simp only at this
            rcases this.2 with k2 | k2
            · rw [k2, jc_ab] at gy; grind
            · rw [k2] at this; grind
          · have := S.cr (u, v) he' (b, c) E2 (by intro e; simp only [Prod.mk.injEq] at e; exact ub e.1) _ oy k
            simp only at this
            rcases this.2 with k2 | k2
            · rw [k2] at this; grind
            · rw [k2, jc_aa] at gy; grind
        obtain ⟨s, s0, s1, k⟩ := ho
        have gl : jc c a (lerp b z t) = (1 - s) * jc c a u + s * jc c a v := by rw [k, jc_lerp]
        by_cases c1 : jc c a (lerp b z t) ≤ jc c a u
        · exact far u (on_fst u v) (by rcases uE with k | k; exact .inl k; exact .inr (.inr k)) c1
        · by_cases c2 : jc c a (lerp b z t) ≤ jc c a v
          · exact far v (on_snd u v) (by rcases vE with k | k; exact .inr (.inr k); exact .inr (.inl k)) c2
          · have := lin_lt s0 s1 (show -jc c a (lerp b z t) < -jc c a u by grind) (show -jc c a (lerp b z t) < -jc c a v by grind)
            grind
  · left
    apply tb
    have k := (on_iff.1 ho).1
    simp only at k
    rw [jc_lerp, jc_ab] at k
    false_or_by_contra
    have := mpos (show 0 < t by grind) z1
    grind
theorem ab_bd (x y z w t : Rat) (t0 : 0 ≤ t) (t1 : t ≤ 1) : -(ab x + ab y + ab z + ab w) ≤ (1 - t) * x + t * y ∧ (1 - t) * x + t * y ≤ ab x + ab y + ab z + ab w := by
  have a1 := ab_le x
  have a2 := ab_le y
  have n1 := ab_nn x
  have n2 := ab_nn y
  have n3 := ab_nn z
  have n4 := ab_nn w
  have m1 := mnn (show 0 ≤ 1 - t by grind) (show 0 ≤ ab x - x by grind)
  have m2 := mnn (show 0 ≤ 1 - t by grind) (show 0 ≤ ab x + x by grind)
  have m3 := mnn t0 (show 0 ≤ ab y - y by grind)
  have m4 := mnn t0 (show 0 ≤ ab y + y by grind)
  have m5 := mnn t0 n1
  have m6 := mnn (show 0 ≤ 1 - t by grind) n2
  grind
/-- Beside an outermost corner, behind one of its segments, nothing is gone round. -/
theorem beside {Q : List Q2} {b z y k : Q2} {s α β : Rat} (hE : ∀ e ∈ eds Q, e = (b, z) ∨ e = (z, b) ∨ e = (b, y) ∨ e = (y, b) ∨ ¬ OnJ e.1 e.2 b)
    (hf : ∀ p ∈ Q, fl α β b ≤ fl α β p) (fy : fl α β b < fl α β y) (s1 : 0 < s * jc b z k) (s2 : s * jc b z y < 0)
    (hk : ∀ e ∈ eds Q, ∀ x, OnJ e.1 e.2 x → OnJ b k x → x = b) : wn Q k = 0 := by
  classical
  obtain ⟨ε, e0, e1⟩ := near_all (m := b) ((eds Q).filter (fun e => decide (¬ OnJ e.1 e.2 b))) (fun e he => of_decide_eq_true (List.mem_filter.1 he).2)
  have e1' : ∀ x, Nr ε b x → ∀ e ∈ eds Q, ¬ OnJ e.1 e.2 b → ¬ OnJ e.1 e.2 x := fun x n e he ne => e1 x n e (List.mem_filter.2 ⟨he, decide_eq_true ne⟩)
  obtain ⟨K, hK⟩ : ∃ K, K = ab (k.1 - b.1) + ab (b.1 - y.1) + ab (k.2 - b.2) + ab (b.2 - y.2) := ⟨_, rfl⟩
  have K0 : 0 ≤ K := by have := ab_nn (k.1 - b.1); have := ab_nn (b.1 - y.1); have := ab_nn (k.2 - b.2); have := ab_nn (b.2 - y.2); grind
  obtain ⟨δ, d0, d1, dn⟩ := near_step (K := K) e0 K0
  obtain ⟨k', hk'⟩ : ∃ k' : Q2, k' = (b.1 + δ * (k.1 - b.1), b.2 + δ * (k.2 - b.2)) := ⟨_, rfl⟩
  obtain ⟨b', hb'⟩ : ∃ b' : Q2, b' = (b.1 + δ * (b.1 - y.1), b.2 + δ * (b.2 - y.2)) := ⟨_, rfl⟩
  have seg : ∀ t, 0 ≤ t → t ≤ 1 → Nr ε b (lerp k' b' t) := fun t t0 t1 => by
    have x1 := ab_bd (k.1 - b.1) (b.1 - y.1) (k.2 - b.2) (b.2 - y.2) t t0 t1
    have x2 := ab_bd (k.2 - b.2) (b.2 - y.2) (k.1 - b.1) (b.1 - y.1) t t0 t1
    have := dn b ((1 - t) * (k.1 - b.1) + t * (b.1 - y.1), (1 - t) * (k.2 - b.2) + t * (b.2 - y.2)) (by simp only; grind) (by simp only; grind) (by simp only; grind) (by simp only; grind) δ (by grind) (by grind)
    have e : lerp k' b' t = (b.1 + δ * ((1 - t) * (k.1 - b.1) + t * (b.1 - y.1)), b.2 + δ * ((1 - t) * (k.2 - b.2) + t * (b.2 - y.2))) := by
      rw [hk', hb']; unfold lerp; apply Prod.ext <;> simp only <;> grind
    rw [e]; exact this
  have sg : ∀ t, 0 ≤ t → t ≤ 1 → 0 < s * jc b z (lerp k' b' t) := fun t t0 t1 => by
    have e : s * jc b z (lerp k' b' t) = δ * ((1 - t) * (s * jc b z k) + t * (-(s * jc b z y))) := by
      rw [hk', hb']; unfold lerp jc; grind
    rw [e]
    exact mpos d0 (pos_lin t0 t1 s1 (by grind))
  have A : wn Q k' = wn Q b' := by
    apply wn_const
    rintro e he ⟨x, o, t, t0, t1, rfl⟩
    have p := sg t t0 t1
    rcases hE e he with rfl | rfl | rfl | rfl | k5
    · rw [(on_iff.1 o).1] at p; grind
    · have z1 : jc b z (lerp k' b' t) = 0 := (on_iff.1 (on_swap o)).1
      rw [z1] at p; grind
    · obtain ⟨r, r0, r1, k6⟩ := o
      rw [k6, jc_lerp, jc_aa] at p
      have := mnn r0 (show 0 ≤ -(s * jc b z y) by grind)
      grind
    · obtain ⟨r, r0, r1, k6⟩ := on_swap o
      rw [k6, jc_lerp, jc_aa] at p
      have := mnn r0 (show 0 ≤ -(s * jc b z y) by grind)
      grind
    · exact e1' _ (seg t t0 t1) e he k5 o
  have B : wn Q b' = 0 := by
    apply wn_sep (α := α) (β := β)
    intro p hp
    have := hf p hp
    have e : fl α β b' = fl α β b - δ * (fl α β y - fl α β b) := by rw [hb']; unfold fl; grind
    have := mpos d0 (show 0 < fl α β y - fl α β b by grind)
    grind
  have C : wn Q k' = wn Q k := by
    apply wn_const
    rintro e he ⟨x, o, t, t0, t1, rfl⟩
    have u := lin2 t0 t1 (show 0 ≤ δ by grind) (show (0 : Rat) ≤ 1 by grind)
    have u2 : (1 - t) * δ + t * 1 ≤ 1 := by have := mnn (show 0 ≤ 1 - t by grind) (show 0 ≤ 1 - δ by grind); grind
    have u3 : 0 < (1 - t) * δ + t * 1 := lin_lt t0 t1 d0 (by grind)
    have e2 : lerp k' k t = lerp b k ((1 - t) * δ + t * 1) := by rw [hk']; unfold lerp; apply Prod.ext <;> simp only <;> grind
    have := hk e he _ o ⟨_, u, u2, e2⟩
    rw [e2] at this
    have z1 : jc b z (lerp b k ((1 - t) * δ + t * 1)) = 0 := by rw [this, jc_aa]
    rw [jc_lerp, jc_aa] at z1
    have p := mpos u3 s1
    have q : ((1 - t) * δ + t * 1) * (s * jc b z k) = s * ((1 - ((1 - t) * δ + t * 1)) * 0 + ((1 - t) * δ + t * 1) * jc b z k) := by generalize jc b z k = J; grind
    rw [z1] at q
    rw [q] at p
    exact absurd p (by grind)
  omega
theorem apart {P : List Q2} (S : SimJ P) {e e' : Q2 × Q2} (he : e ∈ eds P) (he' : e' ∈ eds P) (h1 : e.1 ≠ e'.1) (h2 : e.1 ≠ e'.2) (h3 : e.2 ≠ e'.1) (h4 : e.2 ≠ e'.2) : ¬ MeetJ e'.1 e'.2 e.1 e.2 := by
  rintro ⟨x, o, o'⟩
  have := S.cr e he e' he' (by intro k; rw [k] at h1; exact h1 rfl) x o' o
  grind
theorem apart_diag {P : List Q2} {b z : Q2} (S : SimJ P) (df : ∀ e ∈ eds P, ∀ x, OnJ e.1 e.2 x → OnJ b z x → x = b ∨ x = z) (hb : b ∈ P) (hz : z ∈ P) {e : Q2 × Q2} (he : e ∈ eds P) (h1 : e.1 ≠ b) (h2 : e.1 ≠ z) (h3 : e.2 ≠ b) (h4 : e.2 ≠ z) : ¬ MeetJ b z e.1 e.2 := by
  rintro ⟨x, o, o'⟩
  rcases df e he x o' o with rfl | rfl
  · have := S.corner hb he o'; grind
  · have := S.corner hz he o'; grind
theorem chain_last {Q : List Q2} : ∀ (l : List Q2) (h a : Q2), (∀ e ∈ pe h (l ++ [a]), ∀ e' ∈ eds Q, ¬ MeetJ e'.1 e'.2 e.1 e.2) → wn Q a = 0 → ∀ p ∈ h :: (l ++ [a]), wn Q p = 0
  | [], h, a, H, ha, p, hp => by
    have k : wn Q h = wn Q a := wn_const (fun e' he' => H (h, a) (by simp [pe]) e' he')
    simp at hp
    rcases hp with rfl | rfl
    · omega
    · exact ha
  | c :: l, h, a, H, ha, p, hp => by
    have ih := chain_last l c a (fun e he => H e (by simp only [List.cons_append, pe, List.mem_cons]; exact .inr he)) ha
    have k : wn Q h = wn Q c := wn_const (fun e' he' => H (h, c) (by simp [pe]) e' he')
    rcases List.mem_cons.1 hp with rfl | hp
    · rw [k]; exact ih c (by simp)
    · exact ih p hp
theorem chain_first {Q : List Q2} : ∀ (l : List Q2) (h : Q2), (∀ e ∈ pe h l, ∀ e' ∈ eds Q, ¬ MeetJ e'.1 e'.2 e.1 e.2) → wn Q h = 0 → ∀ p ∈ h :: l, wn Q p = 0
  | [], h, H, ha, p, hp => by simp at hp; rw [hp]; exact ha
  | c :: l, h, H, ha, p, hp => by
    have k : wn Q h = wn Q c := wn_const (fun e' he' => H (h, c) (by simp [pe]) e' he')
    have ih := chain_first l c (fun e he => H e (by simp only [pe, List.mem_cons]; exact .inr he)) (by omega)
    rcases List.mem_cons.1 hp with rfl | hp
    · exact ha
    · exact ih p hp
/-- An ear of a way that turns left. -/
structure EarP (P : List Q2) (a b c : Q2) : Prop where
  e1 : (a, b) ∈ eds P
  e2 : (b, c) ∈ eds P
  pos : 0 < jc a b c
  emp : ∀ p ∈ P, p ≠ a → p ≠ b → p ≠ c → ¬ InC a b c p
/-- Two ears that are not next to each other. -/
def Two (P : List Q2) : Prop := ∃ a b c a' b' c', EarP P a b c ∧ EarP P a' b' c' ∧ b ≠ b' ∧ (b, b') ∉ eds P ∧ (b', b) ∉ eds P
/-- Once round what is within, no time round what isn't; ears. -/
structure Pos (P : List Q2) : Prop where
  num : ∀ q, Off P q → wn P q = 0 ∨ wn P q = 1
  two : 4 ≤ P.length → Two P
  tri : P.length = 3 → ∀ x y w, (x, y) ∈ eds P → (y, w) ∈ eds P → 0 < jc x y w
theorem EarP.same {P P' : List Q2} {a b c : Q2} (s : Same P P') (h : EarP P a b c) : EarP P' a b c :=
  ⟨(s.ed _).2 h.e1, (s.ed _).2 h.e2, h.pos, fun p hp => h.emp p ((s.mem p).1 hp)⟩
theorem Same.symm {P P' : List Q2} (s : Same P P') : Same P' P := ⟨fun p => (s.mem p).symm, fun e => (s.ed e).symm, fun q => (s.wn q).symm, s.len.symm, s.nd.symm⟩
theorem Pos.same {P P' : List Q2} (s : Same P P') (h : Pos P) : Pos P' := by
  refine ⟨fun q o => ?_, fun l => ?_, fun l x y w h1 h2 => h.tri (by rw [← s.len]; exact l) x y w ((s.ed _).1 h1) ((s.ed _).1 h2)⟩
  · rw [s.wn]; exact h.num q (o.same s.symm)
  · obtain ⟨a, b, c, a', b', c', h1, h2, h3, h4, h5⟩ := h.two (by rw [← s.len]; exact l)
    exact ⟨a, b, c, a', b', c', h1.same s, h2.same s, h3, fun k => h4 ((s.ed _).1 k), fun k => h5 ((s.ed _).1 k)⟩
theorem Same.rv {P P' : List Q2} (s : Same P P') : Same (rv P) (rv P') :=
  ⟨fun p => by rw [mem_rv, mem_rv]; exact s.mem p, fun ⟨u, v⟩ => by rw [ed_rev, ed_rev]; exact s.ed _, fun q => by rw [wn_rev, wn_rev, s.wn], by rw [len_rv, len_rv]; exact s.len,
   ⟨fun k => nd_rv (s.nd.1 (by have := nd_rv k; rwa [rv_rv] at this)), fun k => nd_rv (s.nd.2 (by have := nd_rv k; rwa [rv_rv] at this))⟩⟩
/-- A way with a given corner first. -/
theorem ear_form {P : List Q2} (S : SimJ P) {a b c : Q2} (h1 : (a, b) ∈ eds P) (h2 : (b, c) ∈ eds P) : ∃ mid, Same P (b :: c :: (mid ++ [a])) := by
  obtain ⟨l, s⟩ := rot_to (ed_mem h2).1
  have n3 := (S.same s).n3
  match l, s with
  | [], s => simp at n3
  | [x], s => simp at n3
  | c' :: x :: l, s =>
    obtain ⟨mid, a', e⟩ : ∃ mid a', x :: l = mid ++ [a'] := ⟨(x :: l).dropLast, (x :: l).getLast (by simp), (List.dropLast_concat_getLast (by simp)).symm⟩
    rw [e] at s
    obtain ⟨n1, n2, n3, n4, n5, n6, n7⟩ := nd_at (S.same s).nd
    have g1 := (s.ed _).2 h1
    have g2 := (s.ed _).2 h2
    rw [eds_at] at g1 g2
    simp only [List.mem_cons, List.mem_append, List.not_mem_nil, or_false, Prod.mk.injEq] at g1 g2
    have ec : c = c' := by
      rcases g2 with k | k | k
      · exact k.2
      · have := List.mem_cons.1 (pe_ends k).1
        exact absurd this (fun k => k.elim n1 n2)
      · exact absurd k.1 n3
    have ea : a = a' := by
      rcases g1 with k | k | k
      · exact absurd k.2 n1
      · have := List.mem_append.1 (pe_ends k).2
        exact absurd this (fun k => k.elim n2 (fun h => n3 (List.mem_singleton.1 h)))
      · exact k.1
    subst ec ea
    exact ⟨mid, s⟩
theorem len3 : ∀ Q : List Q2, Q.length = 3 → ∃ x y w, Q = [x, y, w]
  | [], h => by simp at h
  | [_], h => by simp at h
  | [_, _], h => by simp at h
  | [x, y, w], _ => ⟨x, y, w, rfl⟩
  | _ :: _ :: _ :: _ :: _, h => by simp at h
theorem fl_in {x e y p : Q2} (h : 0 < jc x e y) (i : InC x e y p) {α β z : Rat} (h1 : z < fl α β x) (h2 : z < fl α β e) (h3 : z < fl α β y) : z < fl α β p := by
  have s := jc_three x e y p
  have k : jc x e y * fl α β p = jc e y p * fl α β x + jc y x p * fl α β e + jc x e p * fl α β y := by unfold jc fl; grind
  have m1 := mnn i.q (show 0 ≤ fl α β x - z by grind)
  have m2 := mnn i.r (show 0 ≤ fl α β e - z by grind)
  have m3 := mnn i.p (show 0 ≤ fl α β y - z by grind)
  have e1 : jc x e y * (fl α β p - z) = jc e y p * (fl α β x - z) + jc y x p * (fl α β e - z) + jc x e p * (fl α β y - z) := by
    generalize jc x e y = J at *; generalize jc e y p = A at *; generalize jc y x p = B at *; generalize jc x e p = C at *
    generalize fl α β p = F at *; generalize fl α β x = X at *; generalize fl α β e = E at *; generalize fl α β y = Y at *
    subst s; grind
  have nn : 0 ≤ fl α β p - z := nn_of h (by rw [e1]; grind)
  false_or_by_contra
  have z0 : fl α β p - z = 0 := by grind
  rw [z0] at e1
  have q1 : jc e y p = 0 := by
    have := np_of (x := fl α β x - z) (y := jc e y p) (by grind) (by grind)
    have := i.q; grind
  have q2 : jc y x p = 0 := by
    have := np_of (x := fl α β e - z) (y := jc y x p) (by grind) (by grind)
    have := i.r; grind
  have q3 : jc x e p = 0 := by
    have := np_of (x := fl α β y - z) (y := jc x e p) (by grind) (by grind)
    have := i.p; grind
  grind
/-- In a triangle that is a whole way. -/
theorem tri_num {a b c q : Q2} (h : 0 < jc a b c) (o1 : ¬ OnJ a b q) (o2 : ¬ OnJ b c q) (o3 : ¬ OnJ c a q) : (InC a b c q → wn [a, b, c] q = 1) ∧ (¬ InC a b c q → wn [a, b, c] q = 0) := by
  constructor
  · intro i
    refine tri_in ?_ ?_ ?_
    · false_or_by_contra; exact o1 (on_ab h (by have := i.p; grind) i.q i.r)
    · false_or_by_contra; exact o2 (on_bc h (by have := i.q; grind) i.p i.r)
    · false_or_by_contra; exact o3 (on_ca h (by have := i.r; grind) i.p i.q)
  · intro i
    apply tri_out h
    false_or_by_contra
    exact i ⟨by grind, by grind, by grind⟩
/-- A part's ear, away from the cut, is an ear of the whole. -/
theorem part_ear {P Q : List Q2} {b z : Q2} (SQ : SimJ Q) (JQ : Pos Q) (one : ∃ q, Off Q q ∧ wn Q q = 1)
    (IH : ∀ R : List Q2, R.length < Q.length → SimJ R → ∃ σ : Int, (σ = 1 ∨ σ = -1) ∧ ∀ q, Off R q → wn R q = 0 ∨ wn R q = σ)
    (hE : ∀ e ∈ eds Q, e ∈ eds P ∨ e = (z, b) ∨ e = (b, z)) (zb : (z, b) ∈ eds Q ∨ (b, z) ∈ eds Q)
    (hout : ∀ p ∈ P, p ∉ Q → Off Q p ∧ wn Q p = 0) : ∃ u e v, e ∈ Q ∧ e ≠ b ∧ e ≠ z ∧ EarP P u e v := by
  have keep : ∀ u e v, e ≠ b → e ≠ z → EarP Q u e v → (∀ p, Off Q p → InC u e v p → wn Q p = 1) → ∃ u e v, e ∈ Q ∧ e ≠ b ∧ e ≠ z ∧ EarP P u e v := fun u e v nb nz E W => by
    refine ⟨u, e, v, (ed_mem E.e2).1, nb, nz, ?_, ?_, E.pos, ?_⟩
    · rcases hE _ E.e1 with k | k | k
      · exact k
      · simp only [Prod.mk.injEq] at k; exact absurd k.2 nb
      · simp only [Prod.mk.injEq] at k; exact absurd k.2 nz
    · rcases hE _ E.e2 with k | k | k
      · exact k
      · simp only [Prod.mk.injEq] at k; exact absurd k.1 nz
      · simp only [Prod.mk.injEq] at k; exact absurd k.1 nb
    · intro p hp n1 n2 n3 i
      by_cases hq : p ∈ Q
      · exact E.emp p hq n1 n2 n3 i
      · have h := hout p hp hq
        have := W p h.1 i
        omega
  have n3 := SQ.n3
  by_cases n4 : 4 ≤ Q.length
  · have fin : ∀ u e v, e ≠ b → e ≠ z → EarP Q u e v → ∃ u e v, e ∈ Q ∧ e ≠ b ∧ e ≠ z ∧ EarP P u e v := fun u e v nb nz E => by
      refine keep u e v nb nz E ?_
      obtain ⟨mid, s⟩ := ear_form SQ E.e1 E.e2
      have S' := SQ.same s
      have hm : mid ≠ [] := by
        rintro rfl
        have := s.len
        simp at this
        omega
      obtain ⟨m1, m2, m3, m4, m5, m6, m7⟩ := nd_at S'.nd
      have he : ∀ p ∈ mid, ¬ InC u e v p := fun p hp => E.emp p ((s.mem p).1 (by simp [hp])) (fun k => m6 (k ▸ hp)) (fun k => m2 (k ▸ hp)) (fun k => m4 (k ▸ hp))
      obtain ⟨σ, hσ, J⟩ := IH (v :: (mid ++ [u])) (by have := s.len; simp only [List.length_cons] at this ⊢; omega) (cut_simple S' E.pos hm he)
      rcases cut_round S' E.pos hm he hσ J with ⟨_, _, A⟩ | ⟨_, B⟩
      · intro p o i
        rw [← s.wn]
        exact A p (o.same s) i
      · obtain ⟨q, oq, wq⟩ := one
        have := B q (oq.same s)
        rw [s.wn] at this
        omega
    obtain ⟨a1, b1, c1, a2, b2, c2, E1, E2, hne, h4, h5⟩ := JQ.two n4
    by_cases k1 : b1 = b ∨ b1 = z
    · by_cases k2 : b2 = b ∨ b2 = z
      · exfalso
        rcases k1 with rfl | rfl <;> rcases k2 with rfl | rfl
        · exact hne rfl
        · rcases zb with k | k; exact h5 k; exact h4 k
        · rcases zb with k | k; exact h4 k; exact h5 k
        · exact hne rfl
      · exact fin a2 b2 c2 (fun k => k2 (.inl k)) (fun k => k2 (.inr k)) E2
    · exact fin a1 b1 c1 (fun k => k1 (.inl k)) (fun k => k1 (.inr k)) E1
  · obtain ⟨x, y, w, rfl⟩ := len3 Q (by omega)
    have T := JQ.tri rfl
    have nd := SQ.nd
    simp only [List.nodup_cons, List.mem_cons, List.not_mem_nil, or_false, not_or] at nd
    obtain ⟨⟨xy, xw⟩, yw, _⟩ := nd
    have ed : eds [x, y, w] = [(x, y), (y, w), (w, x)] := rfl
    have go : ∀ u e v, e ≠ b → e ≠ z → (u, e) ∈ eds [x, y, w] → (e, v) ∈ eds [x, y, w] → (∀ p ∈ [x, y, w], p = u ∨ p = e ∨ p = v) → (∀ q, wn [u, e, v] q = wn [x, y, w] q) → (v, u) ∈ eds [x, y, w] → ∃ u e v, e ∈ [x, y, w] ∧ e ≠ b ∧ e ≠ z ∧ EarP P u e v := fun u e v nb nz h1 h2 h3 h4 h5 => by
      refine keep u e v nb nz ⟨h1, h2, T _ _ _ h1 h2, fun p hp n1 n2 n3 => ?_⟩ (fun p o i => ?_)
      · rcases h3 p hp with k | k | k
        · exact absurd k n1
        · exact absurd k n2
        · exact absurd k n3
      · rw [← h4]
        exact (tri_num (T _ _ _ h1 h2) (o _ h1) (o _ h2) (o _ h5)).1 i
    have third : (z = x ∧ b = y ∨ z = y ∧ b = x) ∨ (z = y ∧ b = w ∨ z = w ∧ b = y) ∨ (z = w ∧ b = x ∨ z = x ∧ b = w) := by
      rw [ed] at zb
      simp only [List.mem_cons, List.not_mem_nil, or_false, Prod.mk.injEq] at zb
      grind
    rcases third with k | k | k
    · exact go y w x (by grind) (by grind) (by rw [ed]; simp) (by rw [ed]; simp) (fun p hp => by simp at hp; grind) (fun q => by rw [wn_tri, wn_tri]; omega) (by rw [ed]; simp)
    · exact go w x y (by grind) (by grind) (by rw [ed]; simp) (by rw [ed]; simp) (fun p hp => by simp at hp; grind) (fun q => by rw [wn_tri, wn_tri]; omega) (by rw [ed]; simp)
    · exact go x y w (by grind) (by grind) (by rw [ed]; simp) (by rw [ed]; simp) (fun p hp => by simp at hp; grind) (fun q => rfl) (by rw [ed]; simp)
end Go.Proofs.YtomekmhonfofkaaGreat.Jor
