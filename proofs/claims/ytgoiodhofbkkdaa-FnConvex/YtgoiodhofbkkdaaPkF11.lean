/- IsSimple and InnerPoints of both sides. No condition beyond those typed. Written by mkinn8.py. -/
import Derived.Test.YtgoiodhofbkkdaaSeg8
import Derived.DeepKeys5
import Derived.WideKeyEntry
namespace Go.Proofs.Ytgoiodhofbkkdaa
open Go.RowKit
set_option linter.unusedVariables false
set_option maxRecDepth 100000
set_option linter.unusedSimpArgs false

/-- Of n points that come the other way round, the first k are laid. -/
def TvM (M : List Value) (l : List (Int × Int)) (n k : Nat) : Prop := ∀ i, i < k → M[((n - i) % n) * 2]? = some (.int .i64 (l.getD i (0, 0)).1) ∧ M[((n - i) % n) * 2 + 1]? = some (.int .i64 (l.getD i (0, 0)).2)
theorem back_at {n i : Nat} (h : i < n) : (n - i) % n = if i = 0 then 0 else n - i := by
  split
  · rename_i e; subst e; simp
  · exact Nat.mod_eq_of_lt (by omega)
theorem TvM.step {M : List Value} {l : List (Int × Int)} {n k : Nat} (hM : M.length = n * 2) (hk : k < n) (h : TvM M l n k) :
    TvM ((M.set (((n - k) % n) * 2) (.int .i64 (l.getD k (0, 0)).1)).set (((n - k) % n) * 2 + 1) (.int .i64 (l.getD k (0, 0)).2)) l n (k + 1) := by
  intro i hi
  have lt := Nat.mod_lt (n - k) (show 0 < n by omega)
  by_cases e : i < k
  · have h1 := h i e
    have ne : (n - i) % n ≠ (n - k) % n := by
      rw [back_at (show i < n by omega), back_at hk]
      split <;> split <;> omega
    simp only [List.getElem?_set]
    refine ⟨?_, ?_⟩
    · rw [if_neg (by omega), if_neg (by omega)]; exact h1.1
    · rw [if_neg (by omega), if_neg (by omega)]; exact h1.2
  · obtain rfl : i = k := by omega
    simp only [List.getElem?_set, List.length_set]
    refine ⟨?_, ?_⟩
    · rw [if_neg (by omega), if_pos trivial, if_pos (by omega)]
    · rw [if_pos trivial, if_pos (by omega)]
theorem tvN_at {l : List (Int × Int)} {n j : Nat} (hn : l.length = n) (h : j < (tvN l (n - 1)).length) : (tvN l (n - 1))[j] = l.getD ((n - j) % n) (0, 0) := by
  have hl := tvN_len l (n - 1)
  match j, h with
  | 0, h => simp [tvN]
  | j + 1, h =>
    have e1 : (n - (j + 1)) % n = n - (j + 1) := Nat.mod_eq_of_lt (by omega)
    simp only [tvN, List.getElem_cons_succ, List.getElem_map, List.getElem_range, hn, e1]
    congr 1
    omega
theorem TvM.rows {M : List Value} {l : List (Int × Int)} {n : Nat} (hn : l.length = n) (h : TvM M l n n) (h0 : 0 < n) : ∀ i (h : i < (tvN l (n - 1)).length), M[i * 2]? = some (.int .i64 (tvN l (n - 1))[i].1) ∧ M[i * 2 + 1]? = some (.int .i64 (tvN l (n - 1))[i].2) := by
  intro i hi
  have hl := tvN_len l (n - 1)
  rw [tvN_at hn hi]
  have lt := Nat.mod_lt (n - i) h0
  have k := h ((n - i) % n) lt
  have e : (n - (n - i) % n) % n = i := by
    rw [back_at (show i < n by omega)]
    split
    · rename_i e; subst e; simp
    · rw [Nat.mod_eq_of_lt (by omega)]; omega
  rw [e] at k
  exact k
/-- Of n moved points the first k are laid. -/
def MvM (M : List Value) (l : List (Int × Int)) (q : Int × Int) (k : Nat) : Prop := ∀ i, i < k → M[i * 2]? = some (.int .i64 ((l.getD i (0, 0)).1 + q.1)) ∧ M[i * 2 + 1]? = some (.int .i64 ((l.getD i (0, 0)).2 + q.2))
theorem MvM.step {M : List Value} {l : List (Int × Int)} {q : Int × Int} {n k : Nat} (hM : M.length = n * 2) (hk : k < n) (h : MvM M l q k) :
    MvM ((M.set (k * 2) (.int .i64 ((l.getD k (0, 0)).1 + q.1))).set (k * 2 + 1) (.int .i64 ((l.getD k (0, 0)).2 + q.2))) l q (k + 1) := by
  intro i hi
  by_cases e : i < k
  · have h1 := h i e
    simp only [List.getElem?_set]
    refine ⟨?_, ?_⟩
    · rw [if_neg (by omega), if_neg (by omega)]; exact h1.1
    · rw [if_neg (by omega), if_neg (by omega)]; exact h1.2
  · obtain rfl : i = k := by omega
    simp only [List.getElem?_set, List.length_set]
    refine ⟨?_, ?_⟩
    · rw [if_neg (by omega), if_pos trivial, if_pos (by omega)]
    · rw [if_pos trivial, if_pos (by omega)]
theorem MvM.rows {M : List Value} {l : List (Int × Int)} {q : Int × Int} {n : Nat} (hn : l.length = n) (h : MvM M l q n) : ∀ i (h : i < (mvL l q).length), M[i * 2]? = some (.int .i64 (mvL l q)[i].1) ∧ M[i * 2 + 1]? = some (.int .i64 (mvL l q)[i].2) := by
  intro i hi
  have hi' : i < l.length := by simpa [mvL] using hi
  have k := h i (by omega)
  rw [getD_gt hi'] at k
  simpa [mvL] using k
theorem way_mv {l : List (Int × Int)} {q : Int × Int} (h : wayB l = true) : wayB (mvL l q) = (mvL l q).all gPt := by
  unfold wayB at h ⊢
  have h2 := ((Bool.and_eq_true _ _).mp h).1
  have e : (mvL l q).length = l.length := by simp [mvL]
  rw [e, h2, Bool.true_and]
end Go.Proofs.Ytgoiodhofbkkdaa
namespace Go.Proofs.Ytgoiodhofbkkdaa
open Go.RowKit Go.ChangeMaps
set_option linter.unusedVariables false
set_option maxRecDepth 100000
set_option linter.unusedSimpArgs false

def keyV (p : Int × Int) : Value := .agg #[.int .i64 p.1, .int .i64 p.2]
theorem keyV_inj {p q : Int × Int} (h : keyV p = keyV q) : p = q := by
  simp [keyV] at h
  exact Prod.ext h.1 h.2
theorem lawPt8 : WideMaps.KeyLaw Try.prog 31 := deep_law_gate (by kernel_rfl) (of_decide_eq_true (by kernel_rfl)) (of_decide_eq_true (by kernel_rfl)) (by kernel_rfl) (by kernel_rfl)
theorem cellsPt8 : Try.prog.cellsOf 31 = 2 := by kernel_rfl
theorem cellsInt8 : Try.prog.cellsOf 3 = 1 := by kernel_rfl
theorem near_wf {n : Int} (h0 : -100000 ≤ n) (h1 : n ≤ 100000) : (Lit.int .i64 n).wf = true := WalkArith.wf_i64 (by omega)
theorem keyPt8 {p : Int × Int} (h : Near p) : ∃ kl, keyOf Try.prog 31 (keyV p) = some kl := by
  have w1 := near_wf h.x0 h.x1
  have w2 := near_wf h.y0 h.y1
  have hk : Try.prog.keyType 31 = true := by kernel_rfl
  have ht : Try.prog.types.size = Try.prog.types.size - 1 + 1 := by have : 0 < Try.prog.types.size := of_decide_eq_true (by kernel_rfl); omega
  have i1 : ∀ d n, (Lit.int .i64 n).wf = true → Try.prog.keyLits (d + 1) 3 [.int .i64 n] = some [.int .i64 n] := by
    intro d n hn
    simp [Program.keyLits, Try.underlying3, hn]
  unfold keyOf keyV
  rw [Try.underlying31]
  simp only [hk, Value.formed, Try.underlying31, cellsPt8, Value.cells, Bool.true_and]
  rw [if_pos (by rfl), ht]
  simp only [Program.keyLits, Try.underlying31, cellsPt8, cellsInt8]
  simp [i1, w1, w2, cellsInt8]
/-- The first k points, each once. -/
def mpE (l : List (Int × Int)) (k : Nat) : List MapEntry := (List.range k).map (fun i => ⟨keyV (l.getD i (0, 0)), .int .i64 1, i⟩)
theorem mpE_at {l : List (Int × Int)} {k j : Nat} {e : MapEntry} (h : (mpE l k)[j]? = some e) : j < k ∧ e = ⟨keyV (l.getD j (0, 0)), .int .i64 1, j⟩ := by
  have hj : j < (mpE l k).length := by
    rcases Nat.lt_or_ge j (mpE l k).length with h1 | h1
    · exact h1
    · rw [List.getElem?_eq_none h1] at h; cases h
  have hk : j < k := by simpa [mpE] using hj
  refine ⟨hk, ?_⟩
  rw [List.getElem?_eq_getElem hj] at h
  simp [mpE] at h
  exact h.symm
theorem mpE_mem {l : List (Int × Int)} {k : Nat} {e : MapEntry} (h : e ∈ mpE l k) : ∃ j, j < k ∧ e = ⟨keyV (l.getD j (0, 0)), .int .i64 1, j⟩ := by
  obtain ⟨j, hj⟩ := List.mem_iff_getElem?.1 h
  exact ⟨j, mpE_at hj⟩
theorem mpE_succ (l : List (Int × Int)) (k : Nat) : mpE l (k + 1) = mpE l k ++ [⟨keyV (l.getD k (0, 0)), .int .i64 1, k⟩] := by simp [mpE, List.range_succ]
theorem mpE_born (l : List (Int × Int)) (k : Nat) : (mpE l k).map (·.born) = List.range k := by simp [mpE, Function.comp_def]
theorem getD_near {l : List (Int × Int)} (h : ∀ p ∈ l, Near p) (i : Nat) : Near (l.getD i (0, 0)) := by
  by_cases hi : i < l.length
  · rw [getD_gt hi]; exact h _ (List.getElem_mem _)
  · rw [List.getD_eq_getElem?_getD, List.getElem?_eq_none (by omega)]
    exact ⟨by simp, by simp, by simp, by simp⟩
theorem zeroInt8 (w : World) : (zeroValue 3).run Try.prog w = .ok (.int .i64 0) w := by kernel_rfl
theorem look_none {w : World} {B clock : Nat} {es : Array MapEntry} {p : Int × Int} (hb : w.heap[B]? = some (.map es clock)) (hp : Near p) (hks : ∀ e ∈ es.toList, ∃ l, keyOf Try.prog 31 e.key = some l) (hne : ∀ e ∈ es.toList, e.key ≠ keyV p) :
    (Instr.lookup 113 (.map (some B)) (keyV p) false).run Try.prog w = .ok (.int .i64 0) w := by
  obtain ⟨kl, hkey⟩ := keyPt8 hp
  rcases lawPt8.find w hkey es.toList hks with ⟨h1, h2⟩ | ⟨j, e0, h1, h2, h3⟩
  · simp [Instr.lookup, run_underlying Try.underlying113, MapKept.run_getObj_map hb, lawPt8.check w _ hkey, h1, zeroInt8, Result.andThen]
  · exact absurd h3 (hne e0 (List.mem_of_getElem? h2))
theorem look_some {w : World} {B clock : Nat} {es : Array MapEntry} {p : Int × Int} {v : Value} (hb : w.heap[B]? = some (.map es clock)) (hp : Near p) (hks : ∀ e ∈ es.toList, ∃ l, keyOf Try.prog 31 e.key = some l) (hex : ∃ e ∈ es.toList, e.key = keyV p) (hv : ∀ e ∈ es.toList, e.key = keyV p → e.val = v) :
    (Instr.lookup 113 (.map (some B)) (keyV p) false).run Try.prog w = .ok v w := by
  obtain ⟨kl, hkey⟩ := keyPt8 hp
  rcases lawPt8.find w hkey es.toList hks with ⟨h1, h2⟩ | ⟨j, e0, h1, h2, h3⟩
  · obtain ⟨e, he, hk⟩ := hex
    exact absurd hk (h2 e he)
  · have e1 := hv e0 (List.mem_of_getElem? h2) h3
    simp [Instr.lookup, run_underlying Try.underlying113, MapKept.run_getObj_map hb, lawPt8.check w _ hkey, h1, e1, Result.andThen]
theorem set_at8 {w : World} {B clock : Nat} {es : Array MapEntry} (hb : w.heap[B]? = some (.map es clock)) (o : Obj) : (setBlock w B o).heap[B]? = some o := by
  have := (Array.getElem?_eq_some_iff.1 hb).1
  simp [setBlock, this]
theorem set_but8 {w : World} {B : Nat} (o : Obj) : But B (B + 1) w (setBlock w B o) := by
  refine ⟨rfl, rfl, rfl, by simp [setBlock], fun k hk hj => ?_⟩
  simp only [setBlock]
  rw [Array.getElem?_setIfInBounds]
  rw [if_neg (by omega)]
theorem entry_none8 {w : World} {B clock : Nat} {es : Array MapEntry} {key : Value} (hb : w.heap[B]? = some (.map es clock)) (hck : (Instr.checkKey false 10000 31 key).run Try.prog w = .ok () w) (h1 : (Instr.findKey 31 key es.toList).run Try.prog w = .ok none w) :
    (Instr.mapEntry 113 (.map (some B)) key).run Try.prog w = .ok (.tuple #[.int .i64 0, .int .i64 clock]) (setBlock w B (.map (es.push ⟨key, .int .i64 0, clock⟩) (clock + 1))) := by
  simp [Instr.mapEntry, run_underlying Try.underlying113, MapKept.run_getObj_map hb, hck, h1, zeroInt8, MapKept.run_setObj_map _ hb, Result.andThen, setBlock, goInt]
theorem entry_some8 {w : World} {B clock : Nat} {es : Array MapEntry} {key : Value} {j : Nat} {e0 : MapEntry} (hb : w.heap[B]? = some (.map es clock)) (hck : (Instr.checkKey false 10000 31 key).run Try.prog w = .ok () w) (h1 : (Instr.findKey 31 key es.toList).run Try.prog w = .ok (some (j, e0.val)) w)
    (hj : es[j]? = some e0) (h3 : e0.key = key) (hst : (Instr.keyThatStays key key).run Try.prog w = .ok key w) (hsame : es.modify j (fun e => { e with key := key }) = es) :
    (Instr.mapEntry 113 (.map (some B)) key).run Try.prog w = .ok (.tuple #[e0.val, .int .i64 e0.born]) (setBlock w B (.map es clock)) := by
  simp [Instr.mapEntry, run_underlying Try.underlying113, MapKept.run_getObj_map hb, hck, h1, hj, h3, hst, hsame, MapKept.run_setObj_map _ hb, Result.andThen, setBlock, goInt]
theorem store_at8 {w : World} {B clock : Nat} {es es' : Array MapEntry} {st j : Nat} {v : Value} (hb : w.heap[B]? = some (.map es clock)) (hidx : es.findIdx? (fun e => ((e.born : Nat) : Int) == ((st : Nat) : Int)) = some j) (hmod : es.modify j (fun e => { e with val := v }) = es') :
    (Instr.entryStore 113 (.map (some B)) (.int .i64 st) v).run Try.prog w = .ok () (setBlock w B (.map es' clock)) := by
  simp [Instr.entryStore, MapKept.run_getObj_map hb, asInt, asIntOf, hidx, hmod, MapKept.run_setObj_map _ hb, Result.andThen, setBlock]
theorem make8 (n : Int) (w : World) : (Instr.makeMap 113 (some (.int .i64 n))).run Try.prog w = .ok (.map (some w.heap.size)) (w.alloc (.map #[] 0)) := by
  have h := run_makeMap (P := Try.prog) 113 w
  simp only [Instr.makeMap] at h ⊢
  simp [run_underlying Try.underlying113, asInt, asIntOf, Result.andThen] at h ⊢
  try exact h
theorem round8 {w : World} {B k : Nat} {l : List (Int × Int)} (hb : w.heap[B]? = some (.map (mpE l k).toArray k)) (hl : ∀ p ∈ l, Near p) (hd : ∀ i j, i < k → j < k → l.getD i (0, 0) = l.getD j (0, 0) → i = j) :
    ∃ (v : Int) (st : Nat) (w4 w5 : World),
      (Instr.lookup 113 (.map (some B)) (keyV (l.getD k (0, 0))) false).run Try.prog w = .ok (.int .i64 v) w ∧
      (Instr.mapEntry 113 (.map (some B)) (keyV (l.getD k (0, 0)))).run Try.prog w = .ok (.tuple #[.int .i64 v, .int .i64 st]) w4 ∧
      (Instr.lookup 113 (.map (some B)) (keyV (l.getD k (0, 0))) false).run Try.prog w4 = .ok (.int .i64 v) w4 ∧
      (Instr.entryStore 113 (.map (some B)) (.int .i64 st) (.int .i64 (v + 1))).run Try.prog w4 = .ok () w5 ∧
      (Instr.lookup 113 (.map (some B)) (keyV (l.getD k (0, 0))) false).run Try.prog w5 = .ok (.int .i64 (v + 1)) w5 ∧
      But B (B + 1) w w5 ∧
      ((v = 0 ∧ (∀ i, i < k → l.getD i (0, 0) ≠ l.getD k (0, 0)) ∧ w5.heap[B]? = some (.map (mpE l (k + 1)).toArray (k + 1))) ∨ (v = 1 ∧ ∃ i, i < k ∧ l.getD i (0, 0) = l.getD k (0, 0))) := by
  have hp := getD_near hl k
  have hks : ∀ e ∈ mpE l k, ∃ x, keyOf Try.prog 31 e.key = some x := by
    intro e he
    obtain ⟨j, hj, rfl⟩ := mpE_mem he
    exact keyPt8 (getD_near hl j)
  obtain ⟨kl, hkey⟩ := keyPt8 hp
  have hnd : ((mpE l k).map (·.born)).Nodup := by rw [mpE_born]; exact List.nodup_range
  rcases lawPt8.find w hkey (mpE l k) hks with ⟨h1, h2⟩ | ⟨j, e0, h1, h2, h3⟩
  · have hb4 := set_at8 hb (.map ((mpE l k).toArray.push ⟨keyV (l.getD k (0, 0)), .int .i64 0, k⟩) (k + 1))
    have hb5 := set_at8 hb4 (.map (mpE l (k + 1)).toArray (k + 1))
    have hne : ∀ i, i < k → l.getD i (0, 0) ≠ l.getD k (0, 0) := by
      intro i hi he
      exact h2 ⟨keyV (l.getD i (0, 0)), .int .i64 1, i⟩ (List.mem_map.2 ⟨i, List.mem_range.2 hi, rfl⟩) (by rw [he])
    refine ⟨0, k, setBlock w B (.map ((mpE l k).toArray.push ⟨keyV (l.getD k (0, 0)), .int .i64 0, k⟩) (k + 1)), setBlock (setBlock w B (.map ((mpE l k).toArray.push ⟨keyV (l.getD k (0, 0)), .int .i64 0, k⟩) (k + 1))) B (.map (mpE l (k + 1)).toArray (k + 1)), ?_, ?_, ?_, ?_, ?_, set_but8 _ |>.trans (set_but8 _), .inl ⟨rfl, hne, hb5⟩⟩
    · exact look_none hb hp (by simpa using hks) (by simpa using h2)
    · exact entry_none8 hb (lawPt8.check w false hkey) h1
    · refine look_some hb4 hp ?_ ⟨⟨keyV (l.getD k (0, 0)), .int .i64 0, k⟩, by simp, rfl⟩ ?_
      · intro e he
        simp only [Array.toList_push, List.mem_append, List.mem_singleton] at he
        rcases he with he | rfl
        · exact hks e he
        · exact ⟨kl, hkey⟩
      · intro e he hk
        simp only [Array.toList_push, List.mem_append, List.mem_singleton] at he
        rcases he with he | rfl
        · exact absurd hk (h2 e he)
        · rfl
    · have hidx : ((mpE l k).toArray.push ⟨keyV (l.getD k (0, 0)), .int .i64 0, k⟩).findIdx? (fun e => ((e.born : Nat) : Int) == ((k : Nat) : Int)) = some k := by
        rw [WideElems.findIdx_arr]
        have := WideElems.findIdx_born (l := ((mpE l k).toArray.push ⟨keyV (l.getD k (0, 0)), .int .i64 0, k⟩).toList) (j := k) (e0 := ⟨keyV (l.getD k (0, 0)), .int .i64 0, k⟩) (by
          simp only [Array.toList_push, List.map_append, List.map_cons, List.map_nil, mpE_born]
          rw [← List.range_succ]
          exact List.nodup_range) (by simp [mpE])
        exact this
      have hmod : ((mpE l k).toArray.push ⟨keyV (l.getD k (0, 0)), .int .i64 0, k⟩).modify k (fun e => { e with val := .int .i64 (0 + 1) }) = (mpE l (k + 1)).toArray := by
        apply Array.ext'
        have e1 : (mpE l k).length = k := by simp [mpE]
        rw [Array.toList_modify, Array.toList_push]
        have := WideElems.modify_last (fun e : MapEntry => { e with val := .int .i64 (0 + 1) }) ⟨keyV (l.getD k (0, 0)), .int .i64 0, k⟩ (mpE l k)
        rw [e1] at this
        simp only [mpE_succ]
        exact this
      exact store_at8 hb4 hidx hmod
    · refine look_some hb5 hp ?_ ⟨⟨keyV (l.getD k (0, 0)), .int .i64 1, k⟩, by simp [mpE_succ], rfl⟩ ?_
      · intro e he
        obtain ⟨j, hj, rfl⟩ := mpE_mem (by simpa using he)
        exact keyPt8 (getD_near hl j)
      · intro e he hk
        obtain ⟨j, hj, rfl⟩ := mpE_mem (by simpa using he)
        rfl
  · obtain ⟨hj, rfl⟩ := mpE_at h2
    have he : l.getD j (0, 0) = l.getD k (0, 0) := keyV_inj h3
    have hjl : (mpE l k).toArray[j]? = some ⟨keyV (l.getD j (0, 0)), .int .i64 1, j⟩ := by simpa using h2
    have hsame : (mpE l k).toArray.modify j (fun e => { e with key := keyV (l.getD k (0, 0)) }) = (mpE l k).toArray := by
      apply Array.ext'
      rw [Array.toList_modify, modify_eq_set _ _ _ _ h2]
      have : ({ (⟨keyV (l.getD j (0, 0)), .int .i64 1, j⟩ : MapEntry) with key := keyV (l.getD k (0, 0)) } : MapEntry) = ⟨keyV (l.getD j (0, 0)), .int .i64 1, j⟩ := by rw [he]
      rw [this]
      exact WideElems.set_self _ _ _ h2
    have hb4 := set_at8 hb (.map (mpE l k).toArray k)
    have hb5 := set_at8 hb4 (.map ((mpE l k).toArray.modify j (fun e => { e with val := .int .i64 (1 + 1) })) k)
    have hm5 : ((mpE l k).toArray.modify j (fun e => { e with val := .int .i64 (1 + 1) })).toList = (mpE l k).set j ⟨keyV (l.getD j (0, 0)), .int .i64 (1 + 1), j⟩ := by
      rw [Array.toList_modify, modify_eq_set _ _ _ _ h2]
    refine ⟨1, j, setBlock w B (.map (mpE l k).toArray k), setBlock (setBlock w B (.map (mpE l k).toArray k)) B (.map ((mpE l k).toArray.modify j (fun e => { e with val := .int .i64 (1 + 1) })) k), ?_, ?_, ?_, ?_, ?_, set_but8 _ |>.trans (set_but8 _), .inr ⟨rfl, j, hj, he⟩⟩
    · refine look_some hb hp (by simpa using hks) ⟨_, by simpa using List.mem_of_getElem? h2, h3⟩ ?_
      intro e he hk
      obtain ⟨i, hi, rfl⟩ := mpE_mem (by simpa using he)
      rfl
    · exact entry_some8 hb (lawPt8.check w false hkey) h1 hjl h3 (lawPt8.stays w hkey) hsame
    · refine look_some hb4 hp (by simpa using hks) ⟨_, by simpa using List.mem_of_getElem? h2, h3⟩ ?_
      intro e he hk
      obtain ⟨i, hi, rfl⟩ := mpE_mem (by simpa using he)
      rfl
    · have hidx : (mpE l k).toArray.findIdx? (fun e => ((e.born : Nat) : Int) == ((j : Nat) : Int)) = some j := by
        rw [WideElems.findIdx_arr]
        exact WideElems.findIdx_born hnd h2
      exact store_at8 hb4 hidx rfl
    · refine look_some hb5 hp ?_ ⟨⟨keyV (l.getD j (0, 0)), .int .i64 (1 + 1), j⟩, ?_, by rw [← h3]⟩ ?_
      · intro e he
        rw [hm5] at he
        rcases List.mem_or_eq_of_mem_set he with he | rfl
        · exact hks e he
        · exact keyPt8 (getD_near hl j)
      · rw [hm5]
        exact List.mem_set (by simp [mpE]; exact hj) _
      · intro e hem hk
        rw [hm5] at hem
        obtain ⟨i, hi⟩ := List.mem_iff_getElem?.1 hem
        by_cases hij : j = i
        · subst hij
          rw [List.getElem?_set_self (by simp [mpE]; exact hj)] at hi
          cases hi
          rfl
        · rw [List.getElem?_set_ne hij] at hi
          obtain ⟨hik, rfl⟩ := mpE_at hi
          exact absurd (hd j i hj hik (he.trans (keyV_inj hk).symm)) hij
end Go.Proofs.Ytgoiodhofbkkdaa
namespace Go.Proofs.Ytgoiodhofbkkdaa
open Go.RowKit
set_option linter.unusedVariables false
set_option maxRecDepth 100000
set_option linter.unusedSimpArgs false

theorem ne_pt {a b : Int × Int} (h : ¬ a = b) : ((a.1 == b.1) = false) ∨ ((a.1 == b.1) = true ∧ (a.2 == b.2) = false) := by
  by_cases h1 : a.1 = b.1
  · right
    refine ⟨by simp [h1], ?_⟩
    by_cases h2 : a.2 = b.2
    · exact absurd (Prod.ext h1 h2) h
    · simp [h2]
  · left
    simp [h1]
theorem eq_pt {a b : Int × Int} (h : a = b) : (a.1 == b.1) = true ∧ (a.2 == b.2) = true := by subst h; simp
/-- Whether two segments of a way meet where they should not. -/
def amV (a b c d : Int × Int) : Bool := if b = c then onV a b d || onV c d a else if d = a then onV c d b || onV a b c else meV a b c d
set_option maxHeartbeats 4000000 in
theorem amissI (a b c d : Int × Int) (w : World) (ha : Near a) (hb : Near b) (hc : Near c) (hd : Near d) :
    Calls Try.prog 95 #[.agg #[.int .i64 a.1, .int .i64 a.2, .int .i64 b.1, .int .i64 b.2], .agg #[.int .i64 c.1, .int .i64 c.2, .int .i64 d.1, .int .i64 d.2]] w fun e w' => e = .returned (.bool (amV a b c d)) ∧ Below w.heap.size w w' := by
  have C1 := hide (fun w => nextAgainI a b c d w ha hb hc hd)
  have C2 := hide (fun w => nextAgainI c d a b w hc hd ha hb)
  have C3 := hide (fun w => meetsI a b c d w ha hb hc hd)
  clear ha hb hc hd
  by_cases h1 : b = c
  · have e1 : amV a b c d = (onV a b d || onV c d a) := by unfold amV; rw [if_pos h1]
    rw [e1]
    generalize (onV a b d || onV c d a) = x at *
    clear e1 C2 C3
    have q1 : (b.1 == c.1) = true := by rw [h1]; simp
    have q2 : (b.2 == c.2) = true := by rw [h1]; simp
    clear h1
    have B0 := hide (show Below w.heap.size w ((w.alloc (.cells #[.int .i64 a.1, .int .i64 a.2, .int .i64 b.1, .int .i64 b.2] 95)).alloc (.cells #[.int .i64 c.1, .int .i64 c.2, .int .i64 d.1, .int .i64 d.2] 95)) from (((Below.refl _ _).alloc (by simp) _).alloc (by simp) _))
    go_enter Try.func95, Try.ntmps95
    go_wp2_with fail
    refine (unhide C1 _).mono ?_
    rintro e w1 ⟨rfl, hb⟩
    have HB := hide (below_on (unhide B0) hb)
    clear hb
    go_wp2_with fail
    go_ret
    exact ⟨rfl, unhide HB⟩
  · rcases ne_pt h1 with q1 | ⟨q1, q2⟩
    · by_cases h2 : d = a
      · have e1 : amV a b c d = (onV c d b || onV a b c) := by unfold amV; rw [if_neg h1, if_pos h2]
        rw [e1]
        generalize (onV c d b || onV a b c) = x at *
        obtain ⟨r1, r2⟩ := eq_pt h2
        clear e1 C1 C3 h1 h2
        have B0 := hide (show Below w.heap.size w ((w.alloc (.cells #[.int .i64 a.1, .int .i64 a.2, .int .i64 b.1, .int .i64 b.2] 95)).alloc (.cells #[.int .i64 c.1, .int .i64 c.2, .int .i64 d.1, .int .i64 d.2] 95)) from (((Below.refl _ _).alloc (by simp) _).alloc (by simp) _))
        go_enter Try.func95, Try.ntmps95
        go_wp2_with fail
        refine (unhide C2 _).mono ?_
        rintro e w1 ⟨rfl, hb⟩
        have HB := hide (below_on (unhide B0) hb)
        clear hb
        go_wp2_with fail
        go_ret
        exact ⟨rfl, unhide HB⟩
      · have e1 : amV a b c d = meV a b c d := by unfold amV; rw [if_neg h1, if_neg h2]
        rw [e1]
        generalize meV a b c d = x at *
        clear e1 C1 C2 h1
        rcases ne_pt h2 with r1 | ⟨r1, r2⟩
        · clear h2
          have B0 := hide (show Below w.heap.size w ((w.alloc (.cells #[.int .i64 a.1, .int .i64 a.2, .int .i64 b.1, .int .i64 b.2] 95)).alloc (.cells #[.int .i64 c.1, .int .i64 c.2, .int .i64 d.1, .int .i64 d.2] 95)) from (((Below.refl _ _).alloc (by simp) _).alloc (by simp) _))
          go_enter Try.func95, Try.ntmps95
          go_wp2_with fail
          refine (unhide C3 _).mono ?_
          rintro e w1 ⟨rfl, hb⟩
          have HB := hide (below_on (unhide B0) hb)
          clear hb
          go_wp2_with fail
          go_ret
          exact ⟨rfl, unhide HB⟩
        · clear h2
          have B0 := hide (show Below w.heap.size w ((w.alloc (.cells #[.int .i64 a.1, .int .i64 a.2, .int .i64 b.1, .int .i64 b.2] 95)).alloc (.cells #[.int .i64 c.1, .int .i64 c.2, .int .i64 d.1, .int .i64 d.2] 95)) from (((Below.refl _ _).alloc (by simp) _).alloc (by simp) _))
          go_enter Try.func95, Try.ntmps95
          go_wp2_with fail
          refine (unhide C3 _).mono ?_
          rintro e w1 ⟨rfl, hb⟩
          have HB := hide (below_on (unhide B0) hb)
          clear hb
          go_wp2_with fail
          go_ret
          exact ⟨rfl, unhide HB⟩
    · by_cases h2 : d = a
      · have e1 : amV a b c d = (onV c d b || onV a b c) := by unfold amV; rw [if_neg h1, if_pos h2]
        rw [e1]
        generalize (onV c d b || onV a b c) = x at *
        obtain ⟨r1, r2⟩ := eq_pt h2
        clear e1 C1 C3 h1 h2
        have B0 := hide (show Below w.heap.size w ((w.alloc (.cells #[.int .i64 a.1, .int .i64 a.2, .int .i64 b.1, .int .i64 b.2] 95)).alloc (.cells #[.int .i64 c.1, .int .i64 c.2, .int .i64 d.1, .int .i64 d.2] 95)) from (((Below.refl _ _).alloc (by simp) _).alloc (by simp) _))
        go_enter Try.func95, Try.ntmps95
        go_wp2_with fail
        refine (unhide C2 _).mono ?_
        rintro e w1 ⟨rfl, hb⟩
        have HB := hide (below_on (unhide B0) hb)
        clear hb
        go_wp2_with fail
        go_ret
        exact ⟨rfl, unhide HB⟩
      · have e1 : amV a b c d = meV a b c d := by unfold amV; rw [if_neg h1, if_neg h2]
        rw [e1]
        generalize meV a b c d = x at *
        clear e1 C1 C2 h1
        rcases ne_pt h2 with r1 | ⟨r1, r2⟩
        · clear h2
          have B0 := hide (show Below w.heap.size w ((w.alloc (.cells #[.int .i64 a.1, .int .i64 a.2, .int .i64 b.1, .int .i64 b.2] 95)).alloc (.cells #[.int .i64 c.1, .int .i64 c.2, .int .i64 d.1, .int .i64 d.2] 95)) from (((Below.refl _ _).alloc (by simp) _).alloc (by simp) _))
          go_enter Try.func95, Try.ntmps95
          go_wp2_with fail
          refine (unhide C3 _).mono ?_
          rintro e w1 ⟨rfl, hb⟩
          have HB := hide (below_on (unhide B0) hb)
          clear hb
          go_wp2_with fail
          go_ret
          exact ⟨rfl, unhide HB⟩
        · clear h2
          have B0 := hide (show Below w.heap.size w ((w.alloc (.cells #[.int .i64 a.1, .int .i64 a.2, .int .i64 b.1, .int .i64 b.2] 95)).alloc (.cells #[.int .i64 c.1, .int .i64 c.2, .int .i64 d.1, .int .i64 d.2] 95)) from (((Below.refl _ _).alloc (by simp) _).alloc (by simp) _))
          go_enter Try.func95, Try.ntmps95
          go_wp2_with fail
          refine (unhide C3 _).mono ?_
          rintro e w1 ⟨rfl, hb⟩
          have HB := hide (below_on (unhide B0) hb)
          clear hb
          go_wp2_with fail
          go_ret
          exact ⟨rfl, unhide HB⟩
/-- Whether two corners are alike. -/
def Alike (l : List (Int × Int)) : Prop := ∃ i j, i < j ∧ j < l.length ∧ l.getD i (0, 0) = l.getD j (0, 0)
noncomputable def alB (l : List (Int × Int)) : Bool := @decide (Alike l) (Classical.propDecidable _)
theorem alB_true {l : List (Int × Int)} (h : Alike l) : alB l = true := by unfold alB; exact @decide_eq_true _ (Classical.propDecidable _) h
theorem alB_false {l : List (Int × Int)} (h : ¬ Alike l) : alB l = false := by unfold alB; exact @decide_eq_false _ (Classical.propDecidable _) h
set_option maxHeartbeats 8000000 in
theorem alikeI (a : Option Addr) (n c : Nat) (l : List (Int × Int)) (w : World) (h : SlP w a l) (hn : l.length = n) (h1 : n ≤ 1048576) (hg : ∀ p ∈ l, Near p) :
    Calls Try.prog 94 #[.slice a n c] w fun e w' => e = .returned (.bool (alB l)) ∧ Below w.heap.size w w' := by
  have HS := hide h
  have HN := hide hn
  have HG := hide hg
  clear h hn hg
  have hmm := fun w => make8 (n : Int) w
  go_enter Try.func94, Try.ntmps94
  go_wp2
  clear hmm
  go_loopw [11] (fun iv wr => ∃ k : Nat, k ≤ n ∧ iv = .int .i64 k ∧ Hid (wr.heap[w.heap.size]? = some (.map (mpE l k).toArray k)) ∧ Hid (∀ i j, i < k → j < k → l.getD i (0, 0) = l.getD j (0, 0) → i = j) ∧ Hid (Below w.heap.size w wr)) (fun iv _ => n - (intOf iv).toNat)
  case atStart => exact ⟨0, Nat.zero_le _, rfl, hide (by show (w.heap.push _)[w.heap.size]? = _; simp [mpE]), hide (fun i j hi => absurd hi (by omega)), hide ((Below.refl _ _).alloc (Nat.le_refl _) _)⟩
  case round =>
    obtain ⟨k, hk, rfl, EM, HD, HB⟩ := hrel
    by_cases hlt : k < n
    · have hlt' : (k : Int) < (n : Int) := by omega
      rcases (unhide HS) with e | ⟨b, off, rfl, hb, hc⟩
      · exact absurd (unhide HN) (by rw [e]; simp; omega)
      have e0 := hc k (by rw [unhide HN]; exact hlt)
      rw [← getD_gt (by rw [unhide HN]; exact hlt)] at e0
      obtain ⟨p, hpe⟩ : ∃ p, l.getD k (0, 0) = p := ⟨_, rfl⟩
      rw [hpe] at e0
      have E0 : wr.cell? ⟨b, off + k * 2, none⟩ = some (.int .i64 p.1) := ((unhide HB).cell (p := ⟨b, off + k * 2, none⟩) hb).trans (e0.1)
      have E1 : wr.cell? ⟨b, off + k * 2 + 1, none⟩ = some (.int .i64 p.2) := ((unhide HB).cell (p := ⟨b, off + k * 2 + 1, none⟩) hb).trans (e0.2)
      clear e0 hc
      have lw : w.heap.size < wr.heap.size := (Array.getElem?_eq_some_iff.1 (unhide EM)).1
      have hb2 : (wr.alloc (.cells #[.int .i64 p.1, .int .i64 p.2] 31)).heap[w.heap.size]? = some (.map (mpE l k).toArray k) := by
        have e1 := unhide EM
        simp only [World.alloc]
        rw [Array.getElem?_push, if_neg (by omega)]
        exact e1
      have k0 : (wr.alloc (.cells #[.int .i64 p.1, .int .i64 p.2] 31)).cell? ⟨wr.heap.size, 0, none⟩ = some (.int .i64 p.1) := by simp [go_sem]
      have k1 : (wr.alloc (.cells #[.int .i64 p.1, .int .i64 p.2] 31)).cell? ⟨wr.heap.size, 1, none⟩ = some (.int .i64 p.2) := by simp [go_sem]
      have al : Below w.heap.size w (wr.alloc (.cells #[.int .i64 p.1, .int .i64 p.2] 31)) := (unhide HB).alloc (by omega) _
      have AL := hide al
      have sz := al.size
      obtain ⟨v, st, w4, w5, r1, r2, r3, r4, r5, but, cas⟩ := round8 (w := (wr.alloc (.cells #[.int .i64 p.1, .int .i64 p.2] 31)).drew) hb2 (unhide HG) (unhide HD)
      rw [hpe] at r1 r2 r3 r5 cas
      have HR := hide cas
      have PE := hide hpe
      clear hpe
      have nb : wr.heap.size ≠ w.heap.size := by omega
      have q0 : w5.cell? ⟨wr.heap.size, 0, none⟩ = some (.int .i64 p.1) := but.cell (show (wr.alloc (.cells #[.int .i64 p.1, .int .i64 p.2] 31)).drew.cell? _ = _ from k0) (.inr (by omega))
      have q1 : w5.cell? ⟨wr.heap.size, 1, none⟩ = some (.int .i64 p.2) := but.cell (show (wr.alloc (.cells #[.int .i64 p.1, .int .i64 p.2] 31)).drew.cell? _ = _ from k1) (.inr (by omega))
      have B5 := hide (but.below (unhide AL).drew (Nat.le_refl _) (by simp; omega))
      have TD : Hid (∀ i j, i < k → j < k → l.getD i (0, 0) = l.getD j (0, 0) → i = j) := HD
      unfold keyV at r1 r2 r3 r5
      clear but al hb2 sz EM HD HS
      go_upto_region 5 with fail
      clear E0 E1
      generalize wr.alloc (.cells #[.int .i64 p.1, .int .i64 p.2] 31) = w2 at *
      clear cas
      rcases (unhide HR) with ⟨rfl, hne, h5⟩ | ⟨rfl, hex⟩
      · rw [Int.zero_add] at r4 r5
        have NE := hide hne
        have H5 := hide h5
        clear AL HB HR hne h5
        go_region
        all_goals clear r1 r2 r3 r4 k0 k1
        all_goals go_wp2
        all_goals go_roundw
        case rel =>
          refine ⟨k + 1, by omega, by go_num, H5, hide ?_, B5⟩
          intro i j hi hj he
          by_cases hik : i = k
          · by_cases hjk : j = k
            · omega
            · subst hik
              exact absurd (he.symm.trans (unhide PE)) (unhide NE j (by omega))
          · by_cases hjk : j = k
            · subst hjk
              exact absurd (he.trans (unhide PE)) (unhide NE i (by omega))
            · exact unhide TD i j (by omega) (by omega) he
        case measure => simp [intOf]; omega
      · rw [show (1 : Int) + 1 = 2 by rfl] at r4 r5
        have EX : Hid (alB l = true) := hide (alB_true (by
          obtain ⟨i, hi, he⟩ := hex
          exact ⟨i, k, hi, by rw [unhide HN]; exact hlt, he.trans (unhide PE).symm⟩))
        clear AL HB HR hex
        go_region
        all_goals clear r1 r2 r3 r4 k0 k1
        all_goals go_wp2
        all_goals go_ret
        all_goals exact ⟨by rw [unhide EX]; rfl, unhide B5⟩
    · obtain rfl : k = n := by omega
      have EA : Hid (alB l = false) := hide (alB_false (by
        rintro ⟨i, j, hij, hj, he⟩
        rw [unhide HN] at hj
        have := unhide HD i j (by omega) hj he
        omega))
      go_wp2
      go_ret
      exact ⟨by rw [unhide EA]; rfl, unhide HB⟩
/-- No two segments of the way meet amiss. -/
def NoAm (l : List (Int × Int)) (m : Nat) : Prop := ∀ i, i < m → ∀ j, j < i → amV (l.getD i (0, 0)) (nxt l i) (l.getD j (0, 0)) (nxt l j) = false
noncomputable def siI (l : List (Int × Int)) : Bool := !alB l && @decide (NoAm l l.length) (Classical.propDecidable _)
theorem siI_al {l : List (Int × Int)} (h : alB l = true) : siI l = false := by unfold siI; rw [h]; rfl
theorem siI_true {l : List (Int × Int)} (h : alB l = false) (k : NoAm l l.length) : siI l = true := by unfold siI; rw [h]; exact @decide_eq_true _ (Classical.propDecidable _) k
theorem siI_false {l : List (Int × Int)} (k : ¬ NoAm l l.length) : siI l = false := by unfold siI; rw [@decide_eq_false _ (Classical.propDecidable _) k]; simp
set_option maxHeartbeats 8000000 in
theorem simpleI (a : Option Addr) (n c : Nat) (l : List (Int × Int)) (w : World) (h : SlP w a l) (hn : l.length = n) (h0 : 0 < n) (h1 : n ≤ 1048576) (hg : ∀ p ∈ l, Near p) :
    Calls Try.prog 74 #[.slice a n c] w fun e w' => e = .returned (.bool (siI l)) ∧ Below w.heap.size w w' := by
  have CA := hide (alikeI a n c l w h hn h1 hg)
  have CS := hide (fun w (k : SlP w a l) => segsI a n c l w k hn h0 h1)
  have HS := hide h
  have HN := hide hn
  have HG := hide hg
  clear h hn hg
  cases hal : alB l
  · rw [hal] at CA
    have HAL := hide hal
    clear hal
    go_enter Try.func74, Try.ntmps74
    go_wp2_with fail
    refine (unhide CA).mono ?_
    rintro e w1 ⟨rfl, hb⟩
    have HB := hide hb
    replace HS := hide ((unhide HS).later hb)
    clear hb CA
    go_wp2_with fail
    refine (unhide CS _ (unhide HS)).mono ?_
    rintro e w2 ⟨rfl, hb, sg⟩
    replace HB := hide (below_on (unhide HB) hb)
    have SG := hide sg
    have lt1 := sg.lt
    clear hb sg CS HS
    go_wp2
    go_loopw [14] (fun iv wr => ∃ i : Nat, i ≤ n ∧ iv = .int .i64 i ∧ Hid (NoAm l i) ∧ Hid (Below w2.heap.size w2 wr)) (fun iv _ => n - (intOf iv).toNat)
    case atStart => exact ⟨0, Nat.zero_le _, rfl, hide (fun i hi => absurd hi (by omega)), hide (Below.refl _ _)⟩
    case round =>
      obtain ⟨i, hi, rfl, HA, HR⟩ := hrel
      by_cases hlt : i < n
      · have hlt' : (i : Int) < (n : Int) := by omega
        have hle' : (i : Int) ≤ (n : Int) := by omega
        have e0 := ((unhide SG).later (unhide HR)).at_ i hlt
        have np := getD_near (unhide HG) i
        have nq := unhide HG _ (nxt_mem (by rw [unhide HN]; omega) i)
        obtain ⟨wo, hwo⟩ : ∃ x, x = wr := ⟨_, rfl⟩
        subst hwo
        obtain ⟨p, hpe⟩ : ∃ p, l.getD i (0, 0) = p := ⟨_, rfl⟩
        obtain ⟨q, hqe⟩ : ∃ q, nxt l i = q := ⟨_, rfl⟩
        rw [hpe] at e0 np
        rw [hqe] at e0 nq
        have PE := hide (And.intro hpe hqe)
        have NPQ := hide (And.intro np nq)
        have E0 := e0.1
        have E1 := e0.2.1
        have E2 := e0.2.2.1
        have E3 := e0.2.2.2
        clear e0 np nq hpe hqe
        have al : Below wo.heap.size wo (wo.alloc (.cells #[.int .i64 p.1, .int .i64 p.2, .int .i64 q.1, .int .i64 q.2] 95)) := (Below.refl _ _).alloc (Nat.le_refl _) _
        have k0 : (wo.alloc (.cells #[.int .i64 p.1, .int .i64 p.2, .int .i64 q.1, .int .i64 q.2] 95)).cell? ⟨wo.heap.size, 0, none⟩ = some (.int .i64 p.1) := by simp [go_sem]
        have k1 : (wo.alloc (.cells #[.int .i64 p.1, .int .i64 p.2, .int .i64 q.1, .int .i64 q.2] 95)).cell? ⟨wo.heap.size, 1, none⟩ = some (.int .i64 p.2) := by simp [go_sem]
        have k2 : (wo.alloc (.cells #[.int .i64 p.1, .int .i64 p.2, .int .i64 q.1, .int .i64 q.2] 95)).cell? ⟨wo.heap.size, 2, none⟩ = some (.int .i64 q.1) := by simp [go_sem]
        have k3 : (wo.alloc (.cells #[.int .i64 p.1, .int .i64 p.2, .int .i64 q.1, .int .i64 q.2] 95)).cell? ⟨wo.heap.size, 3, none⟩ = some (.int .i64 q.2) := by simp [go_sem]
        have ltb : wo.heap.size < (wo.alloc (.cells #[.int .i64 p.1, .int .i64 p.2, .int .i64 q.1, .int .i64 q.2] 95)).heap.size := by simp
        have HRA := hide (below_on (unhide HR) al)
        have KK := hide (And.intro k0 (And.intro k1 (And.intro k2 k3)))
        clear al
        go_upto_region 7 with fail
        clear E0 E1 E2 E3 k0 k1 k2 k3 HR
        generalize wo.alloc (.cells #[.int .i64 p.1, .int .i64 p.2, .int .i64 q.1, .int .i64 q.2] 95) = w3 at *
        go_wp2
        go_loopw [23] (fun jv wr => ∃ j : Nat, j ≤ i ∧ jv = .int .i64 j ∧ Hid (∀ j', j' < j → amV (l.getD i (0, 0)) (nxt l i) (l.getD j' (0, 0)) (nxt l j') = false) ∧ Hid (Below w3.heap.size w3 wr)) (fun jv _ => i - (intOf jv).toNat)
        case atStart => exact ⟨0, Nat.zero_le _, rfl, hide (fun j hj => absurd hj (by omega)), hide (Below.refl _ _)⟩
        case round =>
          obtain ⟨j, hj, rfl, HJ, HR⟩ := hrel
          by_cases hjl : j < i
          · have hjl' : (j : Int) < (i : Int) := by omega
            have HRR := hide (below_on (unhide HRA) (unhide HR))
            have e0 := ((unhide SG).later (unhide HRR)).at_ j (by omega)
            have nr := getD_near (unhide HG) j
            have ns := unhide HG _ (nxt_mem (by rw [unhide HN]; omega) j)
            have CM := hide (fun w => amissI p q (l.getD j (0, 0)) (nxt l j) w (unhide NPQ).1 (unhide NPQ).2 nr ns)
            have HV : Hid (amV (l.getD i (0, 0)) (nxt l i) (l.getD j (0, 0)) (nxt l j) = amV p q (l.getD j (0, 0)) (nxt l j)) := hide (by rw [(unhide PE).1, (unhide PE).2])
            generalize amV p q (l.getD j (0, 0)) (nxt l j) = v at *
            clear nr ns
            obtain ⟨r, hre⟩ : ∃ r, l.getD j (0, 0) = r := ⟨_, rfl⟩
            obtain ⟨s, hse⟩ : ∃ s, nxt l j = s := ⟨_, rfl⟩
            rw [hre, hse] at e0 CM
            clear hre hse
            have E0 := e0.1
            have E1 := e0.2.1
            have E2 := e0.2.2.1
            have E3 := e0.2.2.2
            have k0 := (unhide HR).cell (p := ⟨wo.heap.size, 0, none⟩) ltb |>.trans (unhide KK).1
            have k1 := (unhide HR).cell (p := ⟨wo.heap.size, 1, none⟩) ltb |>.trans (unhide KK).2.1
            have k2 := (unhide HR).cell (p := ⟨wo.heap.size, 2, none⟩) ltb |>.trans (unhide KK).2.2.1
            have k3 := (unhide HR).cell (p := ⟨wo.heap.size, 3, none⟩) ltb |>.trans (unhide KK).2.2.2
            have lto : wo.heap.size < wr.heap.size := World.block_lt_of_cell? _ _ k0
            have al : Below wr.heap.size wr (wr.alloc (.cells #[.int .i64 r.1, .int .i64 r.2, .int .i64 s.1, .int .i64 s.2] 95)) := (Below.refl _ _).alloc (Nat.le_refl _) _
            replace k0 := cell_later al k0
            replace k1 := cell_later al k1
            replace k2 := cell_later al k2
            replace k3 := cell_later al k3
            have m0 : (wr.alloc (.cells #[.int .i64 r.1, .int .i64 r.2, .int .i64 s.1, .int .i64 s.2] 95)).cell? ⟨wr.heap.size, 0, none⟩ = some (.int .i64 r.1) := by simp [go_sem]
            have m1 : (wr.alloc (.cells #[.int .i64 r.1, .int .i64 r.2, .int .i64 s.1, .int .i64 s.2] 95)).cell? ⟨wr.heap.size, 1, none⟩ = some (.int .i64 r.2) := by simp [go_sem]
            have m2 : (wr.alloc (.cells #[.int .i64 r.1, .int .i64 r.2, .int .i64 s.1, .int .i64 s.2] 95)).cell? ⟨wr.heap.size, 2, none⟩ = some (.int .i64 s.1) := by simp [go_sem]
            have m3 : (wr.alloc (.cells #[.int .i64 r.1, .int .i64 r.2, .int .i64 s.1, .int .i64 s.2] 95)).cell? ⟨wr.heap.size, 3, none⟩ = some (.int .i64 s.2) := by simp [go_sem]
            have HR1 := hide (below_on (unhide HR) al)
            have HRR1 := hide (below_on (unhide HRR) al)
            clear e0 al
            go_upto_region 10 with fail
            clear E0 E1 E2 E3 HR HRR
            generalize wr.alloc (.cells #[.int .i64 r.1, .int .i64 r.2, .int .i64 s.1, .int .i64 s.2] 95) = w4 at *
            cases v
            · go_wp2_with fail
              refine (unhide CM _).mono ?_
              rintro e w5 ⟨rfl, hb⟩
              have HR2 := hide (below_on (unhide HR1) hb)
              clear hb k0 k1 k2 k3 m0 m1 m2 m3
              go_wp2
              go_roundw
              case rel =>
                refine ⟨j + 1, by omega, by go_num, hide ?_, HR2⟩
                intro j' hj'
                by_cases e : j' = j
                · subst e; exact unhide HV
                · exact unhide HJ j' (by omega)
              case measure => simp [intOf]; omega
            · have HF : Hid (siI l = false) := hide (siI_false (fun k => by have := k i (by rw [unhide HN]; exact hlt) j hjl; rw [unhide HV] at this; cases this))
              go_wp2_with fail
              refine (unhide CM _).mono ?_
              rintro e w5 ⟨rfl, hb⟩
              have HR2 := hide (below_on (unhide HRR1) hb)
              clear hb k0 k1 k2 k3 m0 m1 m2 m3
              go_wp2
              go_ret
              exact ⟨by rw [unhide HF]; rfl, below_on (unhide HB) (unhide HR2)⟩
          · obtain rfl : j = i := by omega
            have HRR := hide (below_on (unhide HRA) (unhide HR))
            go_wp2
            go_roundw
            case rel =>
              refine ⟨j + 1, by omega, by go_num, hide ?_, HRR⟩
              intro i' hi' j' hj'
              by_cases e : i' = j
              · subst e; exact unhide HJ j' hj'
              · exact unhide HA i' (by omega) j' hj'
            case measure => simp [intOf]; omega
      · obtain rfl : i = n := by omega
        have HT : Hid (siI l = true) := hide (siI_true (unhide HAL) (by rw [unhide HN]; exact unhide HA))
        go_wp2
        go_ret
        exact ⟨by rw [unhide HT]; rfl, below_on (unhide HB) (unhide HR)⟩
  · rw [hal] at CA
    have HF := hide (siI_al hal)
    clear hal
    go_enter Try.func74, Try.ntmps74
    go_wp2_with fail
    refine (unhide CA).mono ?_
    rintro e w1 ⟨rfl, hb⟩
    go_wp2_with fail
    go_ret
    exact ⟨by rw [unhide HF]; rfl, hb⟩
end Go.Proofs.Ytgoiodhofbkkdaa
namespace Go.Proofs.Ytgoiodhofbkkdaa
open Go.RowKit
set_option linter.unusedVariables false
set_option maxRecDepth 100000
set_option linter.unusedSimpArgs false

theorem eql_ne8 {p q : Int × Int} (h : ¬ p = q) (w : World) : (binOp .eql 31 (.agg #[.int .i64 p.1, .int .i64 p.2]) (.agg #[.int .i64 q.1, .int .i64 q.2])).run Try.prog w = .ok (.bool false) w := by
  rcases ne_pt h with h1 | ⟨h1, h2⟩
  · go_simp
  · go_simp
def RowOk (l : List (Int × Int)) (i : Nat) : Prop := l.getD i (0, 0) ≠ nxt l i ∧ onV (nxt l i) (nxt l (i + 1)) (l.getD i (0, 0)) = false ∧ onV (l.getD i (0, 0)) (nxt l i) (nxt l (i + 1)) = false
def PairOk (l : List (Int × Int)) (i k : Nat) : Prop := (k + 1) % l.length ≠ i → meV (l.getD i (0, 0)) (nxt l i) (l.getD k (0, 0)) (nxt l k) = false
def SimP (l : List (Int × Int)) (m : Nat) : Prop := ∀ i, i < m → RowOk l i ∧ ∀ k, i + 2 ≤ k → k < l.length → PairOk l i k
noncomputable def siS (l : List (Int × Int)) : Bool := @decide (SimP l l.length) (Classical.propDecidable _)
theorem siS_true {l : List (Int × Int)} (k : SimP l l.length) : siS l = true := by unfold siS; exact @decide_eq_true _ (Classical.propDecidable _) k
theorem siS_false {l : List (Int × Int)} (k : ¬ SimP l l.length) : siS l = false := by unfold siS; exact @decide_eq_false _ (Classical.propDecidable _) k
end Go.Proofs.Ytgoiodhofbkkdaa
namespace Go.Proofs.Ytgoiodhofbkkdaa
open Go.RowKit
set_option linter.unusedVariables false
set_option maxRecDepth 100000
set_option linter.unusedSimpArgs false

theorem btw_self (a b : Int) : btw a b a = true := by
  unfold btw
  by_cases h : a ≤ b
  · simp [h]
  · have : b ≤ a := by omega
    simp [this]
theorem on_self (a b : Int × Int) : onV a b a = true := by
  unfold onV
  rw [btw_self, btw_self]
  have : crs a b a = 0 := by unfold crs; rw [Int.sub_self, Int.sub_self, Int.mul_zero, Int.mul_zero]; rfl
  simp [this]
theorem me_self (a b d : Int × Int) : meV a b a d = true := by
  unfold meV
  rw [on_self]
  simp
theorem me_symm (a b c d : Int × Int) : meV a b c d = meV c d a b := by
  unfold meV
  generalize onV a b c = x1
  generalize onV a b d = x2
  generalize onV c d a = x3
  generalize onV c d b = x4
  generalize decide (sgZ (crs a b c) * sgZ (crs a b d) < 0) = y1
  generalize decide (sgZ (crs c d a) * sgZ (crs c d b) < 0) = y2
  cases x1 <;> cases x2 <;> cases x3 <;> cases x4 <;> cases y1 <;> cases y2 <;> rfl
theorem nxt_lt {l : List (Int × Int)} {i : Nat} (h : i + 1 < l.length) : nxt l i = l.getD (i + 1) (0, 0) := by unfold nxt; rw [Nat.mod_eq_of_lt h]
theorem nxt_last {l : List (Int × Int)} {i : Nat} (h : i + 1 = l.length) : nxt l i = l.getD 0 (0, 0) := by unfold nxt; rw [h, Nat.mod_self]
theorem nxt_over {l : List (Int × Int)} (h : 3 ≤ l.length) : nxt l l.length = nxt l 0 := by unfold nxt; rw [Nat.add_mod_left]
theorem si_eq {l : List (Int × Int)} (h3 : 3 ≤ l.length) : siS l = siI l := by
  by_cases hal : Alike l
  · rw [siI_al (alB_true hal)]
    apply siS_false
    intro hs
    obtain ⟨i, j, hij, hj, he⟩ := hal
    by_cases h1 : j = i + 1
    · subst h1
      exact (hs i (by omega)).1.1 (by rw [nxt_lt (by omega)]; exact he)
    · by_cases h2 : i = 0 ∧ j + 1 = l.length
      · exact (hs j hj).1.1 (by rw [nxt_last h2.2, ← he, h2.1])
      · have hm : (j + 1) % l.length ≠ i := by
          by_cases h4 : j + 1 = l.length
          · rw [h4, Nat.mod_self]; intro e; exact h2 ⟨e.symm, h4⟩
          · rw [Nat.mod_eq_of_lt (by omega)]; omega
        have := (hs i (by omega)).2 j (by omega) hj hm
        rw [he, me_self] at this
        cases this
  · have hd : ∀ i j, i < l.length → j < l.length → l.getD i (0, 0) = l.getD j (0, 0) → i = j := by
      intro i j hi hj he
      rcases Nat.lt_trichotomy i j with h | h | h
      · exact absurd ⟨i, j, h, hj, he⟩ hal
      · exact h
      · exact absurd ⟨j, i, h, hi, he.symm⟩ hal
    have key : SimP l l.length ↔ NoAm l l.length := by
      constructor
      · intro hs i hi j hj
        unfold amV
        split
        · rename_i h1
          by_cases hl : i + 1 < l.length
          · rw [nxt_lt hl] at h1
            have := hd _ _ hl (by omega) h1
            omega
          · have hl' : i + 1 = l.length := by omega
            rw [nxt_last hl'] at h1
            have hj0 := hd _ _ (by omega) (by omega) h1
            subst hj0
            have r := (hs i hi).1
            unfold RowOk at r
            rw [hl', nxt_over h3, nxt_last hl'] at r
            rw [nxt_last hl', r.2.1, r.2.2]
            rfl
        · rename_i h1
          split
          · rename_i h2
            rw [nxt_lt (by omega)] at h2
            have hij := hd _ _ (by omega) hi h2
            subst hij
            have r := (hs j (by omega)).1
            unfold RowOk at r
            rw [nxt_lt (show j + 1 < l.length by omega)] at r
            rw [nxt_lt (show j + 1 < l.length by omega), r.2.1, r.2.2]
            rfl
          · rename_i h2
            rw [me_symm]
            refine (hs j (by omega)).2 i ?_ hi ?_
            · rcases Nat.lt_or_ge i (j + 2) with h | h
              · have : i = j + 1 := by omega
                subst this
                exact absurd (nxt_lt (by omega)) h2
              · exact h
            · intro e
              apply h1
              unfold nxt
              rw [e]
      · intro hs i hi
        refine ⟨?_, ?_⟩
        · unfold RowOk
          by_cases hl : i + 1 < l.length
          · have a := hs (i + 1) hl i (by omega)
            unfold amV at a
            have c1 : ¬ nxt l (i + 1) = l.getD i (0, 0) := by
              intro e
              by_cases h4 : i + 1 + 1 < l.length
              · rw [nxt_lt h4] at e
                have := hd _ _ h4 hi e
                omega
              · rw [nxt_last (by omega)] at e
                have := hd _ _ (by omega) hi e
                omega
            rw [if_neg c1, if_pos (nxt_lt hl)] at a
            have a' := (Bool.or_eq_false_iff).1 a
            refine ⟨?_, ?_, ?_⟩
            · intro e
              rw [nxt_lt hl] at e
              have := hd _ _ hi hl e
              omega
            · rw [nxt_lt hl]; exact a'.2
            · exact a'.1
          · have hl' : i + 1 = l.length := by omega
            have a := hs i hi 0 (by omega)
            unfold amV at a
            rw [if_pos (nxt_last hl')] at a
            have a' := (Bool.or_eq_false_iff).1 a
            rw [hl', nxt_over h3]
            refine ⟨?_, ?_, ?_⟩
            · intro e
              rw [nxt_last hl'] at e
              have := hd _ _ hi (by omega) e
              omega
            · rw [nxt_last hl']; exact a'.2
            · exact a'.1
        · intro k hk hkl hm
          have a := hs k hkl i (by omega)
          unfold amV at a
          have c1 : ¬ nxt l k = l.getD i (0, 0) := by
            intro e
            unfold nxt at e
            have := hd _ _ (Nat.mod_lt _ (by omega)) hi e
            exact hm this
          have c2 : ¬ nxt l i = l.getD k (0, 0) := by
            intro e
            rw [nxt_lt (by omega)] at e
            have := hd _ _ (by omega) hkl e
            omega
          rw [if_neg c1, if_neg c2] at a
          rw [me_symm]
          exact a
    by_cases hs : SimP l l.length
    · rw [siS_true hs, siI_true (alB_false hal) (key.1 hs)]
    · rw [siS_false hs, siI_false (fun k => hs (key.2 k))]
end Go.Proofs.Ytgoiodhofbkkdaa
namespace Go.Proofs.Ytgoiodhofbkkdaa
open Go.RowKit
set_option linter.unusedVariables false
set_option maxRecDepth 100000
set_option linter.unusedSimpArgs false

theorem gmul_bd {u v : Int} (h1 : -1000 ≤ u) (h2 : u ≤ 1000) (h3 : -1000 ≤ v) (h4 : v ≤ 1000) : -1000000 ≤ u * v ∧ u * v ≤ 1000000 := by
  have h := Nat.mul_le_mul (show u.natAbs ≤ 1000 by omega) (show v.natAbs ≤ 1000 by omega)
  rw [← Int.natAbs_mul] at h
  omega
theorem gcr_bd {p q : Int × Int} (hp : gPt p = true) (hq : gPt q = true) : -2000000 ≤ p.1 * q.2 - q.1 * p.2 ∧ p.1 * q.2 - q.1 * p.2 ≤ 2000000 := by
  simp [gPt, inR] at hp hq
  have m1 := @gmul_bd p.1 q.2 (by omega) (by omega) (by omega) (by omega)
  have m2 := @gmul_bd q.1 p.2 (by omega) (by omega) (by omega) (by omega)
  omega
theorem garS_bd {l : List (Int × Int)} (h : ∀ p ∈ l, gPt p = true) : ∀ k, k ≤ l.length → -((k : Int) * 2000000) ≤ arS l k ∧ arS l k ≤ (k : Int) * 2000000
  | 0, _ => by simp [arS]
  | k + 1, hk => by
    have ih := garS_bd h k (by omega)
    have b := gcr_bd (h (l.getD k (0, 0)) (by rw [getD_gt (by omega)]; exact List.getElem_mem _)) (h _ (nxt_mem (by omega) k))
    unfold arS
    omega
theorem way_good {l : List (Int × Int)} (h : wayB l = true) : ∀ p ∈ l, gPt p = true := by
  unfold wayB at h
  exact List.all_eq_true.1 ((Bool.and_eq_true _ _).mp h).2
/-- How many points of the grid lie within, as told. -/
noncomputable def ipB (l : List (Int × Int)) : Bool := wayB l && siI l
noncomputable def ipV (l : List (Int × Int)) : Int := if ipB l then (((arS l l.length).natAbs : Int) - boS l l.length + 2).tdiv 2 else 0
noncomputable def isV (l : List (Int × Int)) : Bool := if wayB l then siI l else false
set_option maxHeartbeats 2000000 in
theorem IsSimpleI (a : Option Addr) (n c : Nat) (l : List (Int × Int)) (w : World) (h : ArP w a n c l) (h1 : n ≤ 1048576) :
    Calls Try.prog 31 #[.slice a n c] w fun e w' => e = .returned (.tuple #[.bool (isV l), .bool (wayB l)]) ∧ Below w.heap.size w w' := by
  have hn := h.len
  have C1 := hide (fun w (k : SlP w a l) => wayI a n c l w k hn (by unfold maxLen; omega))
  have HS := hide h.sl
  cases hg : wayB l
  · rw [hg] at C1
    have EV : isV l = false := by unfold isV; rw [hg]; rfl
    rw [EV]
    clear hg h hn EV
    go_enter Try.func31, Try.ntmps31
    go_wp2_with fail
    refine (unhide C1 _ (unhide HS)).mono ?_
    rintro e w1 ⟨rfl, hb⟩
    go_wp2_with fail
    go_ret2
    exact ⟨rfl, hb⟩
  · rw [hg] at C1
    have wp := way_parts hg
    have C2 := hide (fun w (k : SlP w a l) => simpleI a n c l w k hn (by have := wp.1; rw [hn] at this; omega) (by have := wp.1; rw [hn] at this; omega) wp.2)
    have EV : isV l = siI l := by unfold isV; rw [hg]; rfl
    rw [EV]
    clear hg h hn wp EV
    generalize siI l = k at *
    go_enter Try.func31, Try.ntmps31
    go_wp2_with fail
    refine (unhide C1 _ (unhide HS)).mono ?_
    rintro e w1 ⟨rfl, hb⟩
    have HS1 := hide ((unhide HS).later hb)
    have HB := hide hb
    clear hb
    go_wp2_with fail
    refine (unhide C2 _ (unhide HS1)).mono ?_
    rintro e w2 ⟨rfl, hb⟩
    replace HB := hide (below_on (unhide HB) hb)
    clear hb
    go_wp2_with fail
    go_ret2
    exact ⟨rfl, unhide HB⟩
end Go.Proofs.Ytgoiodhofbkkdaa
