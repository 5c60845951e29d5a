/- A map of points: what one round of counting them does. No condition beyond those typed. -/
import Derived.Test.YtomekmhonfofkaaGreatTm8
import Derived.DeepKeys5
import Derived.WideKeyEntry
namespace Go.Proofs.YtomekmhonfofkaaGreat
open Go.RowKit Go.ChangeMaps
set_option linter.unusedVariables false
set_option maxRecDepth 100000
set_option linter.unusedSimpArgs false

def keyV (p : Int × Int) : Value := .agg #[.int .i64 p.1, .int .i64 p.2]
theorem keyV_inj {p q : Int × Int} (h : keyV p = keyV q) : p = q := by
  simp [keyV] at h
  exact Prod.ext h.1 h.2
theorem lawPt8 : WideMaps.KeyLaw Tryz.prog 37 := deep_law_gate (by kernel_rfl) (of_decide_eq_true (by kernel_rfl)) (of_decide_eq_true (by kernel_rfl)) (by kernel_rfl) (by kernel_rfl)
theorem cellsPt8 : Tryz.prog.cellsOf 37 = 2 := by kernel_rfl
theorem cellsInt8 : Tryz.prog.cellsOf 3 = 1 := by kernel_rfl
theorem near_wf {n : Int} (h0 : -100000 ≤ n) (h1 : n ≤ 100000) : (Lit.int .i64 n).wf = true := WalkArith.wf_i64 (by omega)
theorem keyPt8 {p : Int × Int} (h : Near p) : ∃ kl, keyOf Tryz.prog 37 (keyV p) = some kl := by
  have w1 := near_wf h.x0 h.x1
  have w2 := near_wf h.y0 h.y1
  have hk : Tryz.prog.keyType 37 = true := by kernel_rfl
  have ht : Tryz.prog.types.size = Tryz.prog.types.size - 1 + 1 := by have : 0 < Tryz.prog.types.size := of_decide_eq_true (by kernel_rfl); omega
  have i1 : ∀ d n, (Lit.int .i64 n).wf = true → Tryz.prog.keyLits (d + 1) 3 [.int .i64 n] = some [.int .i64 n] := by
    intro d n hn
    simp [Program.keyLits, Tryz.underlying3, hn]
  unfold keyOf keyV
  rw [Tryz.underlying37]
  simp only [hk, Value.formed, Tryz.underlying37, cellsPt8, Value.cells, Bool.true_and]
  rw [if_pos (by rfl), ht]
  simp only [Program.keyLits, Tryz.underlying37, cellsPt8, cellsInt8]
  simp [i1, w1, w2, cellsInt8]
/-- The first k points, each once. -/
def mpE (l : List (Int × Int)) (k : Nat) : List MapEntry := (List.range k).map (fun i => ⟨keyV (l.getD i (0, 0)), .int .i64 1, i⟩)
theorem mpE_at {l : List (Int × Int)} {k j : Nat} {e : MapEntry} (h : (mpE l k)[j]? = some e) : j < k ∧ e = ⟨keyV (l.getD j (0, 0)), .int .i64 1, j⟩ := by
  have hj : j < (mpE l k).length := by
    rcases Nat.lt_or_ge j (mpE l k).length with h1 | h1
    · exact h1
    · rw [List.getElem?_eq_none h1] at h; cases h
  have hk : j < k := by simpa [mpE] using hj
  refine ⟨hk, ?_⟩
  rw [List.getElem?_eq_getElem hj] at h
  simp [mpE] at h
  exact h.symm
theorem mpE_mem {l : List (Int × Int)} {k : Nat} {e : MapEntry} (h : e ∈ mpE l k) : ∃ j, j < k ∧ e = ⟨keyV (l.getD j (0, 0)), .int .i64 1, j⟩ := by
  obtain ⟨j, hj⟩ := List.mem_iff_getElem?.1 h
  exact ⟨j, mpE_at hj⟩
theorem mpE_succ (l : List (Int × Int)) (k : Nat) : mpE l (k + 1) = mpE l k ++ [⟨keyV (l.getD k (0, 0)), .int .i64 1, k⟩] := by simp [mpE, List.range_succ]
theorem mpE_born (l : List (Int × Int)) (k : Nat) : (mpE l k).map (·.born) = List.range k := by simp [mpE, Function.comp_def]
theorem getD_near {l : List (Int × Int)} (h : ∀ p ∈ l, Near p) (i : Nat) : Near (l.getD i (0, 0)) := by
  by_cases hi : i < l.length
  · rw [getD_gt hi]; exact h _ (List.getElem_mem _)
  · rw [List.getD_eq_getElem?_getD, List.getElem?_eq_none (by omega)]
    exact ⟨by simp, by simp, by simp, by simp⟩
theorem zeroInt8 (w : World) : (zeroValue 3).run Tryz.prog w = .ok (.int .i64 0) w := by kernel_rfl
theorem look_none {w : World} {B clock : Nat} {es : Array MapEntry} {p : Int × Int} (hb : w.heap[B]? = some (.map es clock)) (hp : Near p) (hks : ∀ e ∈ es.toList, ∃ l, keyOf Tryz.prog 37 e.key = some l) (hne : ∀ e ∈ es.toList, e.key ≠ keyV p) :
    (Instr.lookup 107 (.map (some B)) (keyV p) false).run Tryz.prog w = .ok (.int .i64 0) w := by
  obtain ⟨kl, hkey⟩ := keyPt8 hp
  rcases lawPt8.find w hkey es.toList hks with ⟨h1, h2⟩ | ⟨j, e0, h1, h2, h3⟩
  · simp [Instr.lookup, run_underlying Tryz.underlying107, MapKept.run_getObj_map hb, lawPt8.check w _ hkey, h1, zeroInt8, Result.andThen]
  · exact absurd h3 (hne e0 (List.mem_of_getElem? h2))
theorem look_some {w : World} {B clock : Nat} {es : Array MapEntry} {p : Int × Int} {v : Value} (hb : w.heap[B]? = some (.map es clock)) (hp : Near p) (hks : ∀ e ∈ es.toList, ∃ l, keyOf Tryz.prog 37 e.key = some l) (hex : ∃ e ∈ es.toList, e.key = keyV p) (hv : ∀ e ∈ es.toList, e.key = keyV p → e.val = v) :
    (Instr.lookup 107 (.map (some B)) (keyV p) false).run Tryz.prog w = .ok v w := by
  obtain ⟨kl, hkey⟩ := keyPt8 hp
  rcases lawPt8.find w hkey es.toList hks with ⟨h1, h2⟩ | ⟨j, e0, h1, h2, h3⟩
  · obtain ⟨e, he, hk⟩ := hex
    exact absurd hk (h2 e he)
  · have e1 := hv e0 (List.mem_of_getElem? h2) h3
    simp [Instr.lookup, run_underlying Tryz.underlying107, MapKept.run_getObj_map hb, lawPt8.check w _ hkey, h1, e1, Result.andThen]
theorem set_at8 {w : World} {B clock : Nat} {es : Array MapEntry} (hb : w.heap[B]? = some (.map es clock)) (o : Obj) : (setBlock w B o).heap[B]? = some o := by
  have := (Array.getElem?_eq_some_iff.1 hb).1
  simp [setBlock, this]
theorem set_but8 {w : World} {B : Nat} (o : Obj) : But B (B + 1) w (setBlock w B o) := by
  refine ⟨rfl, rfl, rfl, by simp [setBlock], fun k hk hj => ?_⟩
  simp only [setBlock]
  rw [Array.getElem?_setIfInBounds]
  rw [if_neg (by omega)]
theorem entry_none8 {w : World} {B clock : Nat} {es : Array MapEntry} {key : Value} (hb : w.heap[B]? = some (.map es clock)) (hck : (Instr.checkKey false 10000 37 key).run Tryz.prog w = .ok () w) (h1 : (Instr.findKey 37 key es.toList).run Tryz.prog w = .ok none w) :
    (Instr.mapEntry 107 (.map (some B)) key).run Tryz.prog w = .ok (.tuple #[.int .i64 0, .int .i64 clock]) (setBlock w B (.map (es.push ⟨key, .int .i64 0, clock⟩) (clock + 1))) := by
  simp [Instr.mapEntry, run_underlying Tryz.underlying107, MapKept.run_getObj_map hb, hck, h1, zeroInt8, MapKept.run_setObj_map _ hb, Result.andThen, setBlock, goInt]
theorem entry_some8 {w : World} {B clock : Nat} {es : Array MapEntry} {key : Value} {j : Nat} {e0 : MapEntry} (hb : w.heap[B]? = some (.map es clock)) (hck : (Instr.checkKey false 10000 37 key).run Tryz.prog w = .ok () w) (h1 : (Instr.findKey 37 key es.toList).run Tryz.prog w = .ok (some (j, e0.val)) w)
    (hj : es[j]? = some e0) (h3 : e0.key = key) (hst : (Instr.keyThatStays key key).run Tryz.prog w = .ok key w) (hsame : es.modify j (fun e => { e with key := key }) = es) :
    (Instr.mapEntry 107 (.map (some B)) key).run Tryz.prog w = .ok (.tuple #[e0.val, .int .i64 e0.born]) (setBlock w B (.map es clock)) := by
  simp [Instr.mapEntry, run_underlying Tryz.underlying107, MapKept.run_getObj_map hb, hck, h1, hj, h3, hst, hsame, MapKept.run_setObj_map _ hb, Result.andThen, setBlock, goInt]
theorem store_at8 {w : World} {B clock : Nat} {es es' : Array MapEntry} {st j : Nat} {v : Value} (hb : w.heap[B]? = some (.map es clock)) (hidx : es.findIdx? (fun e => ((e.born : Nat) : Int) == ((st : Nat) : Int)) = some j) (hmod : es.modify j (fun e => { e with val := v }) = es') :
    (Instr.entryStore 107 (.map (some B)) (.int .i64 st) v).run Tryz.prog w = .ok () (setBlock w B (.map es' clock)) := by
  simp [Instr.entryStore, MapKept.run_getObj_map hb, asInt, asIntOf, hidx, hmod, MapKept.run_setObj_map _ hb, Result.andThen, setBlock]
theorem make8 (n : Int) (w : World) : (Instr.makeMap 107 (some (.int .i64 n))).run Tryz.prog w = .ok (.map (some w.heap.size)) (w.alloc (.map #[] 0)) := by
  have h := run_makeMap (P := Tryz.prog) 107 w
  simp only [Instr.makeMap] at h ⊢
  simp [run_underlying Tryz.underlying107, asInt, asIntOf, Result.andThen] at h ⊢
  try exact h
theorem round8 {w : World} {B k : Nat} {l : List (Int × Int)} (hb : w.heap[B]? = some (.map (mpE l k).toArray k)) (hl : ∀ p ∈ l, Near p) (hd : ∀ i j, i < k → j < k → l.getD i (0, 0) = l.getD j (0, 0) → i = j) :
    ∃ (v : Int) (st : Nat) (w4 w5 : World),
      (Instr.lookup 107 (.map (some B)) (keyV (l.getD k (0, 0))) false).run Tryz.prog w = .ok (.int .i64 v) w ∧
      (Instr.mapEntry 107 (.map (some B)) (keyV (l.getD k (0, 0)))).run Tryz.prog w = .ok (.tuple #[.int .i64 v, .int .i64 st]) w4 ∧
      (Instr.lookup 107 (.map (some B)) (keyV (l.getD k (0, 0))) false).run Tryz.prog w4 = .ok (.int .i64 v) w4 ∧
      (Instr.entryStore 107 (.map (some B)) (.int .i64 st) (.int .i64 (v + 1))).run Tryz.prog w4 = .ok () w5 ∧
      (Instr.lookup 107 (.map (some B)) (keyV (l.getD k (0, 0))) false).run Tryz.prog w5 = .ok (.int .i64 (v + 1)) w5 ∧
      But B (B + 1) w w5 ∧
      ((v = 0 ∧ (∀ i, i < k → l.getD i (0, 0) ≠ l.getD k (0, 0)) ∧ w5.heap[B]? = some (.map (mpE l (k + 1)).toArray (k + 1))) ∨ (v = 1 ∧ ∃ i, i < k ∧ l.getD i (0, 0) = l.getD k (0, 0))) := by
  have hp := getD_near hl k
  have hks : ∀ e ∈ mpE l k, ∃ x, keyOf Tryz.prog 37 e.key = some x := by
    intro e he
    obtain ⟨j, hj, rfl⟩ := mpE_mem he
    exact keyPt8 (getD_near hl j)
  obtain ⟨kl, hkey⟩ := keyPt8 hp
  have hnd : ((mpE l k).map (·.born)).Nodup := by rw [mpE_born]; exact List.nodup_range
  rcases lawPt8.find w hkey (mpE l k) hks with ⟨h1, h2⟩ | ⟨j, e0, h1, h2, h3⟩
  · have hb4 := set_at8 hb (.map ((mpE l k).toArray.push ⟨keyV (l.getD k (0, 0)), .int .i64 0, k⟩) (k + 1))
    have hb5 := set_at8 hb4 (.map (mpE l (k + 1)).toArray (k + 1))
    have hne : ∀ i, i < k → l.getD i (0, 0) ≠ l.getD k (0, 0) := by
      intro i hi he
      exact h2 ⟨keyV (l.getD i (0, 0)), .int .i64 1, i⟩ (List.mem_map.2 ⟨i, List.mem_range.2 hi, rfl⟩) (by rw [he])
    refine ⟨0, k, setBlock w B (.map ((mpE l k).toArray.push ⟨keyV (l.getD k (0, 0)), .int .i64 0, k⟩) (k + 1)), setBlock (setBlock w B (.map ((mpE l k).toArray.push ⟨keyV (l.getD k (0, 0)), .int .i64 0, k⟩) (k + 1))) B (.map (mpE l (k + 1)).toArray (k + 1)), ?_, ?_, ?_, ?_, ?_, set_but8 _ |>.trans (set_but8 _), .inl ⟨rfl, hne, hb5⟩⟩
    · exact look_none hb hp (by simpa using hks) (by simpa using h2)
    · exact entry_none8 hb (lawPt8.check w false hkey) h1
    · refine look_some hb4 hp ?_ ⟨⟨keyV (l.getD k (0, 0)), .int .i64 0, k⟩, by simp, rfl⟩ ?_
      · intro e he
        simp only [Array.toList_push, List.mem_append, List.mem_singleton] at he
        rcases he with he | rfl
        · exact hks e he
        · exact ⟨kl, hkey⟩
      · intro e he hk
        simp only [Array.toList_push, List.mem_append, List.mem_singleton] at he
        rcases he with he | rfl
        · exact absurd hk (h2 e he)
        · rfl
    · have hidx : ((mpE l k).toArray.push ⟨keyV (l.getD k (0, 0)), .int .i64 0, k⟩).findIdx? (fun e => ((e.born : Nat) : Int) == ((k : Nat) : Int)) = some k := by
        rw [WideElems.findIdx_arr]
        have := WideElems.findIdx_born (l := ((mpE l k).toArray.push ⟨keyV (l.getD k (0, 0)), .int .i64 0, k⟩).toList) (j := k) (e0 := ⟨keyV (l.getD k (0, 0)), .int .i64 0, k⟩) (by
          simp only [Array.toList_push, List.map_append, List.map_cons, List.map_nil, mpE_born]
          rw [← List.range_succ]
          exact List.nodup_range) (by simp [mpE])
        exact this
      have hmod : ((mpE l k).toArray.push ⟨keyV (l.getD k (0, 0)), .int .i64 0, k⟩).modify k (fun e => { e with val := .int .i64 (0 + 1) }) = (mpE l (k + 1)).toArray := by
        apply Array.ext'
        have e1 : (mpE l k).length = k := by simp [mpE]
        rw [Array.toList_modify, Array.toList_push]
        have := WideElems.modify_last (fun e : MapEntry => { e with val := .int .i64 (0 + 1) }) ⟨keyV (l.getD k (0, 0)), .int .i64 0, k⟩ (mpE l k)
        rw [e1] at this
        simp only [mpE_succ]
        exact this
      exact store_at8 hb4 hidx hmod
    · refine look_some hb5 hp ?_ ⟨⟨keyV (l.getD k (0, 0)), .int .i64 1, k⟩, by simp [mpE_succ], rfl⟩ ?_
      · intro e he
        obtain ⟨j, hj, rfl⟩ := mpE_mem (by simpa using he)
        exact keyPt8 (getD_near hl j)
      · intro e he hk
        obtain ⟨j, hj, rfl⟩ := mpE_mem (by simpa using he)
        rfl
  · obtain ⟨hj, rfl⟩ := mpE_at h2
    have he : l.getD j (0, 0) = l.getD k (0, 0) := keyV_inj h3
    have hjl : (mpE l k).toArray[j]? = some ⟨keyV (l.getD j (0, 0)), .int .i64 1, j⟩ := by simpa using h2
    have hsame : (mpE l k).toArray.modify j (fun e => { e with key := keyV (l.getD k (0, 0)) }) = (mpE l k).toArray := by
      apply Array.ext'
      rw [Array.toList_modify, modify_eq_set _ _ _ _ h2]
      have : ({ (⟨keyV (l.getD j (0, 0)), .int .i64 1, j⟩ : MapEntry) with key := keyV (l.getD k (0, 0)) } : MapEntry) = ⟨keyV (l.getD j (0, 0)), .int .i64 1, j⟩ := by rw [he]
      rw [this]
      exact WideElems.set_self _ _ _ h2
    have hb4 := set_at8 hb (.map (mpE l k).toArray k)
    have hb5 := set_at8 hb4 (.map ((mpE l k).toArray.modify j (fun e => { e with val := .int .i64 (1 + 1) })) k)
    have hm5 : ((mpE l k).toArray.modify j (fun e => { e with val := .int .i64 (1 + 1) })).toList = (mpE l k).set j ⟨keyV (l.getD j (0, 0)), .int .i64 (1 + 1), j⟩ := by
      rw [Array.toList_modify, modify_eq_set _ _ _ _ h2]
    refine ⟨1, j, setBlock w B (.map (mpE l k).toArray k), setBlock (setBlock w B (.map (mpE l k).toArray k)) B (.map ((mpE l k).toArray.modify j (fun e => { e with val := .int .i64 (1 + 1) })) k), ?_, ?_, ?_, ?_, ?_, set_but8 _ |>.trans (set_but8 _), .inr ⟨rfl, j, hj, he⟩⟩
    · refine look_some hb hp (by simpa using hks) ⟨_, by simpa using List.mem_of_getElem? h2, h3⟩ ?_
      intro e he hk
      obtain ⟨i, hi, rfl⟩ := mpE_mem (by simpa using he)
      rfl
    · exact entry_some8 hb (lawPt8.check w false hkey) h1 hjl h3 (lawPt8.stays w hkey) hsame
    · refine look_some hb4 hp (by simpa using hks) ⟨_, by simpa using List.mem_of_getElem? h2, h3⟩ ?_
      intro e he hk
      obtain ⟨i, hi, rfl⟩ := mpE_mem (by simpa using he)
      rfl
    · have hidx : (mpE l k).toArray.findIdx? (fun e => ((e.born : Nat) : Int) == ((j : Nat) : Int)) = some j := by
        rw [WideElems.findIdx_arr]
        exact WideElems.findIdx_born hnd h2
      exact store_at8 hb4 hidx rfl
    · refine look_some hb5 hp ?_ ⟨⟨keyV (l.getD j (0, 0)), .int .i64 (1 + 1), j⟩, ?_, by rw [← h3]⟩ ?_
      · intro e he
        rw [hm5] at he
        rcases List.mem_or_eq_of_mem_set he with he | rfl
        · exact hks e he
        · exact keyPt8 (getD_near hl j)
      · rw [hm5]
        exact List.mem_set (by simp [mpE]; exact hj) _
      · intro e hem hk
        rw [hm5] at hem
        obtain ⟨i, hi⟩ := List.mem_iff_getElem?.1 hem
        by_cases hij : j = i
        · subst hij
          rw [List.getElem?_set_self (by simp [mpE]; exact hj)] at hi
          cases hi
          rfl
        · rw [List.getElem?_set_ne hij] at hi
          obtain ⟨hik, rfl⟩ := mpE_at hi
          exact absurd (hd j i hj hik (he.trans (keyV_inj hk).symm)) hij
end Go.Proofs.YtomekmhonfofkaaGreat
