/- A map from corners' numbers to corners: what is read, laid in, struck out. No condition beyond those typed. -/
import Derived.Test.YtomekmhonfofkaaGreatSt11
import Derived.Test.YtomekmhonfofkaaGreatEa11
import Derived.Maps.RangeRun
import Derived.Maps.Keyed
namespace Go.Proofs.YtomekmhonfofkaaGreat
open Go.RowKit Go.ChangeMaps
set_option linter.unusedVariables false
set_option maxRecDepth 100000
set_option linter.unusedSimpArgs false

def ptV (p : Int × Int) : Value := .agg #[.int .i64 p.1, .int .i64 p.2]
/-- The entries of these corners. -/
def mpL (l : List (Int × Int)) (L : List Nat) : List MapEntry := L.map (fun k : Nat => ⟨.int .i64 (k : Int), ptV (l.getD k (0, 0)), k⟩)
theorem keyedI : Maps.Keyed Tryz.prog 3 := Maps.int_keyed Tryz.underlying3
theorem keyI {k : Nat} (h : k ≤ 1000) : keyOf Tryz.prog 3 (.int .i64 (k : Int)) = some (.int .i64 (k : Int)) := by
  have w1 : (Lit.int .i64 (k : Int)).wf = true := WalkArith.wf_i64 (by omega)
  simp [keyOf, Tryz.underlying3, mapKey, w1]
theorem mpL_keys {l : List (Int × Int)} {L : List Nat} (h : ∀ k ∈ L, k ≤ 1000) : ∀ e ∈ mpL l L, ∃ x, keyOf Tryz.prog 3 e.key = some x := by
  intro e he
  obtain ⟨k, hk, rfl⟩ := List.mem_map.1 he
  exact ⟨_, keyI (h k hk)⟩
theorem mpL_key {l : List (Int × Int)} {L : List Nat} {j k : Nat} {e : MapEntry} (h : (mpL l L)[j]? = some e) (hk : e.key = .int .i64 (k : Int)) : L[j]? = some k ∧ e = ⟨.int .i64 (k : Int), ptV (l.getD k (0, 0)), k⟩ := by
  unfold mpL at h
  rw [List.getElem?_map] at h
  cases h1 : L[j]? with
  | none => rw [h1] at h; cases h
  | some x =>
    rw [h1] at h
    simp only [Option.map_some, Option.some.injEq] at h
    subst h
    simp only [Value.int.injEq, true_and] at hk
    have : x = k := by omega
    subst this
    exact ⟨rfl, rfl⟩
theorem look11 {w : World} {B clock : Nat} {l : List (Int × Int)} {L : List Nat} {k : Nat} (hb : w.heap[B]? = some (.map (mpL l L).toArray clock)) (h : ∀ k ∈ L, k ≤ 1000) (hk : k ∈ L) :
    (Instr.lookup 50 (.map (some B)) (.int .i64 (k : Int)) false).run Tryz.prog w = .ok (ptV (l.getD k (0, 0))) w := by
  have hkey := keyI (h k hk)
  rcases keyedI.find w hkey (mpL l L) (mpL_keys h) with ⟨h1, h2⟩ | ⟨j, e0, h1, h2, h3⟩
  · exact absurd rfl (h2 ⟨.int .i64 (k : Int), ptV (l.getD k (0, 0)), k⟩ (List.mem_map.2 ⟨k, hk, rfl⟩))
  · obtain ⟨_, rfl⟩ := mpL_key h2 h3
    simp [Instr.lookup, run_underlying Tryz.underlying50, MapKept.run_getObj_map hb, keyedI.check w _ hkey, h1, Result.andThen]
theorem upd11 {w : World} {B clock : Nat} {l : List (Int × Int)} {L : List Nat} {k : Nat} {v : Value} (hb : w.heap[B]? = some (.map (mpL l L).toArray clock)) (h : ∀ k ∈ L, k ≤ 1000) (h1 : k ≤ 1000) (hk : k ∉ L) :
    (Instr.mapUpdate 50 (.map (some B)) (.int .i64 (k : Int)) v).run Tryz.prog w = .ok () (setBlock w B (.map ((mpL l L).toArray.push ⟨.int .i64 (k : Int), v, clock⟩) (clock + 1))) := by
  have hkey := keyI h1
  rcases keyedI.find w hkey (mpL l L) (mpL_keys h) with ⟨h1, h2⟩ | ⟨j, e0, h1, h2, h3⟩
  · simp [Instr.mapUpdate, run_underlying Tryz.underlying50, MapKept.run_getObj_map hb, keyedI.check w _ hkey, h1, MapKept.run_setObj_map _ hb, Result.andThen, setBlock]
  · obtain ⟨h4, _⟩ := mpL_key h2 h3
    exact absurd (List.mem_of_getElem? h4) hk
theorem er_map (f : Nat → MapEntry) : ∀ (L : List Nat) (j : Nat), (L.map f).eraseIdx j = (L.eraseIdx j).map f
  | [], j => by simp
  | a :: L, 0 => by simp
  | a :: L, j + 1 => by simp [er_map f L j]
theorem del11 {w : World} {B clock : Nat} {l : List (Int × Int)} {L : List Nat} {k : Nat} (hb : w.heap[B]? = some (.map (mpL l L).toArray clock)) (h : ∀ k ∈ L, k ≤ 1000) (hk : k ∈ L) :
    ∃ j, L[j]? = some k ∧ ∀ ty, (Builtin.delete_ #[50, 3] ty #[.map (some B), .int .i64 (k : Int)]).run Tryz.prog w = .ok (.tuple #[]) (setBlock w B (.map (mpL l (L.eraseIdx j)).toArray clock)) := by
  have hkey := keyI (h k hk)
  rcases keyedI.find w hkey (mpL l L) (mpL_keys h) with ⟨h1, h2⟩ | ⟨j, e0, h1, h2, h3⟩
  · exact absurd rfl (h2 ⟨.int .i64 (k : Int), ptV (l.getD k (0, 0)), k⟩ (List.mem_map.2 ⟨k, hk, rfl⟩))
  · obtain ⟨h4, _⟩ := mpL_key h2 h3
    refine ⟨j, h4, fun ty => ?_⟩
    have e1 : (mpL l L).eraseIdx j = mpL l (L.eraseIdx j) := er_map _ L j
    simp [Builtin.delete_, run_underlying Tryz.underlying50, MapKept.run_getObj_map hb, keyedI.check w _ hkey, h1, e1, MapKept.run_setObj_map _ hb, Result.andThen, setBlock]
theorem make11 (n : Int) (w : World) : (Instr.makeMap 50 (some (.int .i64 n))).run Tryz.prog w = .ok (.map (some w.heap.size)) (w.alloc (.map #[] 0)) := by
  have h := run_makeMap (P := Tryz.prog) 50 w
  simp only [Instr.makeMap] at h ⊢
  simp [run_underlying Tryz.underlying50, asInt, asIntOf, Result.andThen] at h ⊢
  try exact h
theorem set_at11 {w : World} {B clock : Nat} {es : Array MapEntry} (hb : w.heap[B]? = some (.map es clock)) (o : Obj) : (setBlock w B o).heap[B]? = some o := by
  have := (Array.getElem?_eq_some_iff.1 hb).1
  simp [setBlock, this]
theorem set_but11 {w : World} {B : Nat} (o : Obj) : But B (B + 1) w (setBlock w B o) := by
  refine ⟨rfl, rfl, rfl, by simp [setBlock], fun k hk hj => ?_⟩
  simp only [setBlock]
  rw [Array.getElem?_setIfInBounds]
  rw [if_neg (by omega)]
theorem mpL_snoc (l : List (Int × Int)) (L : List Nat) (k : Nat) : (mpL l L).toArray.push ⟨.int .i64 (k : Int), ptV (l.getD k (0, 0)), k⟩ = (mpL l (L ++ [k])).toArray := by
  apply Array.ext'
  simp [mpL]
end Go.Proofs.YtomekmhonfofkaaGreat
