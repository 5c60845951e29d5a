/- Chapter 11 of the specification: ears. No condition beyond those typed. Written by mkea11.py. -/
import Derived.Test.YteconjkjpalomaaSp11
import Derived.Deep.RegionHeld3
import Derived.BigQuiet
namespace Go.Proofs.Yteconjkjpalomaa
open Go.RowKit
set_option linter.unusedVariables false
set_option maxRecDepth 100000
set_option linter.unusedSimpArgs false

def cI (L : List Nat) : List Int := L.map (fun k : Nat => (k : Int))
theorem cI_len (L : List Nat) : (cI L).length = L.length := by simp [cI]
theorem cI_at (L : List Nat) (i : Nat) : (cI L).getD i 0 = ((L.getD i 0 : Nat) : Int) := by
  unfold cI
  by_cases h : i < L.length
  · simp [List.getD_eq_getElem?_getD, h]
  · simp [List.getD_eq_getElem?_getD, h]
def bef (L : List Nat) (i : Nat) : Nat := L.getD ((i + L.length - 1) % L.length) 0
def aft (L : List Nat) (i : Nat) : Nat := L.getD ((i + 1) % L.length) 0
def okE (l : List (Int × Int)) (a b c k : Nat) : Bool := k == a || k == b || k == c || !inT (l.getD a (0, 0)) (l.getD b (0, 0)) (l.getD c (0, 0)) (l.getD k (0, 0))
/-- One of the corners left is an ear. -/
def earB (l : List (Int × Int)) (L : List Nat) (i : Nat) (t : Int) : Bool :=
  (sgZ (crs (l.getD (bef L i) (0, 0)) (l.getD (L.getD i 0) (0, 0)) (l.getD (aft L i) (0, 0))) == t) && L.all (okE l (bef L i) (L.getD i 0) (aft L i))
theorem mem_at {L : List Nat} {i : Nat} (h : i < L.length) : L.getD i 0 ∈ L := by
  rw [List.getD_eq_getElem?_getD, List.getElem?_eq_getElem h]
  exact List.getElem_mem h
theorem bef_mem {L : List Nat} {i : Nat} (h : i < L.length) : bef L i ∈ L := mem_at (Nat.mod_lt _ (by omega))
theorem aft_mem {L : List Nat} {i : Nat} (h : i < L.length) : aft L i ∈ L := mem_at (Nat.mod_lt _ (by omega))
theorem near_at {l : List (Int × Int)} {k : Nat} (hg : ∀ p ∈ l, Near p) (h : k < l.length) : Near (l.getD k (0, 0)) := by
  rw [List.getD_eq_getElem?_getD, List.getElem?_eq_getElem h]
  exact hg _ (List.getElem_mem h)
end Go.Proofs.Yteconjkjpalomaa
