/- The walk through the law FnExactPrintPath: it returns true. No condition beyond those typed. Written by mkww16.py. -/
import Derived.Test.YtoffondgdnmhkaaDoorRRRPp16
namespace Go.Proofs.YtoffondgdnmhkaaDoorRRR
open Go.RowKit
set_option linter.unusedVariables false
set_option maxRecDepth 100000
set_option linter.unusedSimpArgs false

set_option maxHeartbeats 8000000 in
theorem lawPrintPath_walk (a : Option Addr) (n c : Nat) (rs : List RW) (w : World) (h : WSl w a rs) (hn : rs.length = n) (hm : n ≤ maxLen) (ht : Tab15 w) :
    Calls Tryd.prog 4 #[.slice a n c] w fun e w' => e = .returned (.bool true) ∧ Below w.heap.size w w' := by
  have HS := hide h
  have HN := hide hn
  have HM := hide hm
  clear h hn hm
  have HT := hide ht
  clear ht
  go_enter Tryd.func4, Tryd.ntmps4
  go_wp2_with fail
  refine (szW a n c rs 1048576 _ (unhide HS) (unhide HN) (unhide HM) (by omega) (by omega)).mono ?_
  rintro e w1 ⟨r, rfl, hb, hq⟩
  rcases hq with rfl | ⟨r0, r1, n1, sz⟩
  · go_wp2_with fail
    go_ret
    exact ⟨rfl, hb⟩
  · have d0 : decide (r < 0) = false := decide_eq_false (by omega)
    have SZ := hide sz
    have N1 := hide n1
    clear sz n1
    have CS := hide (fun (a' : Option Addr) (ys : List RW) (w' : World) (k : WSl w' a' ys) (e : dW ys = dW rs) => by have q := PrintPathS a' n n ys w' k (by have := congrArg List.length e; rw [dW_len, dW_len] at this; exact this.trans (unhide HN)) (unhide N1); rw [e] at q; exact q)
    have CI := hide (fun (a' : Option Addr) (ys : List RW) (w' : World) (k : WSl w' a' ys) (e : dW ys = dW rs) (t : Tab15 w') => by have q := PrintPathI a' n n ys w' k (by have := congrArg List.length e; rw [dW_len, dW_len] at this; exact this.trans (unhide HN)) (unhide N1) t; rw [e] at q; exact q)
    generalize ppV (dW rs) = v0 at CS CI
    have e0 : (v0 != v0) = false := st_ne v0
    generalize ppB (dW rs) = v1 at CS CI
    have e1 : (v1 != v1) = false := by simp
    have HB := hide hb
    replace HS := hide ((unhide HS).later hb)
    replace HT := hide ((unhide HT).later hb)
    clear hb
    go_wp2_with fail
    refine (toW16 a n c rs _ (unhide HS) (unhide HN) (unhide N1) (unhide SZ)).mono ?_
    rintro e w2 ⟨g1, y1, rfl, hb, ed1, ow⟩
    have E1 := hide ed1
    replace HS := hide ((unhide HS).later hb)
    replace HT := hide ((unhide HT).later hb)
    have O1 := hide (ow)
    replace HB := hide (below_on (unhide HB) hb)
    clear hb
    clear ow ed1
    go_wp2_with fail
    refine (unhide CS _ _ _ (unhide O1) (unhide E1)).mono ?_
    rintro e w3 ⟨rfl, hb⟩
    replace HS := hide ((unhide HS).later hb)
    replace HT := hide ((unhide HT).later hb)
    replace O1 := hide ((unhide O1).later hb)
    replace HB := hide (below_on (unhide HB) hb)
    clear hb
    clear O1
    go_wp2_with fail
    refine (toW16 a n c rs _ (unhide HS) (unhide HN) (unhide N1) (unhide SZ)).mono ?_
    rintro e w4 ⟨g2, y2, rfl, hb, ed2, ow⟩
    have E2 := hide ed2
    replace HS := hide ((unhide HS).later hb)
    replace HT := hide ((unhide HT).later hb)
    have O2 := hide (ow)
    replace HB := hide (below_on (unhide HB) hb)
    clear hb
    clear ow ed2
    go_wp2_with fail
    refine (unhide CI _ _ _ (unhide O2) (unhide E2) (unhide HT)).mono ?_
    rintro e w5 ⟨rfl, hb⟩
    replace HS := hide ((unhide HS).later hb)
    replace HT := hide ((unhide HT).later hb)
    replace O2 := hide ((unhide O2).later hb)
    replace HB := hide (below_on (unhide HB) hb)
    clear hb
    go_wp2_with fail
    refine (toW16 a n c rs _ (unhide HS) (unhide HN) (unhide N1) (unhide SZ)).mono ?_
    rintro e w6 ⟨g3, y3, rfl, hb, ed3, ow⟩
    have E3 := hide ed3
    replace HS := hide ((unhide HS).later hb)
    replace HT := hide ((unhide HT).later hb)
    replace O2 := hide ((unhide O2).later hb)
    have O3 := hide (ow)
    replace HB := hide (below_on (unhide HB) hb)
    clear hb
    clear ow ed3
    go_wp2_with fail
    refine (eqW (some ⟨g2, 0, none⟩) (some ⟨g3, 0, none⟩) n n n y2 y3 _ (unhide O2) (unhide O3) ((unhide E2).trans (unhide E3).symm) (by have := congrArg List.length (unhide E2); rw [dW_len, dW_len] at this; exact this.trans (unhide HN)) (by have := unhide N1; unfold maxLen; omega)).mono ?_
    rintro e w7 ⟨rfl, hb⟩
    replace HS := hide ((unhide HS).later hb)
    replace HT := hide ((unhide HT).later hb)
    replace O2 := hide ((unhide O2).later hb)
    replace O3 := hide ((unhide O3).later hb)
    replace HB := hide (below_on (unhide HB) hb)
    clear hb
    go_wp2_with fail
    go_ret
    exact ⟨rfl, unhide HB⟩
end Go.Proofs.YtoffondgdnmhkaaDoorRRR
