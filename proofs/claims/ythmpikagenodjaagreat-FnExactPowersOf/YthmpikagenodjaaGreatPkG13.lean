/- AddRat, SubRat, MulRat and DivRat: the program's and the specification's, at every two fractions. No condition beyond those typed. Written by mkratf.py. -/
import Derived.Test.YthmpikagenodjaaGreatPkF13
import Derived.Test.YthmpikagenodjaaGreatRatC
namespace Go.Proofs.YthmpikagenodjaaGreat
open Go.RowKit
set_option linter.unusedVariables false
set_option maxRecDepth 100000
set_option linter.unusedSimpArgs false

/-- A variable's box that holds a value of the kind B. -/
structure BxB (wk wx : World) (G : Nat) (x : BV) (V : Int) : Prop where
  lo : wk.heap.size ≤ G
  hi : G < wx.heap.size
  c0 : wx.cell? ⟨G, 0, none⟩ = some (.bool x.g)
  c1 : wx.cell? ⟨G, 1, none⟩ = some (.slice x.a x.n x.c)
  ow : Ow wk.heap.size wx.heap.size wx x V
  bel : Below wk.heap.size wk wx
theorem bxB_alloc {wk w5 : World} {x : BV} {V : Int} {B : Nat} (t : TypeId) (hk : Below wk.heap.size wk w5) (how : Ow B w5.heap.size w5 x V) (hB : wk.heap.size ≤ B) : BxB wk (w5.alloc (.cells #[.bool x.g, .slice x.a x.n x.c] t)) w5.heap.size x V :=
  ⟨hk.size, by simp, by simp [go_sem], by simp [go_sem], (how.later ((Below.refl _ _).alloc (Nat.le_refl _) _)).wide hB (by simp), hk.alloc hk.size _⟩
theorem bxB_set {wk w5 : World} {x : BV} {V : Int} {B G : Nat} {z0 : Value} {z1 : Value} (hk : Below wk.heap.size wk w5) (how : Ow B w5.heap.size w5 x V) (hG : wk.heap.size ≤ G) (hGB : G < B) (e0 : w5.cell? ⟨G, 0, none⟩ = some z0) (e1 : w5.cell? ⟨G, 1, none⟩ = some z1) : BxB wk ((w5.setCell ⟨G, 0, none⟩ (.bool x.g)).setCell ⟨G, 1, none⟩ (.slice x.a x.n x.c)) G x V := by
  have hb := metB_but (w5 := w5) (v := x) (G := G)
  have hlt : G < w5.heap.size := World.block_lt_of_cell? _ _ e0
  refine ⟨hG, by have := hb.size; omega, ?_, ?_, (how.but hb (.inr (by omega))).wide (by omega) hb.size, hb.below hk hG hk.size⟩
  · simp [go_sem, e0, e1]
  · simp [go_sem, e0, e1]
set_option maxHeartbeats 4000000 in
theorem mulQI (q q' : QV) (N D N' D' : Int) (w : World) (h : IsQ w q N D) (h' : IsQ w q' N' D') (hD : (D * D') ≠ 0) (k1 : Bd N 100000) (k2 : Bd D 100000) (k3 : Bd N' 100000) (k4 : Bd D' 100000) :
    Calls Tryz.prog 108 #[.agg #[.bool q.num.g, .slice q.num.a q.num.n q.num.c, .bool q.den.g, .slice q.den.a q.den.n q.den.c], .agg #[.bool q'.num.g, .slice q'.num.a q'.num.n q'.num.c, .bool q'.den.g, .slice q'.den.a q'.den.n q'.den.c]] w (OutQ w (lowN (N * N') (D * D')) (lowD (N * N') (D * D'))) := by
  have H1 := hide h
  have H2 := hide h'
  have HD := hide hD
  have K1 := hide (k1.mono (show 100000 ≤ 400000 by omega))
  have K2 := hide (k2.mono (show 100000 ≤ 400000 by omega))
  have K3 := hide (k3.mono (show 100000 ≤ 400000 by omega))
  have K4 := hide (k4.mono (show 100000 ≤ 400000 by omega))
  have BX : Hid (Bd (N * N') 400000 ∧ Bd (D * D') 400000) := hide ⟨(Bd.mul k1 k3).mono (by omega), (Bd.mul k2 k4).mono (by omega)⟩
  clear h h' hD k1 k2 k3 k4
  go_enter Tryz.func108, Tryz.ntmps108
  go_upto_region 1 with fail
  have hb : Below w.heap.size w (((w.alloc (.cells #[.bool q.num.g, .slice q.num.a q.num.n q.num.c, .bool q.den.g, .slice q.den.a q.den.n q.den.c] 29)).alloc (.cells #[.bool q'.num.g, .slice q'.num.a q'.num.n q'.num.c, .bool q'.den.g, .slice q'.den.a q'.den.n q'.den.c] 29)).alloc (.cells #[.bool false, .slice none 0 0, .bool false, .slice none 0 0] 29)) := ((((Below.refl _ _).alloc (by simp) _).alloc (by simp) _).alloc (by simp <;> omega) _)
  have k0_0 : (((w.alloc (.cells #[.bool q.num.g, .slice q.num.a q.num.n q.num.c, .bool q.den.g, .slice q.den.a q.den.n q.den.c] 29)).alloc (.cells #[.bool q'.num.g, .slice q'.num.a q'.num.n q'.num.c, .bool q'.den.g, .slice q'.den.a q'.den.n q'.den.c] 29)).alloc (.cells #[.bool false, .slice none 0 0, .bool false, .slice none 0 0] 29)).cell? ⟨w.heap.size, 0, none⟩ = some (.bool q.num.g) := by simp [go_sem]
  have k0_1 : (((w.alloc (.cells #[.bool q.num.g, .slice q.num.a q.num.n q.num.c, .bool q.den.g, .slice q.den.a q.den.n q.den.c] 29)).alloc (.cells #[.bool q'.num.g, .slice q'.num.a q'.num.n q'.num.c, .bool q'.den.g, .slice q'.den.a q'.den.n q'.den.c] 29)).alloc (.cells #[.bool false, .slice none 0 0, .bool false, .slice none 0 0] 29)).cell? ⟨w.heap.size, 1, none⟩ = some (.slice q.num.a q.num.n q.num.c) := by simp [go_sem]
  have k1_0 : (((w.alloc (.cells #[.bool q.num.g, .slice q.num.a q.num.n q.num.c, .bool q.den.g, .slice q.den.a q.den.n q.den.c] 29)).alloc (.cells #[.bool q'.num.g, .slice q'.num.a q'.num.n q'.num.c, .bool q'.den.g, .slice q'.den.a q'.den.n q'.den.c] 29)).alloc (.cells #[.bool false, .slice none 0 0, .bool false, .slice none 0 0] 29)).cell? ⟨w.heap.size + 1, 0, none⟩ = some (.bool q'.num.g) := by simp [go_sem]
  have k1_1 : (((w.alloc (.cells #[.bool q.num.g, .slice q.num.a q.num.n q.num.c, .bool q.den.g, .slice q.den.a q.den.n q.den.c] 29)).alloc (.cells #[.bool q'.num.g, .slice q'.num.a q'.num.n q'.num.c, .bool q'.den.g, .slice q'.den.a q'.den.n q'.den.c] 29)).alloc (.cells #[.bool false, .slice none 0 0, .bool false, .slice none 0 0] 29)).cell? ⟨w.heap.size + 1, 1, none⟩ = some (.slice q'.num.a q'.num.n q'.num.c) := by simp [go_sem]
  have k0_2 : (((w.alloc (.cells #[.bool q.num.g, .slice q.num.a q.num.n q.num.c, .bool q.den.g, .slice q.den.a q.den.n q.den.c] 29)).alloc (.cells #[.bool q'.num.g, .slice q'.num.a q'.num.n q'.num.c, .bool q'.den.g, .slice q'.den.a q'.den.n q'.den.c] 29)).alloc (.cells #[.bool false, .slice none 0 0, .bool false, .slice none 0 0] 29)).cell? ⟨w.heap.size, 2, none⟩ = some (.bool q.den.g) := by simp [go_sem]
  have k0_3 : (((w.alloc (.cells #[.bool q.num.g, .slice q.num.a q.num.n q.num.c, .bool q.den.g, .slice q.den.a q.den.n q.den.c] 29)).alloc (.cells #[.bool q'.num.g, .slice q'.num.a q'.num.n q'.num.c, .bool q'.den.g, .slice q'.den.a q'.den.n q'.den.c] 29)).alloc (.cells #[.bool false, .slice none 0 0, .bool false, .slice none 0 0] 29)).cell? ⟨w.heap.size, 3, none⟩ = some (.slice q.den.a q.den.n q.den.c) := by simp [go_sem]
  have k1_2 : (((w.alloc (.cells #[.bool q.num.g, .slice q.num.a q.num.n q.num.c, .bool q.den.g, .slice q.den.a q.den.n q.den.c] 29)).alloc (.cells #[.bool q'.num.g, .slice q'.num.a q'.num.n q'.num.c, .bool q'.den.g, .slice q'.den.a q'.den.n q'.den.c] 29)).alloc (.cells #[.bool false, .slice none 0 0, .bool false, .slice none 0 0] 29)).cell? ⟨w.heap.size + 1, 2, none⟩ = some (.bool q'.den.g) := by simp [go_sem]
  have k1_3 : (((w.alloc (.cells #[.bool q.num.g, .slice q.num.a q.num.n q.num.c, .bool q.den.g, .slice q.den.a q.den.n q.den.c] 29)).alloc (.cells #[.bool q'.num.g, .slice q'.num.a q'.num.n q'.num.c, .bool q'.den.g, .slice q'.den.a q'.den.n q'.den.c] 29)).alloc (.cells #[.bool false, .slice none 0 0, .bool false, .slice none 0 0] 29)).cell? ⟨w.heap.size + 1, 3, none⟩ = some (.slice q'.den.a q'.den.n q'.den.c) := by simp [go_sem]
  have k2_0 : (((w.alloc (.cells #[.bool q.num.g, .slice q.num.a q.num.n q.num.c, .bool q.den.g, .slice q.den.a q.den.n q.den.c] 29)).alloc (.cells #[.bool q'.num.g, .slice q'.num.a q'.num.n q'.num.c, .bool q'.den.g, .slice q'.den.a q'.den.n q'.den.c] 29)).alloc (.cells #[.bool false, .slice none 0 0, .bool false, .slice none 0 0] 29)).cell? ⟨w.heap.size + 1 + 1, 0, none⟩ = some (.bool false) := by simp [go_sem]
  have k2_1 : (((w.alloc (.cells #[.bool q.num.g, .slice q.num.a q.num.n q.num.c, .bool q.den.g, .slice q.den.a q.den.n q.den.c] 29)).alloc (.cells #[.bool q'.num.g, .slice q'.num.a q'.num.n q'.num.c, .bool q'.den.g, .slice q'.den.a q'.den.n q'.den.c] 29)).alloc (.cells #[.bool false, .slice none 0 0, .bool false, .slice none 0 0] 29)).cell? ⟨w.heap.size + 1 + 1, 1, none⟩ = some (.slice none 0 0) := by simp [go_sem]
  have k2_2 : (((w.alloc (.cells #[.bool q.num.g, .slice q.num.a q.num.n q.num.c, .bool q.den.g, .slice q.den.a q.den.n q.den.c] 29)).alloc (.cells #[.bool q'.num.g, .slice q'.num.a q'.num.n q'.num.c, .bool q'.den.g, .slice q'.den.a q'.den.n q'.den.c] 29)).alloc (.cells #[.bool false, .slice none 0 0, .bool false, .slice none 0 0] 29)).cell? ⟨w.heap.size + 1 + 1, 2, none⟩ = some (.bool false) := by simp [go_sem]
  have k2_3 : (((w.alloc (.cells #[.bool q.num.g, .slice q.num.a q.num.n q.num.c, .bool q.den.g, .slice q.den.a q.den.n q.den.c] 29)).alloc (.cells #[.bool q'.num.g, .slice q'.num.a q'.num.n q'.num.c, .bool q'.den.g, .slice q'.den.a q'.den.n q'.den.c] 29)).alloc (.cells #[.bool false, .slice none 0 0, .bool false, .slice none 0 0] 29)).cell? ⟨w.heap.size + 1 + 1, 3, none⟩ = some (.slice none 0 0) := by simp [go_sem]
  have z2 : ∀ o, (((w.alloc (.cells #[.bool q.num.g, .slice q.num.a q.num.n q.num.c, .bool q.den.g, .slice q.den.a q.den.n q.den.c] 29)).alloc (.cells #[.bool q'.num.g, .slice q'.num.a q'.num.n q'.num.c, .bool q'.den.g, .slice q'.den.a q'.den.n q'.den.c] 29)).alloc (.cells #[.bool false, .slice none 0 0, .bool false, .slice none 0 0] 29)).frozen? ⟨w.heap.size + 1 + 1, o, none⟩ = false := fun o => by simp [go_sem]
  have Q1 := hide ((unhide H1).later hb)
  have Q2 := hide ((unhide H2).later hb)
  have szw0 : w.heap.size + 3 ≤ (((w.alloc (.cells #[.bool q.num.g, .slice q.num.a q.num.n q.num.c, .bool q.den.g, .slice q.den.a q.den.n q.den.c] 29)).alloc (.cells #[.bool q'.num.g, .slice q'.num.a q'.num.n q'.num.c, .bool q'.den.g, .slice q'.den.a q'.den.n q'.den.c] 29)).alloc (.cells #[.bool false, .slice none 0 0, .bool false, .slice none 0 0] 29)).heap.size := by simp
  have HB := hide hb
  clear hb
  generalize (((w.alloc (.cells #[.bool q.num.g, .slice q.num.a q.num.n q.num.c, .bool q.den.g, .slice q.den.a q.den.n q.den.c] 29)).alloc (.cells #[.bool q'.num.g, .slice q'.num.a q'.num.n q'.num.c, .bool q'.den.g, .slice q'.den.a q'.den.n q'.den.c] 29)).alloc (.cells #[.bool false, .slice none 0 0, .bool false, .slice none 0 0] 29)) = w0 at *
  have ne0_2 : w.heap.size ≠ w.heap.size + 1 + 1 := by omega
  have ne1_2 : w.heap.size + 1 ≠ w.heap.size + 1 + 1 := by omega
  go_region_held3 (fun w' => w'.cell? ⟨w.heap.size, 0, none⟩ = some (.bool q.num.g) ∧ w'.cell? ⟨w.heap.size, 1, none⟩ = some (.slice q.num.a q.num.n q.num.c) ∧ w'.cell? ⟨w.heap.size + 1, 0, none⟩ = some (.bool q'.num.g) ∧ w'.cell? ⟨w.heap.size + 1, 1, none⟩ = some (.slice q'.num.a q'.num.n q'.num.c) ∧ w'.cell? ⟨w.heap.size, 2, none⟩ = some (.bool q.den.g) ∧ w'.cell? ⟨w.heap.size, 3, none⟩ = some (.slice q.den.a q.den.n q.den.c) ∧ w'.cell? ⟨w.heap.size + 1, 2, none⟩ = some (.bool q'.den.g) ∧ w'.cell? ⟨w.heap.size + 1, 3, none⟩ = some (.slice q'.den.a q'.den.n q'.den.c)) (with_reducible (first | exact ⟨k0_0, k0_1, k1_0, k1_1, k0_2, k0_3, k1_2, k1_3⟩ | exact ⟨cd_other k0_0, cd_other k0_1, cd_other k1_0, cd_other k1_1, cd_other k0_2, cd_other k0_3, cd_other k1_2, cd_other k1_3⟩ | exact ⟨cs_other (cs_other (cs_other (cs_other (k0_0) ne0_2) ne0_2) ne0_2) ne0_2, cs_other (cs_other (cs_other (cs_other (k0_1) ne0_2) ne0_2) ne0_2) ne0_2, cs_other (cs_other (cs_other (cs_other (k1_0) ne1_2) ne1_2) ne1_2) ne1_2, cs_other (cs_other (cs_other (cs_other (k1_1) ne1_2) ne1_2) ne1_2) ne1_2, cs_other (cs_other (cs_other (cs_other (k0_2) ne0_2) ne0_2) ne0_2) ne0_2, cs_other (cs_other (cs_other (cs_other (k0_3) ne0_2) ne0_2) ne0_2) ne0_2, cs_other (cs_other (cs_other (cs_other (k1_2) ne1_2) ne1_2) ne1_2) ne1_2, cs_other (cs_other (cs_other (cs_other (k1_3) ne1_2) ne1_2) ne1_2) ne1_2⟩ | fail))
    (first
    | (go_at_call_of 128 (Value.agg #[Value.bool q.num.g, Value.slice q.num.a q.num.n q.num.c]); refine (mulI_v q.num q'.num N N' _ ?_ ?_ (unhide K1) (unhide K3)).mono ?_; exact (unhide Q1).1.later (Below.refl _ _).drew; exact (unhide Q2).1.later (Below.refl _ _).drew; rintro e w1 ⟨x1, lx1, rfl, hb, ox1, ax1, nx1⟩; have hbx : Below w0.heap.size w0 w1 := below_of_drew hb; have szw1 := hbx.size; replace z2 := fun o => frozen_later hbx (World.block_lt_of_cell? _ _ k2_0) (z2 o); replace k0_0 := cell_later hbx k0_0; replace k0_1 := cell_later hbx k0_1; replace k1_0 := cell_later hbx k1_0; replace k1_1 := cell_later hbx k1_1; replace k0_2 := cell_later hbx k0_2; replace k0_3 := cell_later hbx k0_3; replace k1_2 := cell_later hbx k1_2; replace k1_3 := cell_later hbx k1_3; replace k2_0 := cell_later hbx k2_0; replace k2_1 := cell_later hbx k2_1; replace k2_2 := cell_later hbx k2_2; replace k2_3 := cell_later hbx k2_3; replace Q1 := hide ((unhide Q1).later hbx); replace Q2 := hide ((unhide Q2).later hbx); have Px1 := hide (outN_ow ox1 ax1 nx1); have HBr := hide hbx; clear hbx hb ox1 ax1 nx1)
    | (go_at_call_of 128 (Value.agg #[Value.bool q.den.g, Value.slice q.den.a q.den.n q.den.c]); refine (mulI_v q.den q'.den D D' _ ?_ ?_ (unhide K2) (unhide K4)).mono ?_; exact (unhide Q1).2.later (Below.refl _ _); exact (unhide Q2).2.later (Below.refl _ _); rintro e w2 ⟨x2, lx2, rfl, hb, ox2, ax2, nx2⟩; have hbx : Below w1.heap.size w1 w2 := hb; have szw2 := hbx.size; replace z2 := fun o => frozen_later hbx (World.block_lt_of_cell? _ _ k2_0) (z2 o); replace k0_0 := cell_later hbx k0_0; replace k0_1 := cell_later hbx k0_1; replace k1_0 := cell_later hbx k1_0; replace k1_1 := cell_later hbx k1_1; replace k0_2 := cell_later hbx k0_2; replace k0_3 := cell_later hbx k0_3; replace k1_2 := cell_later hbx k1_2; replace k1_3 := cell_later hbx k1_3; replace k2_0 := cell_later hbx k2_0; replace k2_1 := cell_later hbx k2_1; replace k2_2 := cell_later hbx k2_2; replace k2_3 := cell_later hbx k2_3; replace Q1 := hide ((unhide Q1).later hbx); replace Q2 := hide ((unhide Q2).later hbx); replace Px1 := hide ((unhide Px1).later hbx); have Px2 := hide (outN_ow ox2 ax2 nx2); have HBr := hide (below_on (unhide HBr) hbx); clear hbx hb ox2 ax2 nx2)
    | (go_at_call 64; refine (lowI x1 x2 (N * N') (D * D') _ ?_ ?_ (unhide HD) ((unhide BX).1) ((unhide BX).2)).mono ?_; exact (unhide Px1).is.later (Below.refl _ _); exact (unhide Px2).is.later (Below.refl _ _); rintro e w3 ⟨r, zs, us, rfl, hb, or, ar, nz, nu⟩; have hbx : Below w2.heap.size w2 w3 := hb; have szw3 := hbx.size; replace z2 := fun o => frozen_later hbx (World.block_lt_of_cell? _ _ k2_0) (z2 o); replace k0_0 := cell_later hbx k0_0; replace k0_1 := cell_later hbx k0_1; replace k1_0 := cell_later hbx k1_0; replace k1_1 := cell_later hbx k1_1; replace k0_2 := cell_later hbx k0_2; replace k0_3 := cell_later hbx k0_3; replace k1_2 := cell_later hbx k1_2; replace k1_3 := cell_later hbx k1_3; replace k2_0 := cell_later hbx k2_0; replace k2_1 := cell_later hbx k2_1; replace k2_2 := cell_later hbx k2_2; replace k2_3 := cell_later hbx k2_3; replace Q1 := hide ((unhide Q1).later hbx); replace Q2 := hide ((unhide Q2).later hbx); replace Px1 := hide ((unhide Px1).later hbx); replace Px2 := hide ((unhide Px2).later hbx); have OR := hide (And.intro or (And.intro ar (And.intro nz nu))); have HBr := hide (below_on (unhide HBr) hbx); clear hbx hb or ar nz nu))
  replace HB := hide (below_on (unhide HB) (unhide HBr))
  clear HBr
  go_wp2
  refine bodyPost_ret (v := .agg #[.bool r.num.g, .slice r.num.a r.num.n r.num.c, .bool r.den.g, .slice r.den.a r.den.n r.den.c]) (by simp [results, Tryz.results108, go_sem, k2_0, k2_1, k2_2, k2_3]) rfl ?_
  exact outQ_fin (q := r) (R := w.heap.size + 1 + 1) (by omega) (unhide HB) (metQ_but (w5 := w3) (v := r) (G := w.heap.size + 1 + 1)) ((unhide OR).1.wide (by omega) (Nat.le_refl _)) (unhide OR).2.1 (unhide OR).2.2.1 (unhide OR).2.2.2

set_option maxHeartbeats 4000000 in
theorem mulQS (q q' : QV) (N D N' D' : Int) (w : World) (h : IsQ w q N D) (h' : IsQ w q' N' D') (hD : (D * D') ≠ 0) (k1 : Bd N 100000) (k2 : Bd D 100000) (k3 : Bd N' 100000) (k4 : Bd D' 100000) :
    Calls Tryz.prog 117 #[.agg #[.bool q.num.g, .slice q.num.a q.num.n q.num.c, .bool q.den.g, .slice q.den.a q.den.n q.den.c], .agg #[.bool q'.num.g, .slice q'.num.a q'.num.n q'.num.c, .bool q'.den.g, .slice q'.den.a q'.den.n q'.den.c]] w (OutQv w (lowN (N * N') (D * D')) (lowD (N * N') (D * D'))) := by
  have H1 := hide h
  have H2 := hide h'
  have HD := hide hD
  have K1 := hide (k1.mono (show 100000 ≤ 400000 by omega))
  have K2 := hide (k2.mono (show 100000 ≤ 400000 by omega))
  have K3 := hide (k3.mono (show 100000 ≤ 400000 by omega))
  have K4 := hide (k4.mono (show 100000 ≤ 400000 by omega))
  have BX : Hid (Bd (N * N') 400000 ∧ Bd (D * D') 400000) := hide ⟨(Bd.mul k1 k3).mono (by omega), (Bd.mul k2 k4).mono (by omega)⟩
  clear h h' hD k1 k2 k3 k4
  go_enter Tryz.func117, Tryz.ntmps117
  go_upto_region 1 with fail
  have hb : Below w.heap.size w (((w.alloc (.cells #[.bool q.num.g, .slice q.num.a q.num.n q.num.c, .bool q.den.g, .slice q.den.a q.den.n q.den.c] 29)).alloc (.cells #[.bool q'.num.g, .slice q'.num.a q'.num.n q'.num.c, .bool q'.den.g, .slice q'.den.a q'.den.n q'.den.c] 29)).alloc (.cells #[.bool false, .slice none 0 0, .bool false, .slice none 0 0] 29)) := ((((Below.refl _ _).alloc (by simp) _).alloc (by simp) _).alloc (by simp <;> omega) _)
  have k0_0 : (((w.alloc (.cells #[.bool q.num.g, .slice q.num.a q.num.n q.num.c, .bool q.den.g, .slice q.den.a q.den.n q.den.c] 29)).alloc (.cells #[.bool q'.num.g, .slice q'.num.a q'.num.n q'.num.c, .bool q'.den.g, .slice q'.den.a q'.den.n q'.den.c] 29)).alloc (.cells #[.bool false, .slice none 0 0, .bool false, .slice none 0 0] 29)).cell? ⟨w.heap.size, 0, none⟩ = some (.bool q.num.g) := by simp [go_sem]
  have k0_1 : (((w.alloc (.cells #[.bool q.num.g, .slice q.num.a q.num.n q.num.c, .bool q.den.g, .slice q.den.a q.den.n q.den.c] 29)).alloc (.cells #[.bool q'.num.g, .slice q'.num.a q'.num.n q'.num.c, .bool q'.den.g, .slice q'.den.a q'.den.n q'.den.c] 29)).alloc (.cells #[.bool false, .slice none 0 0, .bool false, .slice none 0 0] 29)).cell? ⟨w.heap.size, 1, none⟩ = some (.slice q.num.a q.num.n q.num.c) := by simp [go_sem]
  have k1_0 : (((w.alloc (.cells #[.bool q.num.g, .slice q.num.a q.num.n q.num.c, .bool q.den.g, .slice q.den.a q.den.n q.den.c] 29)).alloc (.cells #[.bool q'.num.g, .slice q'.num.a q'.num.n q'.num.c, .bool q'.den.g, .slice q'.den.a q'.den.n q'.den.c] 29)).alloc (.cells #[.bool false, .slice none 0 0, .bool false, .slice none 0 0] 29)).cell? ⟨w.heap.size + 1, 0, none⟩ = some (.bool q'.num.g) := by simp [go_sem]
  have k1_1 : (((w.alloc (.cells #[.bool q.num.g, .slice q.num.a q.num.n q.num.c, .bool q.den.g, .slice q.den.a q.den.n q.den.c] 29)).alloc (.cells #[.bool q'.num.g, .slice q'.num.a q'.num.n q'.num.c, .bool q'.den.g, .slice q'.den.a q'.den.n q'.den.c] 29)).alloc (.cells #[.bool false, .slice none 0 0, .bool false, .slice none 0 0] 29)).cell? ⟨w.heap.size + 1, 1, none⟩ = some (.slice q'.num.a q'.num.n q'.num.c) := by simp [go_sem]
  have k0_2 : (((w.alloc (.cells #[.bool q.num.g, .slice q.num.a q.num.n q.num.c, .bool q.den.g, .slice q.den.a q.den.n q.den.c] 29)).alloc (.cells #[.bool q'.num.g, .slice q'.num.a q'.num.n q'.num.c, .bool q'.den.g, .slice q'.den.a q'.den.n q'.den.c] 29)).alloc (.cells #[.bool false, .slice none 0 0, .bool false, .slice none 0 0] 29)).cell? ⟨w.heap.size, 2, none⟩ = some (.bool q.den.g) := by simp [go_sem]
  have k0_3 : (((w.alloc (.cells #[.bool q.num.g, .slice q.num.a q.num.n q.num.c, .bool q.den.g, .slice q.den.a q.den.n q.den.c] 29)).alloc (.cells #[.bool q'.num.g, .slice q'.num.a q'.num.n q'.num.c, .bool q'.den.g, .slice q'.den.a q'.den.n q'.den.c] 29)).alloc (.cells #[.bool false, .slice none 0 0, .bool false, .slice none 0 0] 29)).cell? ⟨w.heap.size, 3, none⟩ = some (.slice q.den.a q.den.n q.den.c) := by simp [go_sem]
  have k1_2 : (((w.alloc (.cells #[.bool q.num.g, .slice q.num.a q.num.n q.num.c, .bool q.den.g, .slice q.den.a q.den.n q.den.c] 29)).alloc (.cells #[.bool q'.num.g, .slice q'.num.a q'.num.n q'.num.c, .bool q'.den.g, .slice q'.den.a q'.den.n q'.den.c] 29)).alloc (.cells #[.bool false, .slice none 0 0, .bool false, .slice none 0 0] 29)).cell? ⟨w.heap.size + 1, 2, none⟩ = some (.bool q'.den.g) := by simp [go_sem]
  have k1_3 : (((w.alloc (.cells #[.bool q.num.g, .slice q.num.a q.num.n q.num.c, .bool q.den.g, .slice q.den.a q.den.n q.den.c] 29)).alloc (.cells #[.bool q'.num.g, .slice q'.num.a q'.num.n q'.num.c, .bool q'.den.g, .slice q'.den.a q'.den.n q'.den.c] 29)).alloc (.cells #[.bool false, .slice none 0 0, .bool false, .slice none 0 0] 29)).cell? ⟨w.heap.size + 1, 3, none⟩ = some (.slice q'.den.a q'.den.n q'.den.c) := by simp [go_sem]
  have k2_0 : (((w.alloc (.cells #[.bool q.num.g, .slice q.num.a q.num.n q.num.c, .bool q.den.g, .slice q.den.a q.den.n q.den.c] 29)).alloc (.cells #[.bool q'.num.g, .slice q'.num.a q'.num.n q'.num.c, .bool q'.den.g, .slice q'.den.a q'.den.n q'.den.c] 29)).alloc (.cells #[.bool false, .slice none 0 0, .bool false, .slice none 0 0] 29)).cell? ⟨w.heap.size + 1 + 1, 0, none⟩ = some (.bool false) := by simp [go_sem]
  have k2_1 : (((w.alloc (.cells #[.bool q.num.g, .slice q.num.a q.num.n q.num.c, .bool q.den.g, .slice q.den.a q.den.n q.den.c] 29)).alloc (.cells #[.bool q'.num.g, .slice q'.num.a q'.num.n q'.num.c, .bool q'.den.g, .slice q'.den.a q'.den.n q'.den.c] 29)).alloc (.cells #[.bool false, .slice none 0 0, .bool false, .slice none 0 0] 29)).cell? ⟨w.heap.size + 1 + 1, 1, none⟩ = some (.slice none 0 0) := by simp [go_sem]
  have k2_2 : (((w.alloc (.cells #[.bool q.num.g, .slice q.num.a q.num.n q.num.c, .bool q.den.g, .slice q.den.a q.den.n q.den.c] 29)).alloc (.cells #[.bool q'.num.g, .slice q'.num.a q'.num.n q'.num.c, .bool q'.den.g, .slice q'.den.a q'.den.n q'.den.c] 29)).alloc (.cells #[.bool false, .slice none 0 0, .bool false, .slice none 0 0] 29)).cell? ⟨w.heap.size + 1 + 1, 2, none⟩ = some (.bool false) := by simp [go_sem]
  have k2_3 : (((w.alloc (.cells #[.bool q.num.g, .slice q.num.a q.num.n q.num.c, .bool q.den.g, .slice q.den.a q.den.n q.den.c] 29)).alloc (.cells #[.bool q'.num.g, .slice q'.num.a q'.num.n q'.num.c, .bool q'.den.g, .slice q'.den.a q'.den.n q'.den.c] 29)).alloc (.cells #[.bool false, .slice none 0 0, .bool false, .slice none 0 0] 29)).cell? ⟨w.heap.size + 1 + 1, 3, none⟩ = some (.slice none 0 0) := by simp [go_sem]
  have z2 : ∀ o, (((w.alloc (.cells #[.bool q.num.g, .slice q.num.a q.num.n q.num.c, .bool q.den.g, .slice q.den.a q.den.n q.den.c] 29)).alloc (.cells #[.bool q'.num.g, .slice q'.num.a q'.num.n q'.num.c, .bool q'.den.g, .slice q'.den.a q'.den.n q'.den.c] 29)).alloc (.cells #[.bool false, .slice none 0 0, .bool false, .slice none 0 0] 29)).frozen? ⟨w.heap.size + 1 + 1, o, none⟩ = false := fun o => by simp [go_sem]
  have Q1 := hide ((unhide H1).later hb)
  have Q2 := hide ((unhide H2).later hb)
  have szw0 : w.heap.size + 3 ≤ (((w.alloc (.cells #[.bool q.num.g, .slice q.num.a q.num.n q.num.c, .bool q.den.g, .slice q.den.a q.den.n q.den.c] 29)).alloc (.cells #[.bool q'.num.g, .slice q'.num.a q'.num.n q'.num.c, .bool q'.den.g, .slice q'.den.a q'.den.n q'.den.c] 29)).alloc (.cells #[.bool false, .slice none 0 0, .bool false, .slice none 0 0] 29)).heap.size := by simp
  have HB := hide hb
  clear hb
  generalize (((w.alloc (.cells #[.bool q.num.g, .slice q.num.a q.num.n q.num.c, .bool q.den.g, .slice q.den.a q.den.n q.den.c] 29)).alloc (.cells #[.bool q'.num.g, .slice q'.num.a q'.num.n q'.num.c, .bool q'.den.g, .slice q'.den.a q'.den.n q'.den.c] 29)).alloc (.cells #[.bool false, .slice none 0 0, .bool false, .slice none 0 0] 29)) = w0 at *
  have ne0_2 : w.heap.size ≠ w.heap.size + 1 + 1 := by omega
  have ne1_2 : w.heap.size + 1 ≠ w.heap.size + 1 + 1 := by omega
  go_region_held3 (fun w' => w'.cell? ⟨w.heap.size, 0, none⟩ = some (.bool q.num.g) ∧ w'.cell? ⟨w.heap.size, 1, none⟩ = some (.slice q.num.a q.num.n q.num.c) ∧ w'.cell? ⟨w.heap.size + 1, 0, none⟩ = some (.bool q'.num.g) ∧ w'.cell? ⟨w.heap.size + 1, 1, none⟩ = some (.slice q'.num.a q'.num.n q'.num.c) ∧ w'.cell? ⟨w.heap.size, 2, none⟩ = some (.bool q.den.g) ∧ w'.cell? ⟨w.heap.size, 3, none⟩ = some (.slice q.den.a q.den.n q.den.c) ∧ w'.cell? ⟨w.heap.size + 1, 2, none⟩ = some (.bool q'.den.g) ∧ w'.cell? ⟨w.heap.size + 1, 3, none⟩ = some (.slice q'.den.a q'.den.n q'.den.c)) (with_reducible (first | exact ⟨k0_0, k0_1, k1_0, k1_1, k0_2, k0_3, k1_2, k1_3⟩ | exact ⟨cd_other k0_0, cd_other k0_1, cd_other k1_0, cd_other k1_1, cd_other k0_2, cd_other k0_3, cd_other k1_2, cd_other k1_3⟩ | exact ⟨cs_other (cs_other (cs_other (cs_other (k0_0) ne0_2) ne0_2) ne0_2) ne0_2, cs_other (cs_other (cs_other (cs_other (k0_1) ne0_2) ne0_2) ne0_2) ne0_2, cs_other (cs_other (cs_other (cs_other (k1_0) ne1_2) ne1_2) ne1_2) ne1_2, cs_other (cs_other (cs_other (cs_other (k1_1) ne1_2) ne1_2) ne1_2) ne1_2, cs_other (cs_other (cs_other (cs_other (k0_2) ne0_2) ne0_2) ne0_2) ne0_2, cs_other (cs_other (cs_other (cs_other (k0_3) ne0_2) ne0_2) ne0_2) ne0_2, cs_other (cs_other (cs_other (cs_other (k1_2) ne1_2) ne1_2) ne1_2) ne1_2, cs_other (cs_other (cs_other (cs_other (k1_3) ne1_2) ne1_2) ne1_2) ne1_2⟩ | fail))
    (first
    | (go_at_call_of 155 (Value.agg #[Value.bool q.num.g, Value.slice q.num.a q.num.n q.num.c]); refine (mulS_v q.num q'.num N N' _ ?_ ?_ (unhide K1) (unhide K3)).mono ?_; exact (unhide Q1).1.later (Below.refl _ _).drew; exact (unhide Q2).1.later (Below.refl _ _).drew; rintro e w1 ⟨x1, lx1, rfl, hb, ox1, ax1, nx1⟩; have hbx : Below w0.heap.size w0 w1 := below_of_drew hb; have szw1 := hbx.size; replace z2 := fun o => frozen_later hbx (World.block_lt_of_cell? _ _ k2_0) (z2 o); replace k0_0 := cell_later hbx k0_0; replace k0_1 := cell_later hbx k0_1; replace k1_0 := cell_later hbx k1_0; replace k1_1 := cell_later hbx k1_1; replace k0_2 := cell_later hbx k0_2; replace k0_3 := cell_later hbx k0_3; replace k1_2 := cell_later hbx k1_2; replace k1_3 := cell_later hbx k1_3; replace k2_0 := cell_later hbx k2_0; replace k2_1 := cell_later hbx k2_1; replace k2_2 := cell_later hbx k2_2; replace k2_3 := cell_later hbx k2_3; replace Q1 := hide ((unhide Q1).later hbx); replace Q2 := hide ((unhide Q2).later hbx); have Px1 := hide (outN_ow ox1 ax1 nx1); have HBr := hide hbx; clear hbx hb ox1 ax1 nx1)
    | (go_at_call_of 155 (Value.agg #[Value.bool q.den.g, Value.slice q.den.a q.den.n q.den.c]); refine (mulS_v q.den q'.den D D' _ ?_ ?_ (unhide K2) (unhide K4)).mono ?_; exact (unhide Q1).2.later (Below.refl _ _); exact (unhide Q2).2.later (Below.refl _ _); rintro e w2 ⟨x2, lx2, rfl, hb, ox2, ax2, nx2⟩; have hbx : Below w1.heap.size w1 w2 := hb; have szw2 := hbx.size; replace z2 := fun o => frozen_later hbx (World.block_lt_of_cell? _ _ k2_0) (z2 o); replace k0_0 := cell_later hbx k0_0; replace k0_1 := cell_later hbx k0_1; replace k1_0 := cell_later hbx k1_0; replace k1_1 := cell_later hbx k1_1; replace k0_2 := cell_later hbx k0_2; replace k0_3 := cell_later hbx k0_3; replace k1_2 := cell_later hbx k1_2; replace k1_3 := cell_later hbx k1_3; replace k2_0 := cell_later hbx k2_0; replace k2_1 := cell_later hbx k2_1; replace k2_2 := cell_later hbx k2_2; replace k2_3 := cell_later hbx k2_3; replace Q1 := hide ((unhide Q1).later hbx); replace Q2 := hide ((unhide Q2).later hbx); replace Px1 := hide ((unhide Px1).later hbx); have Px2 := hide (outN_ow ox2 ax2 nx2); have HBr := hide (below_on (unhide HBr) hbx); clear hbx hb ox2 ax2 nx2)
    | (go_at_call 119; refine (lowS x1 x2 (N * N') (D * D') _ ?_ ?_ (unhide HD) ((unhide BX).1) ((unhide BX).2)).mono ?_; exact (unhide Px1).is.later (Below.refl _ _); exact (unhide Px2).is.later (Below.refl _ _); rintro e w3 ⟨r, rfl, hb, or1, or2⟩; have hbx : Below w2.heap.size w2 w3 := hb; have szw3 := hbx.size; replace z2 := fun o => frozen_later hbx (World.block_lt_of_cell? _ _ k2_0) (z2 o); replace k0_0 := cell_later hbx k0_0; replace k0_1 := cell_later hbx k0_1; replace k1_0 := cell_later hbx k1_0; replace k1_1 := cell_later hbx k1_1; replace k0_2 := cell_later hbx k0_2; replace k0_3 := cell_later hbx k0_3; replace k1_2 := cell_later hbx k1_2; replace k1_3 := cell_later hbx k1_3; replace k2_0 := cell_later hbx k2_0; replace k2_1 := cell_later hbx k2_1; replace k2_2 := cell_later hbx k2_2; replace k2_3 := cell_later hbx k2_3; replace Q1 := hide ((unhide Q1).later hbx); replace Q2 := hide ((unhide Q2).later hbx); replace Px1 := hide ((unhide Px1).later hbx); replace Px2 := hide ((unhide Px2).later hbx); have OR := hide (And.intro or1 or2); have HBr := hide (below_on (unhide HBr) hbx); clear hbx hb or1 or2))
  replace HB := hide (below_on (unhide HB) (unhide HBr))
  clear HBr
  go_wp2
  refine bodyPost_ret (v := .agg #[.bool r.num.g, .slice r.num.a r.num.n r.num.c, .bool r.den.g, .slice r.den.a r.den.n r.den.c]) (by simp [results, Tryz.results117, go_sem, k2_0, k2_1, k2_2, k2_3]) rfl ?_
  exact outQv_fin (q := r) (R := w.heap.size + 1 + 1) (by omega) (unhide HB) (metQ_but (w5 := w3) (v := r) (G := w.heap.size + 1 + 1)) ((unhide OR).1.wide (by omega) (Nat.le_refl _)) ((unhide OR).2.wide (by omega) (Nat.le_refl _))

set_option maxHeartbeats 4000000 in
theorem subQI (q q' : QV) (N D N' D' : Int) (w : World) (h : IsQ w q N D) (h' : IsQ w q' N' D') (hD : (D * D') ≠ 0) (k1 : Bd N 100000) (k2 : Bd D 100000) (k3 : Bd N' 100000) (k4 : Bd D' 100000) :
    Calls Tryz.prog 151 #[.agg #[.bool q.num.g, .slice q.num.a q.num.n q.num.c, .bool q.den.g, .slice q.den.a q.den.n q.den.c], .agg #[.bool q'.num.g, .slice q'.num.a q'.num.n q'.num.c, .bool q'.den.g, .slice q'.den.a q'.den.n q'.den.c]] w (OutQ w (lowN (N * D' - N' * D) (D * D')) (lowD (N * D' - N' * D) (D * D'))) := by
  have H1 := hide h
  have H2 := hide h'
  have HD := hide hD
  have K1 := hide (k1.mono (show 100000 ≤ 400000 by omega))
  have K2 := hide (k2.mono (show 100000 ≤ 400000 by omega))
  have K3 := hide (k3.mono (show 100000 ≤ 400000 by omega))
  have K4 := hide (k4.mono (show 100000 ≤ 400000 by omega))
  have BX : Hid (Bd (N * D') 400000 ∧ Bd (N' * D) 400000 ∧ Bd (N * D' - N' * D) 400000 ∧ Bd (D * D') 400000) := hide ⟨(k1.mul k4).mono (by omega), (k3.mul k2).mono (by omega), (Bd.sub (k1.mul k4) (k3.mul k2)).mono (by omega), (k2.mul k4).mono (by omega)⟩
  clear h h' hD k1 k2 k3 k4
  go_enter Tryz.func151, Tryz.ntmps151
  go_upto_region 1 with fail
  have hb : Below w.heap.size w (((w.alloc (.cells #[.bool q.num.g, .slice q.num.a q.num.n q.num.c, .bool q.den.g, .slice q.den.a q.den.n q.den.c] 29)).alloc (.cells #[.bool q'.num.g, .slice q'.num.a q'.num.n q'.num.c, .bool q'.den.g, .slice q'.den.a q'.den.n q'.den.c] 29)).alloc (.cells #[.bool false, .slice none 0 0, .bool false, .slice none 0 0] 29)) := ((((Below.refl _ _).alloc (by simp) _).alloc (by simp) _).alloc (by simp <;> omega) _)
  have k0_0 : (((w.alloc (.cells #[.bool q.num.g, .slice q.num.a q.num.n q.num.c, .bool q.den.g, .slice q.den.a q.den.n q.den.c] 29)).alloc (.cells #[.bool q'.num.g, .slice q'.num.a q'.num.n q'.num.c, .bool q'.den.g, .slice q'.den.a q'.den.n q'.den.c] 29)).alloc (.cells #[.bool false, .slice none 0 0, .bool false, .slice none 0 0] 29)).cell? ⟨w.heap.size, 0, none⟩ = some (.bool q.num.g) := by simp [go_sem]
  have k0_1 : (((w.alloc (.cells #[.bool q.num.g, .slice q.num.a q.num.n q.num.c, .bool q.den.g, .slice q.den.a q.den.n q.den.c] 29)).alloc (.cells #[.bool q'.num.g, .slice q'.num.a q'.num.n q'.num.c, .bool q'.den.g, .slice q'.den.a q'.den.n q'.den.c] 29)).alloc (.cells #[.bool false, .slice none 0 0, .bool false, .slice none 0 0] 29)).cell? ⟨w.heap.size, 1, none⟩ = some (.slice q.num.a q.num.n q.num.c) := by simp [go_sem]
  have k0_2 : (((w.alloc (.cells #[.bool q.num.g, .slice q.num.a q.num.n q.num.c, .bool q.den.g, .slice q.den.a q.den.n q.den.c] 29)).alloc (.cells #[.bool q'.num.g, .slice q'.num.a q'.num.n q'.num.c, .bool q'.den.g, .slice q'.den.a q'.den.n q'.den.c] 29)).alloc (.cells #[.bool false, .slice none 0 0, .bool false, .slice none 0 0] 29)).cell? ⟨w.heap.size, 2, none⟩ = some (.bool q.den.g) := by simp [go_sem]
  have k0_3 : (((w.alloc (.cells #[.bool q.num.g, .slice q.num.a q.num.n q.num.c, .bool q.den.g, .slice q.den.a q.den.n q.den.c] 29)).alloc (.cells #[.bool q'.num.g, .slice q'.num.a q'.num.n q'.num.c, .bool q'.den.g, .slice q'.den.a q'.den.n q'.den.c] 29)).alloc (.cells #[.bool false, .slice none 0 0, .bool false, .slice none 0 0] 29)).cell? ⟨w.heap.size, 3, none⟩ = some (.slice q.den.a q.den.n q.den.c) := by simp [go_sem]
  have k1_0 : (((w.alloc (.cells #[.bool q.num.g, .slice q.num.a q.num.n q.num.c, .bool q.den.g, .slice q.den.a q.den.n q.den.c] 29)).alloc (.cells #[.bool q'.num.g, .slice q'.num.a q'.num.n q'.num.c, .bool q'.den.g, .slice q'.den.a q'.den.n q'.den.c] 29)).alloc (.cells #[.bool false, .slice none 0 0, .bool false, .slice none 0 0] 29)).cell? ⟨w.heap.size + 1, 0, none⟩ = some (.bool q'.num.g) := by simp [go_sem]
  have k1_1 : (((w.alloc (.cells #[.bool q.num.g, .slice q.num.a q.num.n q.num.c, .bool q.den.g, .slice q.den.a q.den.n q.den.c] 29)).alloc (.cells #[.bool q'.num.g, .slice q'.num.a q'.num.n q'.num.c, .bool q'.den.g, .slice q'.den.a q'.den.n q'.den.c] 29)).alloc (.cells #[.bool false, .slice none 0 0, .bool false, .slice none 0 0] 29)).cell? ⟨w.heap.size + 1, 1, none⟩ = some (.slice q'.num.a q'.num.n q'.num.c) := by simp [go_sem]
  have k1_2 : (((w.alloc (.cells #[.bool q.num.g, .slice q.num.a q.num.n q.num.c, .bool q.den.g, .slice q.den.a q.den.n q.den.c] 29)).alloc (.cells #[.bool q'.num.g, .slice q'.num.a q'.num.n q'.num.c, .bool q'.den.g, .slice q'.den.a q'.den.n q'.den.c] 29)).alloc (.cells #[.bool false, .slice none 0 0, .bool false, .slice none 0 0] 29)).cell? ⟨w.heap.size + 1, 2, none⟩ = some (.bool q'.den.g) := by simp [go_sem]
  have k1_3 : (((w.alloc (.cells #[.bool q.num.g, .slice q.num.a q.num.n q.num.c, .bool q.den.g, .slice q.den.a q.den.n q.den.c] 29)).alloc (.cells #[.bool q'.num.g, .slice q'.num.a q'.num.n q'.num.c, .bool q'.den.g, .slice q'.den.a q'.den.n q'.den.c] 29)).alloc (.cells #[.bool false, .slice none 0 0, .bool false, .slice none 0 0] 29)).cell? ⟨w.heap.size + 1, 3, none⟩ = some (.slice q'.den.a q'.den.n q'.den.c) := by simp [go_sem]
  have k2_0 : (((w.alloc (.cells #[.bool q.num.g, .slice q.num.a q.num.n q.num.c, .bool q.den.g, .slice q.den.a q.den.n q.den.c] 29)).alloc (.cells #[.bool q'.num.g, .slice q'.num.a q'.num.n q'.num.c, .bool q'.den.g, .slice q'.den.a q'.den.n q'.den.c] 29)).alloc (.cells #[.bool false, .slice none 0 0, .bool false, .slice none 0 0] 29)).cell? ⟨w.heap.size + 1 + 1, 0, none⟩ = some (.bool false) := by simp [go_sem]
  have k2_1 : (((w.alloc (.cells #[.bool q.num.g, .slice q.num.a q.num.n q.num.c, .bool q.den.g, .slice q.den.a q.den.n q.den.c] 29)).alloc (.cells #[.bool q'.num.g, .slice q'.num.a q'.num.n q'.num.c, .bool q'.den.g, .slice q'.den.a q'.den.n q'.den.c] 29)).alloc (.cells #[.bool false, .slice none 0 0, .bool false, .slice none 0 0] 29)).cell? ⟨w.heap.size + 1 + 1, 1, none⟩ = some (.slice none 0 0) := by simp [go_sem]
  have k2_2 : (((w.alloc (.cells #[.bool q.num.g, .slice q.num.a q.num.n q.num.c, .bool q.den.g, .slice q.den.a q.den.n q.den.c] 29)).alloc (.cells #[.bool q'.num.g, .slice q'.num.a q'.num.n q'.num.c, .bool q'.den.g, .slice q'.den.a q'.den.n q'.den.c] 29)).alloc (.cells #[.bool false, .slice none 0 0, .bool false, .slice none 0 0] 29)).cell? ⟨w.heap.size + 1 + 1, 2, none⟩ = some (.bool false) := by simp [go_sem]
  have k2_3 : (((w.alloc (.cells #[.bool q.num.g, .slice q.num.a q.num.n q.num.c, .bool q.den.g, .slice q.den.a q.den.n q.den.c] 29)).alloc (.cells #[.bool q'.num.g, .slice q'.num.a q'.num.n q'.num.c, .bool q'.den.g, .slice q'.den.a q'.den.n q'.den.c] 29)).alloc (.cells #[.bool false, .slice none 0 0, .bool false, .slice none 0 0] 29)).cell? ⟨w.heap.size + 1 + 1, 3, none⟩ = some (.slice none 0 0) := by simp [go_sem]
  have z2 : ∀ o, (((w.alloc (.cells #[.bool q.num.g, .slice q.num.a q.num.n q.num.c, .bool q.den.g, .slice q.den.a q.den.n q.den.c] 29)).alloc (.cells #[.bool q'.num.g, .slice q'.num.a q'.num.n q'.num.c, .bool q'.den.g, .slice q'.den.a q'.den.n q'.den.c] 29)).alloc (.cells #[.bool false, .slice none 0 0, .bool false, .slice none 0 0] 29)).frozen? ⟨w.heap.size + 1 + 1, o, none⟩ = false := fun o => by simp [go_sem]
  have Q1 := hide ((unhide H1).later hb)
  have Q2 := hide ((unhide H2).later hb)
  have szw0 : w.heap.size + 3 ≤ (((w.alloc (.cells #[.bool q.num.g, .slice q.num.a q.num.n q.num.c, .bool q.den.g, .slice q.den.a q.den.n q.den.c] 29)).alloc (.cells #[.bool q'.num.g, .slice q'.num.a q'.num.n q'.num.c, .bool q'.den.g, .slice q'.den.a q'.den.n q'.den.c] 29)).alloc (.cells #[.bool false, .slice none 0 0, .bool false, .slice none 0 0] 29)).heap.size := by simp
  have HB := hide hb
  clear hb
  generalize (((w.alloc (.cells #[.bool q.num.g, .slice q.num.a q.num.n q.num.c, .bool q.den.g, .slice q.den.a q.den.n q.den.c] 29)).alloc (.cells #[.bool q'.num.g, .slice q'.num.a q'.num.n q'.num.c, .bool q'.den.g, .slice q'.den.a q'.den.n q'.den.c] 29)).alloc (.cells #[.bool false, .slice none 0 0, .bool false, .slice none 0 0] 29)) = w0 at *
  go_upto_region 1 with fail
  go_cut [5] (fun p wx => ∃ (G : Nat) (x : BV), p = .pointer (some ⟨G, 0, none⟩) ∧ Hid (BxB w0 wx G x (N * D' - N' * D)))
  case first =>
    go_region_held3 (fun w' => w'.cell? ⟨w.heap.size, 0, none⟩ = some (.bool q.num.g) ∧ w'.cell? ⟨w.heap.size, 1, none⟩ = some (.slice q.num.a q.num.n q.num.c) ∧ w'.cell? ⟨w.heap.size + 1, 2, none⟩ = some (.bool q'.den.g) ∧ w'.cell? ⟨w.heap.size + 1, 3, none⟩ = some (.slice q'.den.a q'.den.n q'.den.c) ∧ w'.cell? ⟨w.heap.size + 1, 0, none⟩ = some (.bool q'.num.g) ∧ w'.cell? ⟨w.heap.size + 1, 1, none⟩ = some (.slice q'.num.a q'.num.n q'.num.c) ∧ w'.cell? ⟨w.heap.size, 2, none⟩ = some (.bool q.den.g) ∧ w'.cell? ⟨w.heap.size, 3, none⟩ = some (.slice q.den.a q.den.n q.den.c)) (with_reducible (first | exact ⟨k0_0, k0_1, k1_2, k1_3, k1_0, k1_1, k0_2, k0_3⟩ | exact ⟨cd_other k0_0, cd_other k0_1, cd_other k1_2, cd_other k1_3, cd_other k1_0, cd_other k1_1, cd_other k0_2, cd_other k0_3⟩ | exact ⟨ca_other k0_0, ca_other k0_1, ca_other k1_2, ca_other k1_3, ca_other k1_0, ca_other k1_1, ca_other k0_2, ca_other k0_3⟩ | exact ⟨cd_other (ca_other k0_0), cd_other (ca_other k0_1), cd_other (ca_other k1_2), cd_other (ca_other k1_3), cd_other (ca_other k1_0), cd_other (ca_other k1_1), cd_other (ca_other k0_2), cd_other (ca_other k0_3)⟩ | exact ⟨cs_other (cs_other (k0_0) (by omega)) (by omega), cs_other (cs_other (k0_1) (by omega)) (by omega), cs_other (cs_other (k1_2) (by omega)) (by omega), cs_other (cs_other (k1_3) (by omega)) (by omega), cs_other (cs_other (k1_0) (by omega)) (by omega), cs_other (cs_other (k1_1) (by omega)) (by omega), cs_other (cs_other (k0_2) (by omega)) (by omega), cs_other (cs_other (k0_3) (by omega)) (by omega)⟩ | fail))
      (first
      | (go_at_call_of 128 (Value.agg #[Value.bool q.num.g, Value.slice q.num.a q.num.n q.num.c]); refine (mulI_v q.num q'.den N D' _ ?_ ?_ (unhide K1) (unhide K4)).mono ?_; (first | exact (unhide Q1).1.later (Below.refl _ _).drew | exact (unhide Q1).1.later ((Below.refl _ _).alloc (Nat.le_refl _) _).drew); (first | exact (unhide Q2).2.later (Below.refl _ _).drew | exact (unhide Q2).2.later ((Below.refl _ _).alloc (Nat.le_refl _) _).drew); rintro e w1 ⟨x1, lx1, rfl, hb, ox1, ax1, nx1⟩; have hbx : Below w0.heap.size w0 w1 := (by first | exact below_of_drew hb | exact bad hb); have szw1 := hbx.size; replace z2 := fun o => frozen_later hbx (World.block_lt_of_cell? _ _ k2_0) (z2 o); replace k0_0 := cell_later hbx k0_0; replace k0_1 := cell_later hbx k0_1; replace k0_2 := cell_later hbx k0_2; replace k0_3 := cell_later hbx k0_3; replace k1_0 := cell_later hbx k1_0; replace k1_1 := cell_later hbx k1_1; replace k1_2 := cell_later hbx k1_2; replace k1_3 := cell_later hbx k1_3; replace k2_0 := cell_later hbx k2_0; replace k2_1 := cell_later hbx k2_1; replace k2_2 := cell_later hbx k2_2; replace k2_3 := cell_later hbx k2_3; replace Q1 := hide ((unhide Q1).later hbx); replace Q2 := hide ((unhide Q2).later hbx); have Px1 := hide (outN_ow ox1 ax1 nx1); (try (replace gf := fun o => frozen_later hbx (World.block_lt_of_cell? _ _ g0) (gf o); replace g0 := cell_later hbx g0; replace g1 := cell_later hbx g1)); (try (refine cutP (p := w1.cell? ⟨w0.heap.size, 0, none⟩ = some (.bool false) ∧ w1.cell? ⟨w0.heap.size, 1, none⟩ = some (.slice none 0 0) ∧ ∀ o, w1.frozen? ⟨w0.heap.size, o, none⟩ = false) ?_ (fun dd => ?_); (focus (refine ⟨cell_later hb ?_, cell_later hb ?_, fun o => frozen_later hb ?_ ?_⟩ <;> (simp [go_sem]; done))); obtain ⟨g0, g1, gf⟩ := dd)); have zz := hb.size; (try simp at zz); have HBr := hide hbx; clear hbx hb ox1 ax1 nx1)
      | (go_at_call_of 128 (Value.agg #[Value.bool q'.num.g, Value.slice q'.num.a q'.num.n q'.num.c]); refine (mulI_v q'.num q.den N' D _ ?_ ?_ (unhide K3) (unhide K2)).mono ?_; (first | exact (unhide Q2).1.later (Below.refl _ _) | exact (unhide Q2).1.later ((Below.refl _ _).alloc (Nat.le_refl _) _)); (first | exact (unhide Q1).2.later (Below.refl _ _) | exact (unhide Q1).2.later ((Below.refl _ _).alloc (Nat.le_refl _) _)); rintro e w2 ⟨x2, lx2, rfl, hb, ox2, ax2, nx2⟩; have hbx : Below w1.heap.size w1 w2 := (by first | exact hb | exact ba hb); have szw2 := hbx.size; replace z2 := fun o => frozen_later hbx (World.block_lt_of_cell? _ _ k2_0) (z2 o); replace k0_0 := cell_later hbx k0_0; replace k0_1 := cell_later hbx k0_1; replace k0_2 := cell_later hbx k0_2; replace k0_3 := cell_later hbx k0_3; replace k1_0 := cell_later hbx k1_0; replace k1_1 := cell_later hbx k1_1; replace k1_2 := cell_later hbx k1_2; replace k1_3 := cell_later hbx k1_3; replace k2_0 := cell_later hbx k2_0; replace k2_1 := cell_later hbx k2_1; replace k2_2 := cell_later hbx k2_2; replace k2_3 := cell_later hbx k2_3; replace Q1 := hide ((unhide Q1).later hbx); replace Q2 := hide ((unhide Q2).later hbx); replace Px1 := hide ((unhide Px1).later hbx); have Px2 := hide (outN_ow ox2 ax2 nx2); (try (replace gf := fun o => frozen_later hbx (World.block_lt_of_cell? _ _ g0) (gf o); replace g0 := cell_later hbx g0; replace g1 := cell_later hbx g1)); (try (refine cutP (p := w2.cell? ⟨w1.heap.size, 0, none⟩ = some (.bool false) ∧ w2.cell? ⟨w1.heap.size, 1, none⟩ = some (.slice none 0 0) ∧ ∀ o, w2.frozen? ⟨w1.heap.size, o, none⟩ = false) ?_ (fun dd => ?_); (focus (refine ⟨cell_later hb ?_, cell_later hb ?_, fun o => frozen_later hb ?_ ?_⟩ <;> (simp [go_sem]; done))); obtain ⟨g0, g1, gf⟩ := dd)); have zz := hb.size; (try simp at zz); have HBr := hide (below_on (unhide HBr) hbx); clear hbx hb ox2 ax2 nx2)
      | (go_at_call 177; refine (subI_v x1 x2 (N * D') (N' * D) _ ?_ ?_ (unhide BX).1 (unhide BX).2.1).mono ?_; (first | exact (unhide Px1).is.later (Below.refl _ _) | exact (unhide Px1).is.later ((Below.refl _ _).alloc (Nat.le_refl _) _)); (first | exact (unhide Px2).is.later (Below.refl _ _) | exact (unhide Px2).is.later ((Below.refl _ _).alloc (Nat.le_refl _) _)); rintro e w3 ⟨x3, lx3, rfl, hb, ox3, ax3, nx3⟩; have hbx : Below w2.heap.size w2 w3 := (by first | exact hb | exact ba hb); have szw3 := hbx.size; replace z2 := fun o => frozen_later hbx (World.block_lt_of_cell? _ _ k2_0) (z2 o); replace k0_0 := cell_later hbx k0_0; replace k0_1 := cell_later hbx k0_1; replace k0_2 := cell_later hbx k0_2; replace k0_3 := cell_later hbx k0_3; replace k1_0 := cell_later hbx k1_0; replace k1_1 := cell_later hbx k1_1; replace k1_2 := cell_later hbx k1_2; replace k1_3 := cell_later hbx k1_3; replace k2_0 := cell_later hbx k2_0; replace k2_1 := cell_later hbx k2_1; replace k2_2 := cell_later hbx k2_2; replace k2_3 := cell_later hbx k2_3; replace Q1 := hide ((unhide Q1).later hbx); replace Q2 := hide ((unhide Q2).later hbx); replace Px1 := hide ((unhide Px1).later hbx); replace Px2 := hide ((unhide Px2).later hbx); have Px3 := hide (outN_ow ox3 ax3 nx3); (try (replace gf := fun o => frozen_later hbx (World.block_lt_of_cell? _ _ g0) (gf o); replace g0 := cell_later hbx g0; replace g1 := cell_later hbx g1)); (try (refine cutP (p := w3.cell? ⟨w2.heap.size, 0, none⟩ = some (.bool false) ∧ w3.cell? ⟨w2.heap.size, 1, none⟩ = some (.slice none 0 0) ∧ ∀ o, w3.frozen? ⟨w2.heap.size, o, none⟩ = false) ?_ (fun dd => ?_); (focus (refine ⟨cell_later hb ?_, cell_later hb ?_, fun o => frozen_later hb ?_ ?_⟩ <;> (simp [go_sem]; done))); obtain ⟨g0, g1, gf⟩ := dd)); have zz := hb.size; (try simp at zz); have HBr := hide (below_on (unhide HBr) hbx); clear hbx hb ox3 ax3 nx3))
    all_goals go_wp2_with fail
    all_goals go_meet
    all_goals first
      | (refine ⟨_, x3, rfl, hide (bxB_alloc 27 (unhide HBr) (unhide Px3) ?_)⟩; omega)
      | (refine ⟨_, x3, rfl, hide (bxB_set (unhide HBr) (unhide Px3) ?_ ?_ g0 g1)⟩ <;> first | omega | (simp; done) | (simp; omega))
  case rest =>
    obtain ⟨G, xG, rfl, HG⟩ := hcut
    have hb := (unhide HG).bel
    have loG := (unhide HG).lo
    have hiG := (unhide HG).hi
    replace z2 := fun o => frozen_later hb (World.block_lt_of_cell? _ _ k2_0) (z2 o)
    replace k0_2 := cell_later hb k0_2
    replace k0_3 := cell_later hb k0_3
    replace k1_2 := cell_later hb k1_2
    replace k1_3 := cell_later hb k1_3
    replace k2_0 := cell_later hb k2_0
    replace k2_1 := cell_later hb k2_1
    replace k2_2 := cell_later hb k2_2
    replace k2_3 := cell_later hb k2_3
    clear k0_0 k0_1 k1_0 k1_1
    replace Q1 := hide ((unhide Q1).later hb)
    replace Q2 := hide ((unhide Q2).later hb)
    have OG := hide ((unhide HG).ow)
    replace HB := hide (below_on (unhide HB) hb)
    clear hb
    have k3_0 := (unhide HG).c0
    have k3_1 := (unhide HG).c1
    clear HG
    go_upto_region 2 with fail
    have ne0_2 : w.heap.size ≠ w.heap.size + 1 + 1 := by omega
    have ne1_2 : w.heap.size + 1 ≠ w.heap.size + 1 + 1 := by omega
    have ne3_2 : G ≠ w.heap.size + 1 + 1 := by omega
    go_region_held3 (fun w' => w'.cell? ⟨G, 0, none⟩ = some (.bool xG.g) ∧ w'.cell? ⟨G, 1, none⟩ = some (.slice xG.a xG.n xG.c) ∧ w'.cell? ⟨w.heap.size, 2, none⟩ = some (.bool q.den.g) ∧ w'.cell? ⟨w.heap.size, 3, none⟩ = some (.slice q.den.a q.den.n q.den.c) ∧ w'.cell? ⟨w.heap.size + 1, 2, none⟩ = some (.bool q'.den.g) ∧ w'.cell? ⟨w.heap.size + 1, 3, none⟩ = some (.slice q'.den.a q'.den.n q'.den.c)) (with_reducible (first | exact ⟨k3_0, k3_1, k0_2, k0_3, k1_2, k1_3⟩ | exact ⟨cd_other k3_0, cd_other k3_1, cd_other k0_2, cd_other k0_3, cd_other k1_2, cd_other k1_3⟩ | exact ⟨cs_other (cs_other (cs_other (cs_other (k3_0) ne3_2) ne3_2) ne3_2) ne3_2, cs_other (cs_other (cs_other (cs_other (k3_1) ne3_2) ne3_2) ne3_2) ne3_2, cs_other (cs_other (cs_other (cs_other (k0_2) ne0_2) ne0_2) ne0_2) ne0_2, cs_other (cs_other (cs_other (cs_other (k0_3) ne0_2) ne0_2) ne0_2) ne0_2, cs_other (cs_other (cs_other (cs_other (k1_2) ne1_2) ne1_2) ne1_2) ne1_2, cs_other (cs_other (cs_other (cs_other (k1_3) ne1_2) ne1_2) ne1_2) ne1_2⟩ | fail))
      (first
      | (go_at_call_of 128 (Value.agg #[Value.bool q.den.g, Value.slice q.den.a q.den.n q.den.c]); refine (mulI_v q.den q'.den D D' _ ?_ ?_ (unhide K2) (unhide K4)).mono ?_; exact (unhide Q1).2.later (Below.refl _ _).drew; exact (unhide Q2).2.later (Below.refl _ _).drew; rintro e w4 ⟨x4, lx4, rfl, hb, ox4, ax4, nx4⟩; have hbx : Below wc.heap.size wc w4 := below_of_drew hb; have szw4 := hbx.size; replace z2 := fun o => frozen_later hbx (World.block_lt_of_cell? _ _ k2_0) (z2 o); replace k0_2 := cell_later hbx k0_2; replace k0_3 := cell_later hbx k0_3; replace k1_2 := cell_later hbx k1_2; replace k1_3 := cell_later hbx k1_3; replace k2_0 := cell_later hbx k2_0; replace k2_1 := cell_later hbx k2_1; replace k2_2 := cell_later hbx k2_2; replace k2_3 := cell_later hbx k2_3; replace k3_0 := cell_later hbx k3_0; replace k3_1 := cell_later hbx k3_1; replace Q1 := hide ((unhide Q1).later hbx); replace Q2 := hide ((unhide Q2).later hbx); replace OG := hide ((unhide OG).later hbx); have Px4 := hide (outN_ow ox4 ax4 nx4); have HBr := hide hbx; clear hbx hb ox4 ax4 nx4)
      | (go_at_call 64; refine (lowI xG x4 (N * D' - N' * D) (D * D') _ ?_ ?_ (unhide HD) ((unhide BX).2.2.1) ((unhide BX).2.2.2)).mono ?_; exact (unhide OG).is.later (Below.refl _ _); exact (unhide Px4).is.later (Below.refl _ _); rintro e w5 ⟨r, zs, us, rfl, hb, or, ar, nz, nu⟩; have hbx : Below w4.heap.size w4 w5 := hb; have szw5 := hbx.size; replace z2 := fun o => frozen_later hbx (World.block_lt_of_cell? _ _ k2_0) (z2 o); replace k0_2 := cell_later hbx k0_2; replace k0_3 := cell_later hbx k0_3; replace k1_2 := cell_later hbx k1_2; replace k1_3 := cell_later hbx k1_3; replace k2_0 := cell_later hbx k2_0; replace k2_1 := cell_later hbx k2_1; replace k2_2 := cell_later hbx k2_2; replace k2_3 := cell_later hbx k2_3; replace k3_0 := cell_later hbx k3_0; replace k3_1 := cell_later hbx k3_1; replace Q1 := hide ((unhide Q1).later hbx); replace Q2 := hide ((unhide Q2).later hbx); replace OG := hide ((unhide OG).later hbx); replace Px4 := hide ((unhide Px4).later hbx); have OR := hide (And.intro or (And.intro ar (And.intro nz nu))); have HBr := hide (below_on (unhide HBr) hbx); clear hbx hb or ar nz nu))
    replace HB := hide (below_on (unhide HB) (unhide HBr))
    clear HBr
    go_wp2
    refine bodyPost_ret (v := .agg #[.bool r.num.g, .slice r.num.a r.num.n r.num.c, .bool r.den.g, .slice r.den.a r.den.n r.den.c]) (by simp [results, Tryz.results151, go_sem, k2_0, k2_1, k2_2, k2_3]) rfl ?_
    exact outQ_fin (q := r) (R := w.heap.size + 1 + 1) (by omega) (unhide HB) (metQ_but (w5 := w5) (v := r) (G := w.heap.size + 1 + 1)) ((unhide OR).1.wide (by omega) (Nat.le_refl _)) (unhide OR).2.1 (unhide OR).2.2.1 (unhide OR).2.2.2

set_option maxHeartbeats 4000000 in
theorem addQS (q q' : QV) (N D N' D' : Int) (w : World) (h : IsQ w q N D) (h' : IsQ w q' N' D') (hD : (D * D') ≠ 0) (k1 : Bd N 100000) (k2 : Bd D 100000) (k3 : Bd N' 100000) (k4 : Bd D' 100000) :
    Calls Tryz.prog 118 #[.agg #[.bool q.num.g, .slice q.num.a q.num.n q.num.c, .bool q.den.g, .slice q.den.a q.den.n q.den.c], .agg #[.bool q'.num.g, .slice q'.num.a q'.num.n q'.num.c, .bool q'.den.g, .slice q'.den.a q'.den.n q'.den.c]] w (OutQv w (lowN (N * D' + N' * D) (D * D')) (lowD (N * D' + N' * D) (D * D'))) := by
  have H1 := hide h
  have H2 := hide h'
  have HD := hide hD
  have K1 := hide (k1.mono (show 100000 ≤ 400000 by omega))
  have K2 := hide (k2.mono (show 100000 ≤ 400000 by omega))
  have K3 := hide (k3.mono (show 100000 ≤ 400000 by omega))
  have K4 := hide (k4.mono (show 100000 ≤ 400000 by omega))
  have BX : Hid (Bd (N * D') 400000 ∧ Bd (N' * D) 400000 ∧ Bd (N * D' + N' * D) 400000 ∧ Bd (D * D') 400000) := hide ⟨(k1.mul k4).mono (by omega), (k3.mul k2).mono (by omega), (Bd.add (k1.mul k4) (k3.mul k2)).mono (by omega), (k2.mul k4).mono (by omega)⟩
  clear h h' hD k1 k2 k3 k4
  go_enter Tryz.func118, Tryz.ntmps118
  go_upto_region 1 with fail
  have hb : Below w.heap.size w (((w.alloc (.cells #[.bool q.num.g, .slice q.num.a q.num.n q.num.c, .bool q.den.g, .slice q.den.a q.den.n q.den.c] 29)).alloc (.cells #[.bool q'.num.g, .slice q'.num.a q'.num.n q'.num.c, .bool q'.den.g, .slice q'.den.a q'.den.n q'.den.c] 29)).alloc (.cells #[.bool false, .slice none 0 0, .bool false, .slice none 0 0] 29)) := ((((Below.refl _ _).alloc (by simp) _).alloc (by simp) _).alloc (by simp <;> omega) _)
  have k0_0 : (((w.alloc (.cells #[.bool q.num.g, .slice q.num.a q.num.n q.num.c, .bool q.den.g, .slice q.den.a q.den.n q.den.c] 29)).alloc (.cells #[.bool q'.num.g, .slice q'.num.a q'.num.n q'.num.c, .bool q'.den.g, .slice q'.den.a q'.den.n q'.den.c] 29)).alloc (.cells #[.bool false, .slice none 0 0, .bool false, .slice none 0 0] 29)).cell? ⟨w.heap.size, 0, none⟩ = some (.bool q.num.g) := by simp [go_sem]
  have k0_1 : (((w.alloc (.cells #[.bool q.num.g, .slice q.num.a q.num.n q.num.c, .bool q.den.g, .slice q.den.a q.den.n q.den.c] 29)).alloc (.cells #[.bool q'.num.g, .slice q'.num.a q'.num.n q'.num.c, .bool q'.den.g, .slice q'.den.a q'.den.n q'.den.c] 29)).alloc (.cells #[.bool false, .slice none 0 0, .bool false, .slice none 0 0] 29)).cell? ⟨w.heap.size, 1, none⟩ = some (.slice q.num.a q.num.n q.num.c) := by simp [go_sem]
  have k0_2 : (((w.alloc (.cells #[.bool q.num.g, .slice q.num.a q.num.n q.num.c, .bool q.den.g, .slice q.den.a q.den.n q.den.c] 29)).alloc (.cells #[.bool q'.num.g, .slice q'.num.a q'.num.n q'.num.c, .bool q'.den.g, .slice q'.den.a q'.den.n q'.den.c] 29)).alloc (.cells #[.bool false, .slice none 0 0, .bool false, .slice none 0 0] 29)).cell? ⟨w.heap.size, 2, none⟩ = some (.bool q.den.g) := by simp [go_sem]
  have k0_3 : (((w.alloc (.cells #[.bool q.num.g, .slice q.num.a q.num.n q.num.c, .bool q.den.g, .slice q.den.a q.den.n q.den.c] 29)).alloc (.cells #[.bool q'.num.g, .slice q'.num.a q'.num.n q'.num.c, .bool q'.den.g, .slice q'.den.a q'.den.n q'.den.c] 29)).alloc (.cells #[.bool false, .slice none 0 0, .bool false, .slice none 0 0] 29)).cell? ⟨w.heap.size, 3, none⟩ = some (.slice q.den.a q.den.n q.den.c) := by simp [go_sem]
  have k1_0 : (((w.alloc (.cells #[.bool q.num.g, .slice q.num.a q.num.n q.num.c, .bool q.den.g, .slice q.den.a q.den.n q.den.c] 29)).alloc (.cells #[.bool q'.num.g, .slice q'.num.a q'.num.n q'.num.c, .bool q'.den.g, .slice q'.den.a q'.den.n q'.den.c] 29)).alloc (.cells #[.bool false, .slice none 0 0, .bool false, .slice none 0 0] 29)).cell? ⟨w.heap.size + 1, 0, none⟩ = some (.bool q'.num.g) := by simp [go_sem]
  have k1_1 : (((w.alloc (.cells #[.bool q.num.g, .slice q.num.a q.num.n q.num.c, .bool q.den.g, .slice q.den.a q.den.n q.den.c] 29)).alloc (.cells #[.bool q'.num.g, .slice q'.num.a q'.num.n q'.num.c, .bool q'.den.g, .slice q'.den.a q'.den.n q'.den.c] 29)).alloc (.cells #[.bool false, .slice none 0 0, .bool false, .slice none 0 0] 29)).cell? ⟨w.heap.size + 1, 1, none⟩ = some (.slice q'.num.a q'.num.n q'.num.c) := by simp [go_sem]
  have k1_2 : (((w.alloc (.cells #[.bool q.num.g, .slice q.num.a q.num.n q.num.c, .bool q.den.g, .slice q.den.a q.den.n q.den.c] 29)).alloc (.cells #[.bool q'.num.g, .slice q'.num.a q'.num.n q'.num.c, .bool q'.den.g, .slice q'.den.a q'.den.n q'.den.c] 29)).alloc (.cells #[.bool false, .slice none 0 0, .bool false, .slice none 0 0] 29)).cell? ⟨w.heap.size + 1, 2, none⟩ = some (.bool q'.den.g) := by simp [go_sem]
  have k1_3 : (((w.alloc (.cells #[.bool q.num.g, .slice q.num.a q.num.n q.num.c, .bool q.den.g, .slice q.den.a q.den.n q.den.c] 29)).alloc (.cells #[.bool q'.num.g, .slice q'.num.a q'.num.n q'.num.c, .bool q'.den.g, .slice q'.den.a q'.den.n q'.den.c] 29)).alloc (.cells #[.bool false, .slice none 0 0, .bool false, .slice none 0 0] 29)).cell? ⟨w.heap.size + 1, 3, none⟩ = some (.slice q'.den.a q'.den.n q'.den.c) := by simp [go_sem]
  have k2_0 : (((w.alloc (.cells #[.bool q.num.g, .slice q.num.a q.num.n q.num.c, .bool q.den.g, .slice q.den.a q.den.n q.den.c] 29)).alloc (.cells #[.bool q'.num.g, .slice q'.num.a q'.num.n q'.num.c, .bool q'.den.g, .slice q'.den.a q'.den.n q'.den.c] 29)).alloc (.cells #[.bool false, .slice none 0 0, .bool false, .slice none 0 0] 29)).cell? ⟨w.heap.size + 1 + 1, 0, none⟩ = some (.bool false) := by simp [go_sem]
  have k2_1 : (((w.alloc (.cells #[.bool q.num.g, .slice q.num.a q.num.n q.num.c, .bool q.den.g, .slice q.den.a q.den.n q.den.c] 29)).alloc (.cells #[.bool q'.num.g, .slice q'.num.a q'.num.n q'.num.c, .bool q'.den.g, .slice q'.den.a q'.den.n q'.den.c] 29)).alloc (.cells #[.bool false, .slice none 0 0, .bool false, .slice none 0 0] 29)).cell? ⟨w.heap.size + 1 + 1, 1, none⟩ = some (.slice none 0 0) := by simp [go_sem]
  have k2_2 : (((w.alloc (.cells #[.bool q.num.g, .slice q.num.a q.num.n q.num.c, .bool q.den.g, .slice q.den.a q.den.n q.den.c] 29)).alloc (.cells #[.bool q'.num.g, .slice q'.num.a q'.num.n q'.num.c, .bool q'.den.g, .slice q'.den.a q'.den.n q'.den.c] 29)).alloc (.cells #[.bool false, .slice none 0 0, .bool false, .slice none 0 0] 29)).cell? ⟨w.heap.size + 1 + 1, 2, none⟩ = some (.bool false) := by simp [go_sem]
  have k2_3 : (((w.alloc (.cells #[.bool q.num.g, .slice q.num.a q.num.n q.num.c, .bool q.den.g, .slice q.den.a q.den.n q.den.c] 29)).alloc (.cells #[.bool q'.num.g, .slice q'.num.a q'.num.n q'.num.c, .bool q'.den.g, .slice q'.den.a q'.den.n q'.den.c] 29)).alloc (.cells #[.bool false, .slice none 0 0, .bool false, .slice none 0 0] 29)).cell? ⟨w.heap.size + 1 + 1, 3, none⟩ = some (.slice none 0 0) := by simp [go_sem]
  have z2 : ∀ o, (((w.alloc (.cells #[.bool q.num.g, .slice q.num.a q.num.n q.num.c, .bool q.den.g, .slice q.den.a q.den.n q.den.c] 29)).alloc (.cells #[.bool q'.num.g, .slice q'.num.a q'.num.n q'.num.c, .bool q'.den.g, .slice q'.den.a q'.den.n q'.den.c] 29)).alloc (.cells #[.bool false, .slice none 0 0, .bool false, .slice none 0 0] 29)).frozen? ⟨w.heap.size + 1 + 1, o, none⟩ = false := fun o => by simp [go_sem]
  have Q1 := hide ((unhide H1).later hb)
  have Q2 := hide ((unhide H2).later hb)
  have szw0 : w.heap.size + 3 ≤ (((w.alloc (.cells #[.bool q.num.g, .slice q.num.a q.num.n q.num.c, .bool q.den.g, .slice q.den.a q.den.n q.den.c] 29)).alloc (.cells #[.bool q'.num.g, .slice q'.num.a q'.num.n q'.num.c, .bool q'.den.g, .slice q'.den.a q'.den.n q'.den.c] 29)).alloc (.cells #[.bool false, .slice none 0 0, .bool false, .slice none 0 0] 29)).heap.size := by simp
  have HB := hide hb
  clear hb
  generalize (((w.alloc (.cells #[.bool q.num.g, .slice q.num.a q.num.n q.num.c, .bool q.den.g, .slice q.den.a q.den.n q.den.c] 29)).alloc (.cells #[.bool q'.num.g, .slice q'.num.a q'.num.n q'.num.c, .bool q'.den.g, .slice q'.den.a q'.den.n q'.den.c] 29)).alloc (.cells #[.bool false, .slice none 0 0, .bool false, .slice none 0 0] 29)) = w0 at *
  have ne0_2 : w.heap.size ≠ w.heap.size + 1 + 1 := by omega
  have ne1_2 : w.heap.size + 1 ≠ w.heap.size + 1 + 1 := by omega
  go_region_held3 (fun w' => w'.cell? ⟨w.heap.size, 0, none⟩ = some (.bool q.num.g) ∧ w'.cell? ⟨w.heap.size, 1, none⟩ = some (.slice q.num.a q.num.n q.num.c) ∧ w'.cell? ⟨w.heap.size, 2, none⟩ = some (.bool q.den.g) ∧ w'.cell? ⟨w.heap.size, 3, none⟩ = some (.slice q.den.a q.den.n q.den.c) ∧ w'.cell? ⟨w.heap.size + 1, 0, none⟩ = some (.bool q'.num.g) ∧ w'.cell? ⟨w.heap.size + 1, 1, none⟩ = some (.slice q'.num.a q'.num.n q'.num.c) ∧ w'.cell? ⟨w.heap.size + 1, 2, none⟩ = some (.bool q'.den.g) ∧ w'.cell? ⟨w.heap.size + 1, 3, none⟩ = some (.slice q'.den.a q'.den.n q'.den.c)) (with_reducible (first | exact ⟨k0_0, k0_1, k0_2, k0_3, k1_0, k1_1, k1_2, k1_3⟩ | exact ⟨cd_other k0_0, cd_other k0_1, cd_other k0_2, cd_other k0_3, cd_other k1_0, cd_other k1_1, cd_other k1_2, cd_other k1_3⟩ | exact ⟨cs_other (cs_other (cs_other (cs_other (k0_0) ne0_2) ne0_2) ne0_2) ne0_2, cs_other (cs_other (cs_other (cs_other (k0_1) ne0_2) ne0_2) ne0_2) ne0_2, cs_other (cs_other (cs_other (cs_other (k0_2) ne0_2) ne0_2) ne0_2) ne0_2, cs_other (cs_other (cs_other (cs_other (k0_3) ne0_2) ne0_2) ne0_2) ne0_2, cs_other (cs_other (cs_other (cs_other (k1_0) ne1_2) ne1_2) ne1_2) ne1_2, cs_other (cs_other (cs_other (cs_other (k1_1) ne1_2) ne1_2) ne1_2) ne1_2, cs_other (cs_other (cs_other (cs_other (k1_2) ne1_2) ne1_2) ne1_2) ne1_2, cs_other (cs_other (cs_other (cs_other (k1_3) ne1_2) ne1_2) ne1_2) ne1_2⟩ | fail))
    (first
    | (go_at_call_of 155 (Value.agg #[Value.bool q.num.g, Value.slice q.num.a q.num.n q.num.c]); refine (mulS_v q.num q'.den N D' _ ?_ ?_ (unhide K1) (unhide K4)).mono ?_; exact (unhide Q1).1.later (Below.refl _ _).drew; exact (unhide Q2).2.later (Below.refl _ _).drew; rintro e w1 ⟨x1, lx1, rfl, hb, ox1, ax1, nx1⟩; have hbx : Below w0.heap.size w0 w1 := below_of_drew hb; have szw1 := hbx.size; replace z2 := fun o => frozen_later hbx (World.block_lt_of_cell? _ _ k2_0) (z2 o); replace k0_0 := cell_later hbx k0_0; replace k0_1 := cell_later hbx k0_1; replace k0_2 := cell_later hbx k0_2; replace k0_3 := cell_later hbx k0_3; replace k1_0 := cell_later hbx k1_0; replace k1_1 := cell_later hbx k1_1; replace k1_2 := cell_later hbx k1_2; replace k1_3 := cell_later hbx k1_3; replace k2_0 := cell_later hbx k2_0; replace k2_1 := cell_later hbx k2_1; replace k2_2 := cell_later hbx k2_2; replace k2_3 := cell_later hbx k2_3; replace Q1 := hide ((unhide Q1).later hbx); replace Q2 := hide ((unhide Q2).later hbx); have Px1 := hide (outN_ow ox1 ax1 nx1); have HBr := hide hbx; clear hbx hb ox1 ax1 nx1)
    | (go_at_call_of 155 (Value.agg #[Value.bool q'.num.g, Value.slice q'.num.a q'.num.n q'.num.c]); refine (mulS_v q'.num q.den N' D _ ?_ ?_ (unhide K3) (unhide K2)).mono ?_; exact (unhide Q2).1.later (Below.refl _ _); exact (unhide Q1).2.later (Below.refl _ _); rintro e w2 ⟨x2, lx2, rfl, hb, ox2, ax2, nx2⟩; have hbx : Below w1.heap.size w1 w2 := hb; have szw2 := hbx.size; replace z2 := fun o => frozen_later hbx (World.block_lt_of_cell? _ _ k2_0) (z2 o); replace k0_0 := cell_later hbx k0_0; replace k0_1 := cell_later hbx k0_1; replace k0_2 := cell_later hbx k0_2; replace k0_3 := cell_later hbx k0_3; replace k1_0 := cell_later hbx k1_0; replace k1_1 := cell_later hbx k1_1; replace k1_2 := cell_later hbx k1_2; replace k1_3 := cell_later hbx k1_3; replace k2_0 := cell_later hbx k2_0; replace k2_1 := cell_later hbx k2_1; replace k2_2 := cell_later hbx k2_2; replace k2_3 := cell_later hbx k2_3; replace Q1 := hide ((unhide Q1).later hbx); replace Q2 := hide ((unhide Q2).later hbx); replace Px1 := hide ((unhide Px1).later hbx); have Px2 := hide (outN_ow ox2 ax2 nx2); have HBr := hide (below_on (unhide HBr) hbx); clear hbx hb ox2 ax2 nx2)
    | (go_at_call 156; refine (addS_v x1 x2 (N * D') (N' * D) _ ?_ ?_ (unhide BX).1 (unhide BX).2.1).mono ?_; exact (unhide Px1).is.later (Below.refl _ _); exact (unhide Px2).is.later (Below.refl _ _); rintro e w3 ⟨x3, lx3, rfl, hb, ox3, ax3, nx3⟩; have hbx : Below w2.heap.size w2 w3 := hb; have szw3 := hbx.size; replace z2 := fun o => frozen_later hbx (World.block_lt_of_cell? _ _ k2_0) (z2 o); replace k0_0 := cell_later hbx k0_0; replace k0_1 := cell_later hbx k0_1; replace k0_2 := cell_later hbx k0_2; replace k0_3 := cell_later hbx k0_3; replace k1_0 := cell_later hbx k1_0; replace k1_1 := cell_later hbx k1_1; replace k1_2 := cell_later hbx k1_2; replace k1_3 := cell_later hbx k1_3; replace k2_0 := cell_later hbx k2_0; replace k2_1 := cell_later hbx k2_1; replace k2_2 := cell_later hbx k2_2; replace k2_3 := cell_later hbx k2_3; replace Q1 := hide ((unhide Q1).later hbx); replace Q2 := hide ((unhide Q2).later hbx); replace Px1 := hide ((unhide Px1).later hbx); replace Px2 := hide ((unhide Px2).later hbx); have Px3 := hide (outN_ow ox3 ax3 nx3); have HBr := hide (below_on (unhide HBr) hbx); clear hbx hb ox3 ax3 nx3)
    | (go_at_call_of 155 (Value.agg #[Value.bool q.den.g, Value.slice q.den.a q.den.n q.den.c]); refine (mulS_v q.den q'.den D D' _ ?_ ?_ (unhide K2) (unhide K4)).mono ?_; exact (unhide Q1).2.later (Below.refl _ _); exact (unhide Q2).2.later (Below.refl _ _); rintro e w4 ⟨x4, lx4, rfl, hb, ox4, ax4, nx4⟩; have hbx : Below w3.heap.size w3 w4 := hb; have szw4 := hbx.size; replace z2 := fun o => frozen_later hbx (World.block_lt_of_cell? _ _ k2_0) (z2 o); replace k0_0 := cell_later hbx k0_0; replace k0_1 := cell_later hbx k0_1; replace k0_2 := cell_later hbx k0_2; replace k0_3 := cell_later hbx k0_3; replace k1_0 := cell_later hbx k1_0; replace k1_1 := cell_later hbx k1_1; replace k1_2 := cell_later hbx k1_2; replace k1_3 := cell_later hbx k1_3; replace k2_0 := cell_later hbx k2_0; replace k2_1 := cell_later hbx k2_1; replace k2_2 := cell_later hbx k2_2; replace k2_3 := cell_later hbx k2_3; replace Q1 := hide ((unhide Q1).later hbx); replace Q2 := hide ((unhide Q2).later hbx); replace Px1 := hide ((unhide Px1).later hbx); replace Px2 := hide ((unhide Px2).later hbx); replace Px3 := hide ((unhide Px3).later hbx); have Px4 := hide (outN_ow ox4 ax4 nx4); have HBr := hide (below_on (unhide HBr) hbx); clear hbx hb ox4 ax4 nx4)
    | (go_at_call 119; refine (lowS x3 x4 (N * D' + N' * D) (D * D') _ ?_ ?_ (unhide HD) ((unhide BX).2.2.1) ((unhide BX).2.2.2)).mono ?_; exact (unhide Px3).is.later (Below.refl _ _); exact (unhide Px4).is.later (Below.refl _ _); rintro e w5 ⟨r, rfl, hb, or1, or2⟩; have hbx : Below w4.heap.size w4 w5 := hb; have szw5 := hbx.size; replace z2 := fun o => frozen_later hbx (World.block_lt_of_cell? _ _ k2_0) (z2 o); replace k0_0 := cell_later hbx k0_0; replace k0_1 := cell_later hbx k0_1; replace k0_2 := cell_later hbx k0_2; replace k0_3 := cell_later hbx k0_3; replace k1_0 := cell_later hbx k1_0; replace k1_1 := cell_later hbx k1_1; replace k1_2 := cell_later hbx k1_2; replace k1_3 := cell_later hbx k1_3; replace k2_0 := cell_later hbx k2_0; replace k2_1 := cell_later hbx k2_1; replace k2_2 := cell_later hbx k2_2; replace k2_3 := cell_later hbx k2_3; replace Q1 := hide ((unhide Q1).later hbx); replace Q2 := hide ((unhide Q2).later hbx); replace Px1 := hide ((unhide Px1).later hbx); replace Px2 := hide ((unhide Px2).later hbx); replace Px3 := hide ((unhide Px3).later hbx); replace Px4 := hide ((unhide Px4).later hbx); have OR := hide (And.intro or1 or2); have HBr := hide (below_on (unhide HBr) hbx); clear hbx hb or1 or2))
  replace HB := hide (below_on (unhide HB) (unhide HBr))
  clear HBr
  go_wp2
  refine bodyPost_ret (v := .agg #[.bool r.num.g, .slice r.num.a r.num.n r.num.c, .bool r.den.g, .slice r.den.a r.den.n r.den.c]) (by simp [results, Tryz.results118, go_sem, k2_0, k2_1, k2_2, k2_3]) rfl ?_
  exact outQv_fin (q := r) (R := w.heap.size + 1 + 1) (by omega) (unhide HB) (metQ_but (w5 := w5) (v := r) (G := w.heap.size + 1 + 1)) ((unhide OR).1.wide (by omega) (Nat.le_refl _)) ((unhide OR).2.wide (by omega) (Nat.le_refl _))

end Go.Proofs.YthmpikagenodjaaGreat
namespace Go.Proofs.YthmpikagenodjaaGreat
open Go.RowKit
set_option linter.unusedVariables false
set_option maxRecDepth 100000
set_option linter.unusedSimpArgs false

theorem goodR_parts {g h : Bool} {xs us : List Int} (k : goodR g xs h us = true) : goodB g xs = true ∧ goodB h us = true := by
  unfold goodR at k
  rw [Bool.and_eq_true, Bool.and_eq_true] at k
  exact k.1
end Go.Proofs.YthmpikagenodjaaGreat
namespace Go.Proofs.YthmpikagenodjaaGreat
open Go.RowKit
set_option linter.unusedVariables false
set_option maxRecDepth 100000
set_option linter.unusedSimpArgs false

/-- A call answers a fraction and whether: what it leads to is its own. -/
def RetQ (w : World) (U : QD → Bool → Prop) (e : Ending) (w' : World) : Prop := ∃ (v : QV) (d : QD) (ok : Bool), e = .returned (.tuple #[.agg #[.bool v.num.g, .slice v.num.a v.num.n v.num.c, .bool v.den.g, .slice v.den.a v.den.n v.den.c], .bool ok]) ∧ Below w.heap.size w w' ∧ AllOwn w.heap.size w'.heap.size w' [(v.num, d.num), (v.den, d.den)] ∧ U d ok
theorem zeroQ (lo hi : Nat) (w : World) : AllOwn lo hi w [((⟨⟨false, none, 0, 0⟩, ⟨false, none, 0, 0⟩⟩ : QV).num, (⟨⟨false, []⟩, ⟨false, []⟩⟩ : QD).num), ((⟨⟨false, none, 0, 0⟩, ⟨false, none, 0, 0⟩⟩ : QV).den, (⟨⟨false, []⟩, ⟨false, []⟩⟩ : QD).den)] := ⟨fun p hp => by
  have hp : p = ((⟨false, none, 0, 0⟩ : BV), (⟨false, []⟩ : BD)) := by simpa using hp
  subst hp
  exact ⟨rfl, .inl rfl, rfl⟩, List.pairwise_cons.2 ⟨fun p hp => .inl rfl, List.pairwise_singleton _ _⟩⟩
/-- The answer N / D, where both fit; otherwise, and where P does not hold, the zero answer. -/
def AnsQ (P : Bool) (N D : Int) (d : QD) (ok : Bool) : Prop :=
  (P = true ∧ ∃ zs us, Nm zs N.natAbs ∧ Nm us D.natAbs ∧ ((zs.length ≤ 40 ∧ us.length ≤ 40 ∧ ok = true ∧ d = ⟨⟨decide (N < 0), zs⟩, ⟨decide (D < 0), us⟩⟩) ∨ (¬ (zs.length ≤ 40 ∧ us.length ≤ 40) ∧ ok = false ∧ d = (⟨⟨false, []⟩, ⟨false, []⟩⟩ : QD)))) ∨ (P = false ∧ ok = false ∧ d = (⟨⟨false, []⟩, ⟨false, []⟩⟩ : QD))
theorem AnsQ.same {P : Bool} {N D : Int} {d d' : QD} {ok ok' : Bool} (h : AnsQ P N D d ok) (k : AnsQ P N D d' ok') : d = d' ∧ ok = ok' := by
  rcases h with ⟨p, zs, us, h1, h2, h3⟩ | ⟨p, h1, h2⟩ <;> rcases k with ⟨p', zs', us', k1, k2, k3⟩ | ⟨p', k1, k2⟩
  · obtain rfl := h1.same k1
    obtain rfl := h2.same k2
    rcases h3 with ⟨a, b, c, e⟩ | ⟨a, c, e⟩ <;> rcases k3 with ⟨a', b', c', e'⟩ | ⟨a', c', e'⟩
    · exact ⟨e.trans e'.symm, c.trans c'.symm⟩
    · exact absurd ⟨a, b⟩ a'
    · exact absurd ⟨a', b'⟩ a
    · exact ⟨e.trans e'.symm, c.trans c'.symm⟩
  · rw [p] at p'; cases p'
  · rw [p] at p'; cases p'
  · exact ⟨h2.trans k2.symm, h1.trans k1.symm⟩
theorem AnsQ.lens {P : Bool} {N D : Int} {d : QD} {ok : Bool} (h : AnsQ P N D d ok) : d.num.xs.length ≤ 40 ∧ d.den.xs.length ≤ 40 := by
  rcases h with ⟨p, zs, us, h1, h2, ⟨a, b, c, rfl⟩ | ⟨a, c, rfl⟩⟩ | ⟨p, h1, rfl⟩
  · exact ⟨a, b⟩
  · exact ⟨by simp, by simp⟩
  · exact ⟨by simp, by simp⟩
theorem retQ_fin {w wN W : World} {R : Nat} {v : QV} {d : QD} {ok : Bool} {U : QD → Bool → Prop} (hR : w.heap.size ≤ R) (hb : Below w.heap.size w wN) (bt : But R (R + 1) wN W)
    (ho : AllOwn (R + 1) wN.heap.size wN [(v.num, d.num), (v.den, d.den)]) (hu : U d ok) : RetQ w U (.returned (.tuple #[.agg #[.bool v.num.g, .slice v.num.a v.num.n v.num.c, .bool v.den.g, .slice v.den.a v.den.n v.den.c], .bool ok])) W :=
  ⟨v, d, ok, rfl, bt.below hb hR hb.size, (own_fin bt ho (Nat.le_refl _)).wide (by omega) bt.size, hu⟩

set_option maxHeartbeats 1000000 in
theorem inL (q : QV) (m : Nat) (w : World) : Calls Tryz.prog 113 #[.agg #[.bool q.num.g, .slice q.num.a q.num.n q.num.c, .bool q.den.g, .slice q.den.a q.den.n q.den.c], .int .i64 (m : Nat)] w fun e w' => e = .returned (.bool (decide (q.num.n ≤ m) && decide (q.den.n ≤ m))) ∧ Below w.heap.size w w' := by
  have HB := hide (show ∀ o, Below w.heap.size w (w.alloc o) from fun o => (Below.refl _ _).alloc (Nat.le_refl _) _)
  by_cases c1 : q.num.n ≤ m
  · by_cases c2 : q.den.n ≤ m
    · rw [decide_eq_true c1, decide_eq_true c2]
      have b1 : (q.num.n : Int) ≤ (m : Int) := by omega
      have b2 : (q.den.n : Int) ≤ (m : Int) := by omega
      go_enter Tryz.func113, Tryz.ntmps113
      go_wp2
      go_ret
      exact ⟨rfl, unhide HB _⟩
    · rw [decide_eq_true c1, decide_eq_false c2]
      have b1 : (q.num.n : Int) ≤ (m : Int) := by omega
      have b2 : ¬ ((q.den.n : Int) ≤ (m : Int)) := by omega
      go_enter Tryz.func113, Tryz.ntmps113
      go_wp2
      go_ret
      exact ⟨rfl, unhide HB _⟩
  · rw [decide_eq_false c1]
    have b1 : ¬ ((q.num.n : Int) ≤ (m : Int)) := by omega
    go_enter Tryz.func113, Tryz.ntmps113
    go_wp2
    go_ret
    exact ⟨by simp, unhide HB _⟩
set_option maxHeartbeats 2000000 in
theorem fitsI (q : QV) (w : World) (hm : q.den.n ≤ maxLen) :
    Calls Tryz.prog 56 #[.agg #[.bool q.num.g, .slice q.num.a q.num.n q.num.c, .bool q.den.g, .slice q.den.a q.den.n q.den.c]] w fun e w' => e = .returned (.bool (decide (q.den.n ≠ 0 ∧ q.num.n ≤ 40 ∧ q.den.n ≤ 40))) ∧ Below w.heap.size w w' := by
  by_cases h0 : q.den.n = 0
  · have NO := hide (fun w1 => nought_any q.den.g q.den.a q.den.n q.den.c w1 hm)
    rw [show decide (q.den.n = 0) = true from by simp; omega] at NO
    rw [show decide (q.den.n ≠ 0 ∧ q.num.n ≤ 40 ∧ q.den.n ≤ 40) = false from decide_eq_false (by omega)]
    have HH := hide h0
    clear h0
    have B0 := hide (show Below w.heap.size w (w.alloc (.cells #[.bool q.num.g, .slice q.num.a q.num.n q.num.c, .bool q.den.g, .slice q.den.a q.den.n q.den.c] 29)) from ((Below.refl _ _).alloc (by simp) _))
    go_enter Tryz.func56, Tryz.ntmps56
    go_wp2_with fail
    refine (unhide NO _).mono ?_
    rintro e w1 ⟨rfl, hb⟩
    have HB := hide (below_on (unhide B0) hb)
    clear hb
    go_wp2
    go_ret
    exact ⟨rfl, unhide HB⟩
  · have NO := hide (fun w1 => nought_any q.den.g q.den.a q.den.n q.den.c w1 hm)
    rw [show decide (q.den.n = 0) = false from by simp; omega] at NO
    rw [show decide (q.den.n ≠ 0 ∧ q.num.n ≤ 40 ∧ q.den.n ≤ 40) = (decide (q.num.n ≤ 40) && decide (q.den.n ≤ 40)) from by rw [← Bool.decide_and]; exact decide_eq_decide.2 ⟨fun h => h.2, fun h => ⟨h0, h⟩⟩]
    have HH := hide h0
    clear h0
    have B0 := hide (show Below w.heap.size w (w.alloc (.cells #[.bool q.num.g, .slice q.num.a q.num.n q.num.c, .bool q.den.g, .slice q.den.a q.den.n q.den.c] 29)) from ((Below.refl _ _).alloc (by simp) _))
    go_enter Tryz.func56, Tryz.ntmps56
    go_wp2_with fail
    refine (unhide NO _).mono ?_
    rintro e w1 ⟨rfl, hb⟩
    have k0_0 : w1.cell? ⟨w.heap.size, 0, none⟩ = some (.bool q.num.g) := cell_later hb (by simp [go_sem])
    have k0_1 : w1.cell? ⟨w.heap.size, 1, none⟩ = some (.slice q.num.a q.num.n q.num.c) := cell_later hb (by simp [go_sem])
    have k0_2 : w1.cell? ⟨w.heap.size, 2, none⟩ = some (.bool q.den.g) := cell_later hb (by simp [go_sem])
    have k0_3 : w1.cell? ⟨w.heap.size, 3, none⟩ = some (.slice q.den.a q.den.n q.den.c) := cell_later hb (by simp [go_sem])
    have HB := hide (below_on (unhide B0) hb)
    clear hb
    go_wp2_with fail
    refine (inL q 40 _).mono ?_
    rintro e w2 ⟨rfl, hb⟩
    clear k0_0 k0_1 k0_2 k0_3
    replace HB := hide (below_on (unhide HB) hb)
    clear hb
    go_wp2
    go_ret
    exact ⟨rfl, unhide HB⟩

def gQ (d : QD) : Bool := goodR d.num.g d.num.xs d.den.g d.den.xs
def nQ (d : QD) : Int := sv d.num.g d.num.xs
def dQ (d : QD) : Int := sv d.den.g d.den.xs
theorem goodQI (q : QV) (d : QD) (w : World) (h : AllAr w [(q.num, d.num), (q.den, d.den)]) : Calls Tryz.prog 126 #[.agg #[.bool q.num.g, .slice q.num.a q.num.n q.num.c, .bool q.den.g, .slice q.den.a q.den.n q.den.c]] w fun e w' => e = .returned (.bool (gQ d)) ∧ Below w.heap.size w w' := by
  have := goodRI_any ⟨q.num.g, q.num.a, q.num.n, q.num.c, q.den.g, q.den.a, q.den.n, q.den.c⟩ d.num.xs d.den.xs w h.head.ar h.tail.head.ar
  simp only at this
  rw [h.head.sg, h.tail.head.sg] at this
  rw [h.head.sg, h.tail.head.sg]
  exact this
theorem goodQS (q : QV) (d : QD) (w : World) (h : AllAr w [(q.num, d.num), (q.den, d.den)]) : Calls Tryz.prog 139 #[.agg #[.bool q.num.g, .slice q.num.a q.num.n q.num.c, .bool q.den.g, .slice q.den.a q.den.n q.den.c]] w fun e w' => e = .returned (.bool (gQ d)) ∧ Below w.heap.size w w' := by
  have := goodRS_any ⟨q.num.g, q.num.a, q.num.n, q.num.c, q.den.g, q.den.a, q.den.n, q.den.c⟩ d.num.xs d.den.xs w h.head.ar h.tail.head.ar
  simp only at this
  rw [h.head.sg, h.tail.head.sg] at this
  rw [h.head.sg, h.tail.head.sg]
  exact this
/-- A good fraction reads as what it says; its denominator is above 0. -/
structure IsGood (w : World) (q : QV) (d : QD) : Prop where
  is : IsQ w q (nQ d) (dQ d)
  kn : Bd (nQ d) 40
  kd : Bd (dQ d) 40
  pos : 0 < dQ d
  low : Nat.gcd (nQ d).natAbs (dQ d).natAbs = 1
theorem IsGood.later {w w' : World} {q : QV} {d : QD} (h : IsGood w q d) (hb : Below w.heap.size w w') : IsGood w' q d := ⟨h.is.later hb, h.kn, h.kd, h.pos, h.low⟩

set_option maxHeartbeats 4000000 in
theorem fitsQS (q : QV) (N D : Int) (w : World) (h : IsQ w q N D) (hD : 0 < D) :
    Calls Tryz.prog 58 #[.agg #[.bool q.num.g, .slice q.num.a q.num.n q.num.c, .bool q.den.g, .slice q.den.a q.den.n q.den.c]] w (RetQ w (AnsQ true N D)) := by
  obtain ⟨⟨xs, a1, n1⟩, ⟨us, a2, n2⟩⟩ := h
  have X1 := hide a1.ar
  have X2 := hide a2.ar
  have SG : Hid (sU q.num.g (N.natAbs : Int) = N ∧ sU false (D.natAbs : Int) = D) := hide ⟨by rw [a1.sg]; unfold sU; by_cases e : N < 0 <;> simp [e] <;> omega, by unfold sU; simp; omega⟩
  have VV : Hid (N.natAbs = N.natAbs ∧ D.natAbs = D.natAbs) := hide ⟨rfl, rfl⟩
  have LL : Hid (xs.length = q.num.n ∧ us.length = q.den.n) := hide ⟨a1.ar.len, a2.ar.len⟩
  have N1 := hide n1
  have N2 := hide n2
  clear a1 a2 n1 n2
  by_cases hf : q.num.n ≤ 40 ∧ q.den.n ≤ 40
  · have t1 : decide ((40 : Int) < (q.num.n : Int)) = false := by simp; omega
    have t2 : decide ((40 : Int) < (q.den.n : Int)) = false := by simp; omega
    have l1 : q.num.n ≤ 1048576 := by omega
    have l2 : q.den.n ≤ 1048576 := by omega
    have HF := hide hf
    clear hf
    go_enter Tryz.func58, Tryz.ntmps58
    go_upto_region 3 with fail
    have hb : Below w.heap.size w ((w.alloc (.cells #[.bool q.num.g, .slice q.num.a q.num.n q.num.c, .bool q.den.g, .slice q.den.a q.den.n q.den.c] 29)).alloc (.cells #[.bool false, .slice none 0 0, .bool false, .slice none 0 0] 29)) := (((Below.refl _ _).alloc (by simp) _).alloc (by simp) _)
    have k0_0 : ((w.alloc (.cells #[.bool q.num.g, .slice q.num.a q.num.n q.num.c, .bool q.den.g, .slice q.den.a q.den.n q.den.c] 29)).alloc (.cells #[.bool false, .slice none 0 0, .bool false, .slice none 0 0] 29)).cell? ⟨w.heap.size, 0, none⟩ = some (.bool q.num.g) := by simp [go_sem]
    have k0_1 : ((w.alloc (.cells #[.bool q.num.g, .slice q.num.a q.num.n q.num.c, .bool q.den.g, .slice q.den.a q.den.n q.den.c] 29)).alloc (.cells #[.bool false, .slice none 0 0, .bool false, .slice none 0 0] 29)).cell? ⟨w.heap.size, 1, none⟩ = some (.slice q.num.a q.num.n q.num.c) := by simp [go_sem]
    have k0_3 : ((w.alloc (.cells #[.bool q.num.g, .slice q.num.a q.num.n q.num.c, .bool q.den.g, .slice q.den.a q.den.n q.den.c] 29)).alloc (.cells #[.bool false, .slice none 0 0, .bool false, .slice none 0 0] 29)).cell? ⟨w.heap.size, 3, none⟩ = some (.slice q.den.a q.den.n q.den.c) := by simp [go_sem]
    have k1_0 : ((w.alloc (.cells #[.bool q.num.g, .slice q.num.a q.num.n q.num.c, .bool q.den.g, .slice q.den.a q.den.n q.den.c] 29)).alloc (.cells #[.bool false, .slice none 0 0, .bool false, .slice none 0 0] 29)).cell? ⟨w.heap.size + 1, 0, none⟩ = some (.bool false) := by simp [go_sem]
    have k1_1 : ((w.alloc (.cells #[.bool q.num.g, .slice q.num.a q.num.n q.num.c, .bool q.den.g, .slice q.den.a q.den.n q.den.c] 29)).alloc (.cells #[.bool false, .slice none 0 0, .bool false, .slice none 0 0] 29)).cell? ⟨w.heap.size + 1, 1, none⟩ = some (.slice none 0 0) := by simp [go_sem]
    have k1_2 : ((w.alloc (.cells #[.bool q.num.g, .slice q.num.a q.num.n q.num.c, .bool q.den.g, .slice q.den.a q.den.n q.den.c] 29)).alloc (.cells #[.bool false, .slice none 0 0, .bool false, .slice none 0 0] 29)).cell? ⟨w.heap.size + 1, 2, none⟩ = some (.bool false) := by simp [go_sem]
    have k1_3 : ((w.alloc (.cells #[.bool q.num.g, .slice q.num.a q.num.n q.num.c, .bool q.den.g, .slice q.den.a q.den.n q.den.c] 29)).alloc (.cells #[.bool false, .slice none 0 0, .bool false, .slice none 0 0] 29)).cell? ⟨w.heap.size + 1, 3, none⟩ = some (.slice none 0 0) := by simp [go_sem]
    have z1 : ∀ o, ((w.alloc (.cells #[.bool q.num.g, .slice q.num.a q.num.n q.num.c, .bool q.den.g, .slice q.den.a q.den.n q.den.c] 29)).alloc (.cells #[.bool false, .slice none 0 0, .bool false, .slice none 0 0] 29)).frozen? ⟨w.heap.size + 1, o, none⟩ = false := fun o => by simp [go_sem]
    have A1 := hide ((unhide X1).later hb)
    have A2 := hide ((unhide X2).later hb)
    have szw0 : w.heap.size + 2 ≤ ((w.alloc (.cells #[.bool q.num.g, .slice q.num.a q.num.n q.num.c, .bool q.den.g, .slice q.den.a q.den.n q.den.c] 29)).alloc (.cells #[.bool false, .slice none 0 0, .bool false, .slice none 0 0] 29)).heap.size := by simp
    have HB := hide hb
    clear hb
    generalize ((w.alloc (.cells #[.bool q.num.g, .slice q.num.a q.num.n q.num.c, .bool q.den.g, .slice q.den.a q.den.n q.den.c] 29)).alloc (.cells #[.bool false, .slice none 0 0, .bool false, .slice none 0 0] 29)) = w0 at *
    have ne0_1 : w.heap.size ≠ w.heap.size + 1 := by omega
    go_region_held3 (fun w' => w'.cell? ⟨w.heap.size, 0, none⟩ = some (.bool q.num.g) ∧ w'.cell? ⟨w.heap.size, 1, none⟩ = some (.slice q.num.a q.num.n q.num.c) ∧ w'.cell? ⟨w.heap.size, 3, none⟩ = some (.slice q.den.a q.den.n q.den.c)) (with_reducible (first | exact ⟨k0_0, k0_1, k0_3⟩ | exact ⟨cd_other k0_0, cd_other k0_1, cd_other k0_3⟩ | exact ⟨cs_other (cs_other (cs_other (cs_other (k0_0) ne0_1) ne0_1) ne0_1) ne0_1, cs_other (cs_other (cs_other (cs_other (k0_1) ne0_1) ne0_1) ne0_1) ne0_1, cs_other (cs_other (cs_other (cs_other (k0_3) ne0_1) ne0_1) ne0_1) ne0_1⟩ | fail))
      (first
      | (go_at_call_of 114 (Value.bool q.num.g); refine (makeS_v _ q.num.a q.num.n q.num.c xs _ _ ?_ (unhide N1) l1).mono ?_; exact (unhide A1).later (Below.refl _ _).drew; rintro e w1 ⟨x1, rfl, hb, ow1, ar1⟩; have hbx : Below w0.heap.size w0 w1 := below_of_drew hb; have szw1 := hbx.size; replace z1 := fun o => frozen_later hbx (World.block_lt_of_cell? _ _ k1_0) (z1 o); replace k0_0 := cell_later hbx k0_0; replace k0_1 := cell_later hbx k0_1; replace k0_3 := cell_later hbx k0_3; replace k1_0 := cell_later hbx k1_0; replace k1_1 := cell_later hbx k1_1; replace k1_2 := cell_later hbx k1_2; replace k1_3 := cell_later hbx k1_3; replace A1 := hide ((unhide A1).later hbx); replace A2 := hide ((unhide A2).later hbx); have eo := unhide SG; rw [eo.1] at ow1 ar1; replace ow1 : AllOwn w0.heap.size w1.heap.size w1 [(x1, ⟨decide (N < 0), xs⟩)] := ow1; clear ar1 eo; have O1 := hide (ow1); have HBr := hide hbx; clear hbx hb ow1)
      | (go_at_call_of 114 (Value.bool false); refine (makeS_v false q.den.a q.den.n q.den.c us _ _ ?_ (unhide N2) l2).mono ?_; exact (unhide A2).later (Below.refl _ _); rintro e w2 ⟨x2, rfl, hb, ow2, ar2⟩; have hbx : Below w1.heap.size w1 w2 := hb; have szw2 := hbx.size; replace z1 := fun o => frozen_later hbx (World.block_lt_of_cell? _ _ k1_0) (z1 o); replace k0_0 := cell_later hbx k0_0; replace k0_1 := cell_later hbx k0_1; replace k0_3 := cell_later hbx k0_3; replace k1_0 := cell_later hbx k1_0; replace k1_1 := cell_later hbx k1_1; replace k1_2 := cell_later hbx k1_2; replace k1_3 := cell_later hbx k1_3; replace A1 := hide ((unhide A1).later hbx); replace A2 := hide ((unhide A2).later hbx); replace O1 := hide ((unhide O1).later hbx); rw [(unhide SG).2] at ow2; clear ar2; have O2 := hide (ow2); have HBr := hide (below_on (unhide HBr) hbx); clear hbx hb ow2))
    replace HB := hide (below_on (unhide HB) (unhide HBr))
    clear HBr
    have OO := hide (((unhide O1).join (unhide O2) (by omega) (by omega)).wide (lo' := w.heap.size + 1 + 1) (hi' := w2.heap.size) (by omega) (by omega))
    go_wp2
    refine bodyPost_ret (v := .tuple #[.agg #[.bool x1.g, .slice x1.a x1.n x1.c, .bool x2.g, .slice x2.a x2.n x2.c], .bool true]) (by simp [results, Tryz.results58, go_sem, k1_0, k1_1, k1_2, k1_3]) rfl ?_
    exact retQ_fin (v := ⟨x1, x2⟩) (d := ⟨⟨decide (N < 0), xs⟩, ⟨decide (D < 0), us⟩⟩) (R := w.heap.size + 1) (by omega) (unhide HB) (metQ_but (w5 := w2) (v := ⟨x1, x2⟩) (G := w.heap.size + 1)) (unhide OO) (.inl ⟨rfl, xs, us, unhide N1, unhide N2, .inl ⟨(unhide LL).1 ▸ (unhide HF).1, (unhide LL).2 ▸ (unhide HF).2, rfl, rfl⟩⟩)
  by_cases h1 : 40 < q.num.n
  · have t1 : decide ((40 : Int) < (q.num.n : Int)) = true := by simp; omega
    have HF := hide hf
    clear hf
    have HB := hide (show Below w.heap.size w ((w.alloc (.cells #[.bool q.num.g, .slice q.num.a q.num.n q.num.c, .bool q.den.g, .slice q.den.a q.den.n q.den.c] 29)).alloc (.cells #[.bool false, .slice none 0 0, .bool false, .slice none 0 0] 29)) from (((Below.refl _ _).alloc (by simp) _).alloc (by simp) _))
    go_enter Tryz.func58, Tryz.ntmps58
    go_wp2
    refine bodyPost_ret (v := .tuple #[.agg #[.bool false, .slice none 0 0, .bool false, .slice none 0 0], .bool false]) (by simp [results, Tryz.results58, go_sem]) rfl ?_
    exact ⟨(⟨⟨false, none, 0, 0⟩, ⟨false, none, 0, 0⟩⟩ : QV), (⟨⟨false, []⟩, ⟨false, []⟩⟩ : QD), false, rfl, unhide HB, zeroQ _ _ _, .inl ⟨rfl, xs, us, unhide N1, unhide N2, .inr ⟨by rw [(unhide LL).1, (unhide LL).2]; have := unhide HF; omega, rfl, rfl⟩⟩⟩
  · have t1 : decide ((40 : Int) < (q.num.n : Int)) = false := by simp; omega
    have t2 : decide ((40 : Int) < (q.den.n : Int)) = true := by simp; omega
    have HF := hide hf
    clear hf
    have HB := hide (show Below w.heap.size w ((w.alloc (.cells #[.bool q.num.g, .slice q.num.a q.num.n q.num.c, .bool q.den.g, .slice q.den.a q.den.n q.den.c] 29)).alloc (.cells #[.bool false, .slice none 0 0, .bool false, .slice none 0 0] 29)) from (((Below.refl _ _).alloc (by simp) _).alloc (by simp) _))
    go_enter Tryz.func58, Tryz.ntmps58
    go_wp2
    refine bodyPost_ret (v := .tuple #[.agg #[.bool false, .slice none 0 0, .bool false, .slice none 0 0], .bool false]) (by simp [results, Tryz.results58, go_sem]) rfl ?_
    exact ⟨(⟨⟨false, none, 0, 0⟩, ⟨false, none, 0, 0⟩⟩ : QV), (⟨⟨false, []⟩, ⟨false, []⟩⟩ : QD), false, rfl, unhide HB, zeroQ _ _ _, .inl ⟨rfl, xs, us, unhide N1, unhide N2, .inr ⟨by rw [(unhide LL).1, (unhide LL).2]; have := unhide HF; omega, rfl, rfl⟩⟩⟩

end Go.Proofs.YthmpikagenodjaaGreat
