/- Fractions compared: the program's compareRats and the specification's l2Cmp. No condition beyond those typed. -/
import Derived.Test.YtdgonpbponnnaaaGreatDoorRatH
import Derived.Test.YtdgonpbponnnaaaGreatDoorMulSg
namespace Go.Proofs.YtdgonpbponnnaaaGreatDoor
open Go.RowKit
set_option linter.unusedVariables false
set_option maxRecDepth 100000
set_option linter.unusedSimpArgs false

/-- A call compares the numbers A and B. -/
def OutC (w : World) (A B : Int) (e : Ending) (w' : World) : Prop := ∃ ts us, Nm ts A.natAbs ∧ Nm us B.natAbs ∧ e = .returned (.int .i64 (cmpB (decide (A < 0)) ts (decide (B < 0)) us)) ∧ Below w.heap.size w w'

set_option maxHeartbeats 4000000 in
theorem cmpRI_any (r r' : RV) (xs us ys vs : List Int) (w : World) (n1 : Num w r.a r.n r.c xs) (n2 : Num w r.b r.p r.d us) (n3 : Num w r'.a r'.n r'.c ys) (n4 : Num w r'.b r'.p r'.d vs) (l1 : r.n ≤ 40) (l2 : r.p ≤ 40) (l3 : r'.n ≤ 40) (l4 : r'.p ≤ 40) :
    Calls Tryz.prog 39 #[.agg #[.bool r.g, .slice r.a r.n r.c, .bool r.h, .slice r.b r.p r.d], .agg #[.bool r'.g, .slice r'.a r'.n r'.c, .bool r'.h, .slice r'.b r'.p r'.d]] w (OutC w (sv r.g xs * sv r'.h vs) (sv r'.g ys * sv r.h us)) := by
  have N1 := hide n1
  have N2 := hide n2
  have N3 := hide n3
  have N4 := hide n4
  clear n1 n2 n3 n4
  have BA := hide (below_two w (.cells #[.bool r.g, .slice r.a r.n r.c, .bool r.h, .slice r.b r.p r.d] 27) (.cells #[.bool r'.g, .slice r'.a r'.n r'.c, .bool r'.h, .slice r'.b r'.p r'.d] 27))
  go_enter Tryz.func39, Tryz.ntmps39
  go_upto_region 1 with fail
  obtain ⟨wA, hwA⟩ : ∃ wA, wA = ((w.alloc (.cells #[.bool r.g, .slice r.a r.n r.c, .bool r.h, .slice r.b r.p r.d] 27)).alloc (.cells #[.bool r'.g, .slice r'.a r'.n r'.c, .bool r'.h, .slice r'.b r'.p r'.d] 27)) := ⟨_, rfl⟩
  have k0 : wA.cell? ⟨w.heap.size, 0, none⟩ = some (.bool r.g) := by rw [hwA]; simp [go_sem]
  have k1 : wA.cell? ⟨w.heap.size, 1, none⟩ = some (.slice r.a r.n r.c) := by rw [hwA]; simp [go_sem]
  have k2 : wA.cell? ⟨w.heap.size, 2, none⟩ = some (.bool r.h) := by rw [hwA]; simp [go_sem]
  have k3 : wA.cell? ⟨w.heap.size, 3, none⟩ = some (.slice r.b r.p r.d) := by rw [hwA]; simp [go_sem]
  have k4 : wA.cell? ⟨w.heap.size + 1, 0, none⟩ = some (.bool r'.g) := by rw [hwA]; simp [go_sem]
  have k5 : wA.cell? ⟨w.heap.size + 1, 1, none⟩ = some (.slice r'.a r'.n r'.c) := by rw [hwA]; simp [go_sem]
  have k6 : wA.cell? ⟨w.heap.size + 1, 2, none⟩ = some (.bool r'.h) := by rw [hwA]; simp [go_sem]
  have k7 : wA.cell? ⟨w.heap.size + 1, 3, none⟩ = some (.slice r'.b r'.p r'.d) := by rw [hwA]; simp [go_sem]
  rw [← hwA] at BA ⊢
  clear hwA
  go_region_held3 (fun w' => w'.cell? ⟨w.heap.size, 0, none⟩ = some (.bool r.g) ∧ w'.cell? ⟨w.heap.size, 1, none⟩ = some (.slice r.a r.n r.c) ∧ w'.cell? ⟨w.heap.size, 2, none⟩ = some (.bool r.h) ∧ w'.cell? ⟨w.heap.size, 3, none⟩ = some (.slice r.b r.p r.d) ∧ w'.cell? ⟨w.heap.size + 1, 0, none⟩ = some (.bool r'.g) ∧ w'.cell? ⟨w.heap.size + 1, 1, none⟩ = some (.slice r'.a r'.n r'.c) ∧ w'.cell? ⟨w.heap.size + 1, 2, none⟩ = some (.bool r'.h) ∧ w'.cell? ⟨w.heap.size + 1, 3, none⟩ = some (.slice r'.b r'.p r'.d)) (refine ⟨?_, ?_, ?_, ?_, ?_, ?_, ?_, ?_⟩ <;> assumption)
    (first
    | (go_at_call_of 65 (Value.agg #[Value.bool r.g, Value.slice r.a r.n r.c]); refine (mulSgI_any r.g r'.h r.a r'.b r.n r'.p r.c r'.d xs vs _ ?_ ?_ (by omega) (by omega)).mono ?_; exact ((unhide N1).later (unhide BA)).later (Below.refl _ _).drew; exact ((unhide N4).later (unhide BA)).later (Below.refl _ _).drew; rintro e w3 ⟨a3, m3, c3, zs3, rfl, hb3', ho3, ha3, hn3⟩; have hb3 := below_of_drew hb3'; have p0 : w3.cell? ⟨w.heap.size, 0, none⟩ = some (.bool r.g) := cell_later hb3 k0; have p1 : w3.cell? ⟨w.heap.size, 1, none⟩ = some (.slice r.a r.n r.c) := cell_later hb3 k1; have p2 : w3.cell? ⟨w.heap.size, 2, none⟩ = some (.bool r.h) := cell_later hb3 k2; have p3 : w3.cell? ⟨w.heap.size, 3, none⟩ = some (.slice r.b r.p r.d) := cell_later hb3 k3; have p4 : w3.cell? ⟨w.heap.size + 1, 0, none⟩ = some (.bool r'.g) := cell_later hb3 k4; have p5 : w3.cell? ⟨w.heap.size + 1, 1, none⟩ = some (.slice r'.a r'.n r'.c) := cell_later hb3 k5; have p6 : w3.cell? ⟨w.heap.size + 1, 2, none⟩ = some (.bool r'.h) := cell_later hb3 k6; have p7 : w3.cell? ⟨w.heap.size + 1, 3, none⟩ = some (.slice r'.b r'.p r'.d) := cell_later hb3 k7; have B3 := hide (below_on (unhide BA) hb3); have H3 := hide (And.intro ha3 hn3); clear hb3 hb3' ho3 ha3 hn3)
    | (go_at_call_of 65 (Value.agg #[Value.bool r'.g, Value.slice r'.a r'.n r'.c]); refine (mulSgI_any r'.g r.h r'.a r.b r'.n r.p r'.c r.d ys us _ ?_ ?_ (by omega) (by omega)).mono ?_; exact (unhide N3).later (unhide B3); exact (unhide N2).later (unhide B3); rintro e w4 ⟨a4, m4, c4, zs4, rfl, hb4, ho4, ha4, hn4⟩; have q0 : w4.cell? ⟨w.heap.size, 0, none⟩ = some (.bool r.g) := cell_later hb4 p0; have q1 : w4.cell? ⟨w.heap.size, 1, none⟩ = some (.slice r.a r.n r.c) := cell_later hb4 p1; have q2 : w4.cell? ⟨w.heap.size, 2, none⟩ = some (.bool r.h) := cell_later hb4 p2; have q3 : w4.cell? ⟨w.heap.size, 3, none⟩ = some (.slice r.b r.p r.d) := cell_later hb4 p3; have q4 : w4.cell? ⟨w.heap.size + 1, 0, none⟩ = some (.bool r'.g) := cell_later hb4 p4; have q5 : w4.cell? ⟨w.heap.size + 1, 1, none⟩ = some (.slice r'.a r'.n r'.c) := cell_later hb4 p5; have q6 : w4.cell? ⟨w.heap.size + 1, 2, none⟩ = some (.bool r'.h) := cell_later hb4 p6; have q7 : w4.cell? ⟨w.heap.size + 1, 3, none⟩ = some (.slice r'.b r'.p r'.d) := cell_later hb4 p7; have B4 := hide (below_on (unhide B3) hb4); have H34 := hide (And.intro ((unhide H3).1.later hb4) (unhide H3).2); have H4 := hide (And.intro ha4 hn4); clear hb4 ho4 ha4 hn4)
    | (go_at_call 73; refine (cmpBI_any _ _ a3 a4 m3 m4 c3 c4 zs3 zs4 _ (unhide H34).1.sl (unhide H4).1.sl (unhide H34).1.len (unhide H4).1.len (Nat.le_trans (unhide H34).1.cap (unhide H34).1.top) (Nat.le_trans (unhide H4).1.cap (unhide H4).1.top)).mono ?_; rintro e w5 ⟨rfl, hb5⟩; have t0 : w5.cell? ⟨w.heap.size, 0, none⟩ = some (.bool r.g) := cell_later hb5 q0; have t1 : w5.cell? ⟨w.heap.size, 1, none⟩ = some (.slice r.a r.n r.c) := cell_later hb5 q1; have t2 : w5.cell? ⟨w.heap.size, 2, none⟩ = some (.bool r.h) := cell_later hb5 q2; have t3 : w5.cell? ⟨w.heap.size, 3, none⟩ = some (.slice r.b r.p r.d) := cell_later hb5 q3; have t4 : w5.cell? ⟨w.heap.size + 1, 0, none⟩ = some (.bool r'.g) := cell_later hb5 q4; have t5 : w5.cell? ⟨w.heap.size + 1, 1, none⟩ = some (.slice r'.a r'.n r'.c) := cell_later hb5 q5; have t6 : w5.cell? ⟨w.heap.size + 1, 2, none⟩ = some (.bool r'.h) := cell_later hb5 q6; have t7 : w5.cell? ⟨w.heap.size + 1, 3, none⟩ = some (.slice r'.b r'.p r'.d) := cell_later hb5 q7; have B5 := hide (below_on (unhide B4) hb5); clear hb5))
  go_wp2
  go_ret
  exact ⟨zs3, zs4, (unhide H34).2, (unhide H4).2, rfl, unhide B5⟩

set_option maxHeartbeats 4000000 in
theorem cmpRS_any (r r' : RV) (xs us ys vs : List Int) (w : World) (n1 : Num w r.a r.n r.c xs) (n2 : Num w r.b r.p r.d us) (n3 : Num w r'.a r'.n r'.c ys) (n4 : Num w r'.b r'.p r'.d vs) (l1 : r.n ≤ 40) (l2 : r.p ≤ 40) (l3 : r'.n ≤ 40) (l4 : r'.p ≤ 40) :
    Calls Tryz.prog 41 #[.agg #[.bool r.g, .slice r.a r.n r.c, .bool r.h, .slice r.b r.p r.d], .agg #[.bool r'.g, .slice r'.a r'.n r'.c, .bool r'.h, .slice r'.b r'.p r'.d]] w (OutC w (sv r.g xs * sv r'.h vs) (sv r'.g ys * sv r.h us)) := by
  have N1 := hide n1
  have N2 := hide n2
  have N3 := hide n3
  have N4 := hide n4
  clear n1 n2 n3 n4
  have BA := hide (below_two w (.cells #[.bool r.g, .slice r.a r.n r.c, .bool r.h, .slice r.b r.p r.d] 27) (.cells #[.bool r'.g, .slice r'.a r'.n r'.c, .bool r'.h, .slice r'.b r'.p r'.d] 27))
  go_enter Tryz.func41, Tryz.ntmps41
  go_upto_region 1 with fail
  obtain ⟨wA, hwA⟩ : ∃ wA, wA = ((w.alloc (.cells #[.bool r.g, .slice r.a r.n r.c, .bool r.h, .slice r.b r.p r.d] 27)).alloc (.cells #[.bool r'.g, .slice r'.a r'.n r'.c, .bool r'.h, .slice r'.b r'.p r'.d] 27)) := ⟨_, rfl⟩
  have k0 : wA.cell? ⟨w.heap.size, 0, none⟩ = some (.bool r.g) := by rw [hwA]; simp [go_sem]
  have k1 : wA.cell? ⟨w.heap.size, 1, none⟩ = some (.slice r.a r.n r.c) := by rw [hwA]; simp [go_sem]
  have k2 : wA.cell? ⟨w.heap.size, 2, none⟩ = some (.bool r.h) := by rw [hwA]; simp [go_sem]
  have k3 : wA.cell? ⟨w.heap.size, 3, none⟩ = some (.slice r.b r.p r.d) := by rw [hwA]; simp [go_sem]
  have k4 : wA.cell? ⟨w.heap.size + 1, 0, none⟩ = some (.bool r'.g) := by rw [hwA]; simp [go_sem]
  have k5 : wA.cell? ⟨w.heap.size + 1, 1, none⟩ = some (.slice r'.a r'.n r'.c) := by rw [hwA]; simp [go_sem]
  have k6 : wA.cell? ⟨w.heap.size + 1, 2, none⟩ = some (.bool r'.h) := by rw [hwA]; simp [go_sem]
  have k7 : wA.cell? ⟨w.heap.size + 1, 3, none⟩ = some (.slice r'.b r'.p r'.d) := by rw [hwA]; simp [go_sem]
  rw [← hwA] at BA ⊢
  clear hwA
  go_region_held3 (fun w' => w'.cell? ⟨w.heap.size, 0, none⟩ = some (.bool r.g) ∧ w'.cell? ⟨w.heap.size, 1, none⟩ = some (.slice r.a r.n r.c) ∧ w'.cell? ⟨w.heap.size, 2, none⟩ = some (.bool r.h) ∧ w'.cell? ⟨w.heap.size, 3, none⟩ = some (.slice r.b r.p r.d) ∧ w'.cell? ⟨w.heap.size + 1, 0, none⟩ = some (.bool r'.g) ∧ w'.cell? ⟨w.heap.size + 1, 1, none⟩ = some (.slice r'.a r'.n r'.c) ∧ w'.cell? ⟨w.heap.size + 1, 2, none⟩ = some (.bool r'.h) ∧ w'.cell? ⟨w.heap.size + 1, 3, none⟩ = some (.slice r'.b r'.p r'.d)) (refine ⟨?_, ?_, ?_, ?_, ?_, ?_, ?_, ?_⟩ <;> assumption)
    (first
    | (go_at_call_of 69 (Value.agg #[Value.bool r.g, Value.slice r.a r.n r.c]); refine (mulSgS_any r.g r'.h r.a r'.b r.n r'.p r.c r'.d xs vs _ ?_ ?_ (by omega) (by omega)).mono ?_; exact ((unhide N1).later (unhide BA)).later (Below.refl _ _).drew; exact ((unhide N4).later (unhide BA)).later (Below.refl _ _).drew; rintro e w3 ⟨a3, m3, c3, zs3, rfl, hb3', ho3, ha3, hn3⟩; have hb3 := below_of_drew hb3'; have p0 : w3.cell? ⟨w.heap.size, 0, none⟩ = some (.bool r.g) := cell_later hb3 k0; have p1 : w3.cell? ⟨w.heap.size, 1, none⟩ = some (.slice r.a r.n r.c) := cell_later hb3 k1; have p2 : w3.cell? ⟨w.heap.size, 2, none⟩ = some (.bool r.h) := cell_later hb3 k2; have p3 : w3.cell? ⟨w.heap.size, 3, none⟩ = some (.slice r.b r.p r.d) := cell_later hb3 k3; have p4 : w3.cell? ⟨w.heap.size + 1, 0, none⟩ = some (.bool r'.g) := cell_later hb3 k4; have p5 : w3.cell? ⟨w.heap.size + 1, 1, none⟩ = some (.slice r'.a r'.n r'.c) := cell_later hb3 k5; have p6 : w3.cell? ⟨w.heap.size + 1, 2, none⟩ = some (.bool r'.h) := cell_later hb3 k6; have p7 : w3.cell? ⟨w.heap.size + 1, 3, none⟩ = some (.slice r'.b r'.p r'.d) := cell_later hb3 k7; have B3 := hide (below_on (unhide BA) hb3); have H3 := hide (And.intro ha3 hn3); clear hb3 hb3' ho3 ha3 hn3)
    | (go_at_call_of 69 (Value.agg #[Value.bool r'.g, Value.slice r'.a r'.n r'.c]); refine (mulSgS_any r'.g r.h r'.a r.b r'.n r.p r'.c r.d ys us _ ?_ ?_ (by omega) (by omega)).mono ?_; exact (unhide N3).later (unhide B3); exact (unhide N2).later (unhide B3); rintro e w4 ⟨a4, m4, c4, zs4, rfl, hb4, ho4, ha4, hn4⟩; have q0 : w4.cell? ⟨w.heap.size, 0, none⟩ = some (.bool r.g) := cell_later hb4 p0; have q1 : w4.cell? ⟨w.heap.size, 1, none⟩ = some (.slice r.a r.n r.c) := cell_later hb4 p1; have q2 : w4.cell? ⟨w.heap.size, 2, none⟩ = some (.bool r.h) := cell_later hb4 p2; have q3 : w4.cell? ⟨w.heap.size, 3, none⟩ = some (.slice r.b r.p r.d) := cell_later hb4 p3; have q4 : w4.cell? ⟨w.heap.size + 1, 0, none⟩ = some (.bool r'.g) := cell_later hb4 p4; have q5 : w4.cell? ⟨w.heap.size + 1, 1, none⟩ = some (.slice r'.a r'.n r'.c) := cell_later hb4 p5; have q6 : w4.cell? ⟨w.heap.size + 1, 2, none⟩ = some (.bool r'.h) := cell_later hb4 p6; have q7 : w4.cell? ⟨w.heap.size + 1, 3, none⟩ = some (.slice r'.b r'.p r'.d) := cell_later hb4 p7; have B4 := hide (below_on (unhide B3) hb4); have H34 := hide (And.intro ((unhide H3).1.later hb4) (unhide H3).2); have H4 := hide (And.intro ha4 hn4); clear hb4 ho4 ha4 hn4)
    | (go_at_call 74; refine (cmpBS_any _ _ a3 a4 m3 m4 c3 c4 zs3 zs4 _ (unhide H34).1.sl (unhide H4).1.sl (unhide H34).1.len (unhide H4).1.len (Nat.le_trans (unhide H34).1.cap (unhide H34).1.top) (Nat.le_trans (unhide H4).1.cap (unhide H4).1.top)).mono ?_; rintro e w5 ⟨rfl, hb5⟩; have t0 : w5.cell? ⟨w.heap.size, 0, none⟩ = some (.bool r.g) := cell_later hb5 q0; have t1 : w5.cell? ⟨w.heap.size, 1, none⟩ = some (.slice r.a r.n r.c) := cell_later hb5 q1; have t2 : w5.cell? ⟨w.heap.size, 2, none⟩ = some (.bool r.h) := cell_later hb5 q2; have t3 : w5.cell? ⟨w.heap.size, 3, none⟩ = some (.slice r.b r.p r.d) := cell_later hb5 q3; have t4 : w5.cell? ⟨w.heap.size + 1, 0, none⟩ = some (.bool r'.g) := cell_later hb5 q4; have t5 : w5.cell? ⟨w.heap.size + 1, 1, none⟩ = some (.slice r'.a r'.n r'.c) := cell_later hb5 q5; have t6 : w5.cell? ⟨w.heap.size + 1, 2, none⟩ = some (.bool r'.h) := cell_later hb5 q6; have t7 : w5.cell? ⟨w.heap.size + 1, 3, none⟩ = some (.slice r'.b r'.p r'.d) := cell_later hb5 q7; have B5 := hide (below_on (unhide B4) hb5); clear hb5))
  go_wp2
  go_ret
  exact ⟨zs3, zs4, (unhide H34).2, (unhide H4).2, rfl, unhide B5⟩
end Go.Proofs.YtdgonpbponnnaaaGreatDoor
