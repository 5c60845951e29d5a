/- The law FnExactHasRoot returns true for every argument and leaves it as it was: the given statement FnExactHasRootSaid. No condition. -/
import Derived.Test.YtliaddmkomcmnaaPackE
import Derived.Test.YtliaddmkomcmnaaOpenQ
import Derived.Test.YtliaddmkomcmnaaPackSW
import Derived.Deep.Slices
import Derived.Test.YtliaddmkomcmnaaIo
namespace Go.Proofs.Ytliaddmkomcmnaa
open Go.RowKit
set_option linter.unusedVariables false
set_option maxRecDepth 100000
set_option linter.unusedSimpArgs false

structure TlawHasR (w wx : World) (v1 : QV) (d1 : QD) : Prop where
  bel : Below w.heap.size w wx
  x1_0 : wx.cell? ⟨w.heap.size, 0, none⟩ = some (.bool v1.num.g)
  x1_1 : wx.cell? ⟨w.heap.size, 1, none⟩ = some (.slice v1.num.a v1.num.n v1.num.c)
  x1_2 : wx.cell? ⟨w.heap.size, 2, none⟩ = some (.bool v1.den.g)
  x1_3 : wx.cell? ⟨w.heap.size, 3, none⟩ = some (.slice v1.den.a v1.den.n v1.den.c)
  s1 : AllSl wx [(v1.num, d1.num), (v1.den, d1.den)]
theorem TlawHasR.later {w wx wy : World} {v1 : QV} {d1 : QD} (h : TlawHasR w wx v1 d1) (hb : Below wx.heap.size wx wy) : TlawHasR w wy v1 d1 :=
  ⟨below_on h.bel hb, cell_later hb h.x1_0, cell_later hb h.x1_1, cell_later hb h.x1_2, cell_later hb h.x1_3, h.s1.later hb⟩
theorem TlawHasR.start (w : World) (v1 : QV) (d1 : QD) (t1 : TypeId) (hx1 : AllSl w [(v1.num, d1.num), (v1.den, d1.den)]) : TlawHasR w (w.alloc (.cells #[.bool v1.num.g, .slice v1.num.a v1.num.n v1.num.c, .bool v1.den.g, .slice v1.den.a v1.den.n v1.den.c] t1)) v1 d1 := by
  have hb : Below w.heap.size w (w.alloc (.cells #[.bool v1.num.g, .slice v1.num.a v1.num.n v1.num.c, .bool v1.den.g, .slice v1.den.a v1.den.n v1.den.c] t1)) := ((Below.refl _ _).alloc (by simp) _)
  exact ⟨hb, by simp [go_sem], by simp [go_sem], by simp [go_sem], by simp [go_sem], hx1.later hb⟩
set_option maxRecDepth 100000 in
set_option maxHeartbeats 16000000 in
theorem lawHasR_walk (a0 : Option Addr) (n0 c0 : Nat) (l0 : List (QV × QD)) (v1 : QV) (d1 : QD) (w : World) (h0 : PSlQ w a0 l0) (hn0 : l0.length = n0) (hx1 : AllSl w [(v1.num, d1.num), (v1.den, d1.den)]) (hm0 : n0 ≤ maxLen) (ml0 : ∀ p ∈ l0, p.1.num.n ≤ maxLen ∧ p.1.den.n ≤ maxLen) (m1_0 : v1.num.n ≤ maxLen) (m1_1 : v1.den.n ≤ maxLen) :
    Calls Try.prog 10 #[.slice a0 n0 c0, .agg #[.bool v1.num.g, .slice v1.num.a v1.num.n v1.num.c, .bool v1.den.g, .slice v1.den.a v1.den.n v1.den.c]] w fun e w' => e = .returned (.bool true) ∧ Below w.heap.size w w' := by
  obtain ⟨g0, Hg0⟩ : ∃ g0 : Bool, Hid (g0 = (hasR (l0.map Prod.snd) d1)) := ⟨_, hide rfl⟩
  obtain ⟨g1, Hg1⟩ : ∃ g1 : Bool, Hid (g1 = (rP (l0.map Prod.snd) && pl d1)) := ⟨_, hide rfl⟩
  have CS : Hid (∀ (a : Option Addr) (n c : Nat) (k : List (QV × QD)) (q1 : QV) (w : World), PArQ w a n c k → k.map Prod.snd = l0.map Prod.snd → AllAr w [(q1.num, d1.num), (q1.den, d1.den)] → Calls Try.prog 45 #[.slice a n c, .agg #[.bool q1.num.g, .slice q1.num.a q1.num.n q1.num.c, .bool q1.den.g, .slice q1.den.a q1.den.n q1.den.c]] w fun e w' => e = .returned (.tuple #[.bool g0, .bool g1]) ∧ Below w.heap.size w w') := hide (by rw [unhide Hg0, unhide Hg1]; exact fun a n c k q1 w h e hq => by have := HasRS a n c k q1 d1 w h hq; rw [e] at this; exact this)
  have CI : Hid (∀ (a : Option Addr) (n c : Nat) (k : List (QV × QD)) (q1 : QV) (w : World), PArQ w a n c k → k.map Prod.snd = l0.map Prod.snd → AllAr w [(q1.num, d1.num), (q1.den, d1.den)] → Calls Try.prog 46 #[.slice a n c, .agg #[.bool q1.num.g, .slice q1.num.a q1.num.n q1.num.c, .bool q1.den.g, .slice q1.den.a q1.den.n q1.den.c]] w fun e w' => e = .returned (.tuple #[.bool g0, .bool g1]) ∧ Below w.heap.size w w') := hide (by rw [unhide Hg0, unhide Hg1]; exact fun a n c k q1 w h e hq => by have := HasRI a n c k q1 d1 w h hq; rw [e] at this; exact this)
  clear Hg0 Hg1
  have SZ0 := hide (fun w1 (left : Int) (b0 : 0 ≤ left) (b1 : left ≤ 1048576) (k : PSlQ w1 a0 l0) => szPQ a0 n0 c0 l0 left w1 k hn0 hm0 ml0 b0 b1)
  have HS0 := hide h0
  have HN0 := hide hn0
  have HX1 := hide hx1
  have MM1 := hide (And.intro m1_0 m1_1)
  clear h0 hn0 hm0 ml0 hx1 m1_0 m1_1
  have T := hide (TlawHasR.start w v1 d1 26 (unhide HX1))
  go_enter Try.func10, Try.ntmps10
  go_wp2_with fail
  refine (unhide SZ0 _ 1048576 (by omega) (by omega) ((unhide HS0).later (unhide T).bel)).mono ?_
  rintro e ws0 ⟨r0, rfl, hb, hr⟩
  replace T := hide ((unhide T).later hb)
  clear hb SZ0
  by_cases hneg : r0 < 0
  · clear hr
    go_wp2
    go_ret
    exact ⟨rfl, (unhide T).bel⟩
  have e0 : Hid (r0 = 1048576 - (n0 : Int) - (lenPQ l0 : Int)) := hide (by
    rcases hr with e | e
    · exact absurd (show r0 < 0 by omega) hneg
    · exact e.2)
  clear hr
  have b0 : r0 ≤ 1048576 := by have := unhide e0; omega
  have pp0 : 0 ≤ r0 := by omega
  have y0 := (unhide T).x1_0
  have y1 := (unhide T).x1_1
  have y2 := (unhide T).x1_2
  have y3 := (unhide T).x1_3
  by_cases hc1 : r0 < (v1.num.n : Int) + (v1.den.n : Int)
  · go_wp2_with fail
    refine (szQ_out v1 (r0) _ (by omega) (by omega) (unhide MM1).1 (unhide MM1).2 hc1).mono ?_
    rintro e wz ⟨rfl, hb⟩
    replace T := hide ((unhide T).later hb)
    clear hb y0 y1 y2 y3
    go_wp2
    go_ret
    exact ⟨rfl, (unhide T).bel⟩
  have u1 : ¬ (r0 - (v1.num.n : Int) - (v1.den.n : Int) < 0) := by omega
  go_wp2_with fail
  refine (szQ_in v1 (r0) _ (by omega) (by omega) (by omega)).mono ?_
  rintro e wq1 ⟨rfl, hb⟩
  replace T := hide ((unhide T).later hb)
  clear hb y0 y1 y2 y3
  have l1_0 : v1.num.n ≤ 1048576 := by omega
  have l1_1 : v1.den.n ≤ 1048576 := by omega
  have M0 : Hid (∀ p ∈ l0, p.1.num.n ≤ 1048576 ∧ p.1.den.n ≤ 1048576) := hide (fun p hp => by have h1 := lenPQ_mem hp; have h2 : lenQ p = p.1.num.n + p.1.den.n := rfl; have := unhide e0; omega)
  have TT0 := hide (fun w1 (k : PSlQ w1 a0 l0) => toPQ a0 n0 c0 l0 w1 k (unhide HN0) (by have := unhide e0; omega) (unhide M0))
  go_upto_region 8 with fail
  have ka0 := (unhide T).x1_0
  have ka1 := (unhide T).x1_1
  have ka2 := (unhide T).x1_2
  have ka3 := (unhide T).x1_3
  go_region_held3 (fun w' => w'.cell? ⟨w.heap.size, 0, none⟩ = some (.bool v1.num.g) ∧ w'.cell? ⟨w.heap.size, 1, none⟩ = some (.slice v1.num.a v1.num.n v1.num.c) ∧ w'.cell? ⟨w.heap.size, 2, none⟩ = some (.bool v1.den.g) ∧ w'.cell? ⟨w.heap.size, 3, none⟩ = some (.slice v1.den.a v1.den.n v1.den.c)) (with_reducible (first | exact ⟨ka0, ka1, ka2, ka3⟩ | exact ⟨cd_other ka0, cd_other ka1, cd_other ka2, cd_other ka3⟩ | fail))
    (first
    | (go_at_call 34; refine (unhide TT0 _ ?_).mono ?_; exact ((unhide HS0).later (unhide T).bel).later (Below.refl _ _).drew; rintro e wa0 ⟨lA, rfl, hb, zA, dA, oA⟩; have hbx := below_of_drew hb; replace T := hide ((unhide T).later hbx); replace ka0 := (unhide T).x1_0; replace ka1 := (unhide T).x1_1; replace ka2 := (unhide T).x1_2; replace ka3 := (unhide T).x1_3; have A0 := hide oA; have DA := hide dA; clear hb hbx oA dA zA)
    | (go_at_call_of 13 (Value.agg #[Value.bool v1.num.g, Value.slice v1.num.a v1.num.n v1.num.c, Value.bool v1.den.g, Value.slice v1.den.a v1.den.n v1.den.c]); refine (toQ_at v1 d1 _ ?_ l1_0 l1_1).mono ?_; exact (unhide T).s1; rintro e wa1 ⟨qa1, rfl, hb, hna, ow, ar⟩; have hbx := hb; replace T := hide ((unhide T).later hbx); replace ka0 := (unhide T).x1_0; replace ka1 := (unhide T).x1_1; replace ka2 := (unhide T).x1_2; replace ka3 := (unhide T).x1_3; replace A0 := hide ((unhide A0).later hbx); have A1 := hide ar; clear hb hbx ow ar hna)
    | (go_at_call 45; refine (unhide CS _ _ _ lA qa1 _ ?_ ?_ ?_).mono ?_; exact (unhide A0).arg; exact unhide DA; exact unhide A1; rintro e w5 ⟨rfl, hb⟩; have hbx := hb; replace T := hide ((unhide T).later hbx); replace ka0 := (unhide T).x1_0; replace ka1 := (unhide T).x1_1; replace ka2 := (unhide T).x1_2; replace ka3 := (unhide T).x1_3; replace A0 := hide ((unhide A0).later hbx); replace A1 := hide ((unhide A1).later hbx); clear hb hbx))
  clear A0 DA A1 ka0 ka1 ka2 ka3
  go_wp2_with fail
  refine (unhide TT0 _ ((unhide HS0).later (unhide T).bel)).mono ?_
  rintro e wx0 ⟨lX, rfl, hb, zX, dX, oX⟩
  replace T := hide ((unhide T).later hb)
  have OX := hide oX
  have DX := hide dX
  clear hb zX dX oX
  have p0 := (unhide T).x1_0
  have p1 := (unhide T).x1_1
  have p2 := (unhide T).x1_2
  have p3 := (unhide T).x1_3
  go_wp2_with fail
  refine (toQ_at v1 d1 _ (unhide T).s1 l1_0 l1_1).mono ?_
  rintro e wx1 ⟨y1, rfl, hb, hnn, ow, ar⟩
  have hn1 := hide hnn
  have VX1 := hide (VarQ.start 33 ow)
  have AX1 := hide (ar.later ((Below.refl _ _).alloc (Nat.le_refl _) (.cells #[.bool y1.num.g, .slice y1.num.a y1.num.n y1.num.c, .bool y1.den.g, .slice y1.den.a y1.den.n y1.den.c] 33)))
  replace T := hide (((unhide T).later hb).later ((Below.refl _ _).alloc (Nat.le_refl _) (.cells #[.bool y1.num.g, .slice y1.num.a y1.num.n y1.num.c, .bool y1.den.g, .slice y1.den.a y1.den.n y1.den.c] 33)))
  replace OX := hide (((unhide OX).later hb).later ((Below.refl _ _).alloc (Nat.le_refl _) (.cells #[.bool y1.num.g, .slice y1.num.a y1.num.n y1.num.c, .bool y1.den.g, .slice y1.den.a y1.den.n y1.den.c] 33)))
  clear hb hnn ow ar p0 p1 p2 p3
  go_wp2_with fail
  refine (unhide CI _ _ _ lX y1 _ (unhide OX).arg (unhide DX) (unhide AX1)).mono ?_
  rintro e w6 ⟨rfl, hb⟩
  clear AX1
  replace T := hide ((unhide T).later hb)
  replace OX := hide ((unhide OX).later hb)
  replace VX1 := hide ((unhide VX1).later hb)
  clear hb
  generalize wx1.heap.size = GX1 at *
  have eg0 : (g0 == g0) = true := by simp
  have eg1 : (g1 == g1) = true := by simp
  go_wp2_with fail
  refine (unhide TT0 _ ((unhide HS0).later (unhide T).bel)).mono ?_
  rintro e wy0 ⟨lY, rfl, hb, zY, dY, oY⟩
  replace T := hide ((unhide T).later hb)
  replace OX := hide ((unhide OX).later hb)
  replace VX1 := hide ((unhide VX1).later hb)
  have OY := hide oY
  have DY := hide dY
  clear hb zY dY oY
  go_wp2_with fail
  refine (eqPQ _ _ n0 _ _ lX lY _ (unhide OX).arg.sl (unhide OY).arg.sl (unhide OX).len ((unhide DX).trans (unhide DY).symm) (Nat.le_trans (unhide OX).arg.cap (unhide OX).arg.top) (fun p hp => ⟨Nat.le_trans ((unhide OX).ar p hp).head.ar.cap ((unhide OX).ar p hp).head.ar.top, Nat.le_trans ((unhide OX).ar p hp).tail.head.ar.cap ((unhide OX).ar p hp).tail.head.ar.top⟩)).mono ?_
  rintro e wy1 ⟨rfl, hb⟩
  replace T := hide ((unhide T).later hb)
  replace OX := hide ((unhide OX).later hb)
  replace VX1 := hide ((unhide VX1).later hb)
  clear hb OY DY
  go_wp2_with fail
  have ka0 := (unhide T).x1_0
  have kx0 := (unhide VX1).c0
  have ka1 := (unhide T).x1_1
  have kx1 := (unhide VX1).c1
  have ka2 := (unhide T).x1_2
  have kx2 := (unhide VX1).c2
  have ka3 := (unhide T).x1_3
  have kx3 := (unhide VX1).c3
  go_region_held3 (fun w' => w'.cell? ⟨w.heap.size, 0, none⟩ = some (.bool v1.num.g) ∧ w'.cell? ⟨w.heap.size, 1, none⟩ = some (.slice v1.num.a v1.num.n v1.num.c) ∧ w'.cell? ⟨w.heap.size, 2, none⟩ = some (.bool v1.den.g) ∧ w'.cell? ⟨w.heap.size, 3, none⟩ = some (.slice v1.den.a v1.den.n v1.den.c) ∧ w'.cell? ⟨GX1, 0, none⟩ = some (.bool y1.num.g) ∧ w'.cell? ⟨GX1, 1, none⟩ = some (.slice y1.num.a y1.num.n y1.num.c) ∧ w'.cell? ⟨GX1, 2, none⟩ = some (.bool y1.den.g) ∧ w'.cell? ⟨GX1, 3, none⟩ = some (.slice y1.den.a y1.den.n y1.den.c)) (with_reducible (first | exact ⟨ka0, ka1, ka2, ka3, kx0, kx1, kx2, kx3⟩ | exact ⟨cd_other ka0, cd_other ka1, cd_other ka2, cd_other ka3, cd_other kx0, cd_other kx1, cd_other kx2, cd_other kx3⟩ | fail))
    (first
    | (go_at_call 13; refine (toQ_at v1 d1 _ ?_ l1_0 l1_1).mono ?_; exact (unhide T).s1.later (Below.refl _ _).drew; rintro e w7 ⟨u7, rfl, hb', hn7, ow7, ar7⟩; have hb := below_of_drew hb'; replace T := hide ((unhide T).later hb); replace OX := hide ((unhide OX).later hb); replace VX1 := hide ((unhide VX1).later hb); replace ka0 := (unhide T).x1_0; replace kx0 := (unhide VX1).c0; replace ka1 := (unhide T).x1_1; replace kx1 := (unhide VX1).c1; replace ka2 := (unhide T).x1_2; replace kx2 := (unhide VX1).c2; replace ka3 := (unhide T).x1_3; replace kx3 := (unhide VX1).c3; have S7 := hide ow7.sl; clear hb hb' ow7 ar7 hn7)
    | (go_at_call 16; refine (eqQ_at y1 u7 d1 _ (unhide VX1).own.sl (unhide S7) (by rw [(unhide hn1).1]; exact (unhide MM1).1) (by rw [(unhide hn1).2]; exact (unhide MM1).2)).mono ?_; rintro e w8 ⟨rfl, hb⟩; replace T := hide ((unhide T).later hb); replace OX := hide ((unhide OX).later hb); replace VX1 := hide ((unhide VX1).later hb); replace ka0 := (unhide T).x1_0; replace kx0 := (unhide VX1).c0; replace ka1 := (unhide T).x1_1; replace kx1 := (unhide VX1).c1; replace ka2 := (unhide T).x1_2; replace kx2 := (unhide VX1).c2; replace ka3 := (unhide T).x1_3; replace kx3 := (unhide VX1).c3; clear hb))
  clear S7 ka0 kx0 ka1 kx1 ka2 kx2 ka3 kx3
  go_wp2
  go_ret
  exact ⟨rfl, (unhide T).bel⟩
end Go.Proofs.Ytliaddmkomcmnaa
namespace Go.Proofs.Ytliaddmkomcmnaa
open Go.ChangeShapes Go.WideShapes Go.ChangeAt Go.RowKit Go.Joins
set_option linter.unusedVariables false
set_option maxRecDepth 100000
set_option linter.unusedSimpArgs false

theorem open_ratc {H : Type} {enc : TypeId × Value → H} {W : World} {m : Nat} {c0 c1 c2 c3 : Value} {x : DataW H × List MemPlace}
    (hf : DataW.trod enc Try.prog W 0 (fun _ => true) true m 26 [c0, c1, c2, c3] = some x) :
    ∃ p : QV × QD, (c0 = .bool p.1.num.g ∧ c1 = .slice p.1.num.a p.1.num.n p.1.num.c ∧ c2 = .bool p.1.den.g ∧ c3 = .slice p.1.den.a p.1.den.n p.1.den.c) ∧ AllSl W [(p.1.num, p.2.num), (p.1.den, p.2.den)] ∧ p.1.num.n ≤ maxLen ∧ p.1.den.n ≤ maxLen := by
  obtain ⟨y0, y1, n, hx, _, h0, h1⟩ := trod_struct2 Try.underlying26 hf
  have k0 : DataW.trod enc Try.prog W 0 (fun _ => true) true n 24 [c0, c1] = some y0 := by simpa [Value.cells, Try.cells24] using h0
  have k1 : DataW.trod enc Try.prog W 0 (fun _ => true) true n 24 [c2, c3] = some y1 := by simpa [Value.cells, Try.cells24] using h1
  obtain ⟨z0, z1, n1, _, _, p0, p1⟩ := trod_struct2 Try.underlying24 k0
  obtain ⟨z2, z3, n2, _, _, p2, p3⟩ := trod_struct2 Try.underlying24 k1
  have c_b : Try.prog.cellsOf 4 = 1 := by kernel_rfl
  have c_s : Try.prog.cellsOf 22 = 1 := by kernel_rfl
  obtain ⟨g, a, n', c, xs, rfl, rfl, s1, s2, s3, _⟩ := open_two (c0 := c0) (c1 := c1) (by simpa [c_b] using p0) (by simpa [c_s] using p1)
  obtain ⟨h, b, q, e, us, rfl, rfl, t1, t2, t3, _⟩ := open_two (c0 := c2) (c1 := c3) (by simpa [c_b] using p2) (by simpa [c_s] using p3)
  exact ⟨(⟨⟨g, a, n', c⟩, ⟨h, b, q, e⟩⟩, ⟨⟨g, xs⟩, ⟨h, us⟩⟩), ⟨rfl, rfl, rfl, rfl⟩, AllSl.cons ⟨rfl, s1, s2⟩ (AllSl.cons ⟨rfl, t1, t2⟩ (AllSl.nil _)), s3, t3⟩
theorem addr_add (b off k : Nat) : (⟨b, off, none⟩ : Addr).add k = ⟨b, off + k, none⟩ := by
  unfold Addr.add
  split
  · rename_i h; subst h; rfl
  · rfl
theorem addr_add_block (a : Addr) (k : Nat) : (a.add k).block = a.block := by unfold Addr.add; split <;> rfl
theorem open_PQ {H : Type} {enc : TypeId × Value → H} {W : World} {r : Reach} {b0 : Nat} {v : Value} {d : DataW H} {p : List MemPlace}
    (hv : Value.okWide Try.prog W r b0 57 v) (h : DataW.Trod enc Try.prog W 0 (fun _ => true) true 57 v d p) :
    ∃ (a : Option Addr) (n c : Nat) (l : List (QV × QD)), v = .slice a n c ∧ PSlQ W a l ∧ l.length = n ∧ n ≤ maxLen ∧ ∀ p ∈ l, p.1.num.n ≤ maxLen ∧ p.1.den.n ≤ maxLen := by
  obtain ⟨a, n, c, rfl⟩ := okWide_slice Try.underlying57 hv
  obtain ⟨fuel, hf⟩ := h
  rcases Go.Deep.open_slice Try.underlying57 hf with ⟨hcs, _⟩ | ⟨a', len, cap, m, n', D, Pl, hcs, _, hl, hm, hmm, _, hx⟩
  · simp only [Value.cells, List.cons.injEq, Value.slice.injEq, and_true] at hcs
    obtain ⟨rfl, rfl, rfl⟩ := hcs
    exact ⟨none, 0, 0, [], rfl, ⟨.inl rfl, fun p hp => by cases hp⟩, rfl, Nat.zero_le _, fun p hp => by cases hp⟩
  · simp only [Value.cells, List.cons.injEq, Value.slice.injEq, and_true] at hcs
    obtain ⟨rfl, rfl, rfl⟩ := hcs
    simp only [if_true] at hmm
    subst hmm
    have each : ∀ i, i < n → ∃ p : QV × QD, (W.cell? ((a'.add (i * 4)).add 0) = some (.bool p.1.num.g) ∧ W.cell? ((a'.add (i * 4)).add 1) = some (.slice p.1.num.a p.1.num.n p.1.num.c) ∧ W.cell? ((a'.add (i * 4)).add 2) = some (.bool p.1.den.g) ∧ W.cell? ((a'.add (i * 4)).add 3) = some (.slice p.1.den.a p.1.den.n p.1.den.c)) ∧ AllSl W [(p.1.num, p.2.num), (p.1.den, p.2.den)] ∧ p.1.num.n ≤ maxLen ∧ p.1.den.n ≤ maxLen := by
      intro i hi
      obtain ⟨cs, h1, h2⟩ := hx i (by omega)
      rw [Try.cells26] at h1
      obtain ⟨_, h3, h4⟩ := World.cells?_some h1
      match cs, h3 with
      | [c0, c1, c2, c3], _ =>
        obtain ⟨p, ⟨rfl, rfl, rfl, rfl⟩, hp⟩ := open_ratc h2
        exact ⟨p, ⟨h4 0 (by omega), h4 1 (by omega), h4 2 (by omega), h4 3 (by omega)⟩, hp⟩
    have inh : Inhabited (QV × QD) := ⟨(⟨⟨false, none, 0, 0⟩, ⟨false, none, 0, 0⟩⟩, ⟨⟨false, []⟩, ⟨false, []⟩⟩)⟩
    obtain ⟨f, hf⟩ := Go.Deep.choose_lt each
    refine ⟨some a', n, m, (List.range n).map f, rfl, ⟨?_, ?_⟩, by simp, Nat.le_trans hl hm, ?_⟩
    · by_cases h0 : n = 0
      · subst h0; exact .inl rfl
      · obtain ⟨b, off, spot⟩ := a'
        have hc := (hf 0 (by omega)).1.1
        have hspot : spot = none := by simpa [Addr.add] using World.cell?_spot hc
        subst hspot
        refine .inr ⟨b, off, rfl, ?_, fun i hi => ?_⟩
        · have := World.block_lt_of_cell? _ _ hc
          rw [addr_add, addr_add] at this
          exact this
        · have hi' : i < n := by simpa using hi
          have h1 := (hf i hi').1
          rw [addr_add, addr_add, addr_add, addr_add, addr_add] at h1
          simpa using h1
    · intro p hp
      obtain ⟨i, hi, rfl⟩ := List.mem_map.1 hp
      exact (hf i (List.mem_range.1 hi)).2.1
    · intro p hp
      obtain ⟨i, hi, rfl⟩ := List.mem_map.1 hp
      exact (hf i (List.mem_range.1 hi)).2.2
end Go.Proofs.Ytliaddmkomcmnaa
namespace Go.Proofs.Ytliaddmkomcmnaa
open Go.ChangeShapes Go.WideShapes Go.ChangeAt Go.RowKit Go.Joins
set_option linter.unusedVariables false
set_option maxRecDepth 100000
set_option linter.unusedSimpArgs false

set_option maxRecDepth 100000 in
theorem hasR_holds_lifted (os : Os) (started : os.Started) (H : Type) (enc : TypeId × Value → H) :
    ReturnsInHanded {} Try.checked os 10 .any (Rows.fnExactHasRootSpec.pre6 enc Try.prog Try.f10 Rows.fnExactHasRootRow.domain false) (Rows.fnExactHasRootSpec.post enc Try.prog Try.f10 false true false false) := by
  refine returnsInHanded_of_change (C := Try.checked) own started (by kernel_rfl) Try.func10
    (ChangeSpec.witness6 (enc := enc) (C := Try.checked) false ⟨#[], #[.slice none 0 0, .agg #[.bool false, .slice none 0 0, .bool false, .slice none 0 0]], []⟩ 8 (by kernel_rfl) (by kernel_rfl) (by kernel_rfl) (by kernel_rfl)) ?_
  intro W base args ds gs before hval0 hW hcnd _
  have hval : ∀ (j : Nat) t v, Try.f10.params[j]? = some t → args[j]? = some v → Value.okWide Try.prog W .any base t v := hval0
  have hW' := hW
  obtain ⟨p, q, hA0, hV, rfl, hfz, hnd⟩ := hW
  have hA : DataW.TrodAll enc Try.prog W 0 (fun _ => true) true Try.f10.params.toList args.toList ds p := hA0
  rw [Try.params10] at hA hval
  obtain ⟨v0, vs0, d0, ds0, p0, q0, hargs, rfl, rfl, h0, r0⟩ := trodAll_cons hA
  obtain ⟨v1, vs1, d1, ds1, p1, q1, rfl, rfl, rfl, h1, r1⟩ := trodAll_cons r0
  obtain ⟨rfl, rfl, rfl⟩ := trodAll_nil r1
  obtain rfl : args = #[v0, v1] := by cases args; simp_all
  obtain ⟨rfl, rfl⟩ := trodVars_none hV
  have lt0 : ∀ x ∈ p0, x.block < W.heap.size := by obtain ⟨m, hm⟩ := h0; exact DataW.trod_lt m _ _ _ hm
  obtain ⟨a0, n0, c0, l0, rfl, sl0, hn0, hm0, ml0⟩ := open_PQ (hval 0 57 v0 rfl rfl) h0
  have lt1 : ∀ x ∈ p1, x.block < W.heap.size := by obtain ⟨m, hm⟩ := h1; exact DataW.trod_lt m _ _ _ hm
  obtain ⟨u1, e1, rfl, sl1, m1_0, m1_1⟩ := open_Q (hval 1 26 v1 rfl rfl) h1
  clear hA0 hval0
  refine (lawHasR_walk a0 n0 c0 l0 u1 e1 W sl0 hn0 sl1 hm0 ml0 m1_0 m1_1).mono fun e W' ⟨he, bel⟩ => ?_
  subst he
  exact ⟨_, rfl, _, _, _, [], _, [], hW', trodAll_mk1 (shut_bool Try.underlying4 _), (trodAll_cons_mk (Below.trod laidOut (by kernel_rfl) (of_decide_eq_true (by kernel_rfl)) h0 bel lt0) (trodAll_cons_mk (Below.trod laidOut (by kernel_rfl) (of_decide_eq_true (by kernel_rfl)) h1 bel lt1) trodAll_mk0)), rfl, bel.frame _, fun h => by cases h⟩

theorem hasR_holds_c0 : (Rows.fnExactHasRootRow.wf (OpenSpec.ofChange Rows.fnExactHasRootSpec)) = true := by kernel_rfl
theorem hasR_holds_c1 : (laidOutB Try.pinned.checked.prog) = true := by kernel_rfl
theorem hasR_holds_c2 : (mapsRowed Try.pinned.checked.prog) = true := by kernel_rfl
theorem hasR_holds_c3 : (Try.f10.params.all (Try.pinned.checked.prog.readableRec ·)) = true := by kernel_rfl
theorem hasR_holds_c4 : (namedTie Try.pinned.checked.prog Rows.fnExactHasRootRow.named Rows.fnExactHasRootSpec.vars) = true := by kernel_rfl
theorem hasR_holds_c5 : (Rows.fnExactHasRootRow.stops == []) = true := by kernel_rfl
theorem hasR_holds_c6 : (Try.pinned.checked.prog.stops == []) = true := by kernel_rfl
theorem hasR_holds_c7 : (Rows.fnExactHasRootRow.knobs == []) = true := by kernel_rfl
theorem hasR_holds_c8 : (Try.pinned.checked.prog.stopKnobs == []) = true := by kernel_rfl
theorem hasR_holds_c9 : (Rows.fnExactHasRootRow.inPlace == Try.pinned.checked.prog.inPlace 10) = true := by kernel_rfl
theorem hasR_holds_c10 : (Rows.fnExactHasRootRow.unfollowed == Try.pinned.checked.prog.unfollowed 10) = true := by kernel_rfl
theorem hasR_holds_c11 : (Rows.fnExactHasRootRow.recurses == Try.pinned.checked.prog.recurses 10) = true := by kernel_rfl
theorem hasR_holds_c12 : (Rows.fnExactHasRootRow.named == Try.pinned.checked.prog.varsNamed 10) = true := by kernel_rfl
theorem hasR_holds_c13 : (Rows.fnExactHasRootRow.maps == (Try.f10.params.toList ++ Rows.fnExactHasRootSpec.plain.varTypes Try.pinned.checked.prog).any (Try.pinned.checked.prog.mapsRec ·)) = true := by kernel_rfl
theorem hasR_holds_c14 : (Rows.fnExactHasRootRow.ifaces == (Try.f10.params.toList ++ Rows.fnExactHasRootSpec.plain.varTypes Try.pinned.checked.prog).any (Try.pinned.checked.prog.ifacesRec ·)) = true := by kernel_rfl
theorem hasR_holds_c15 : (Rows.fnExactHasRootRow.mapsOut == Try.pinned.checked.prog.mapsAmong Try.f10.resultTypes.toList) = true := by kernel_rfl
theorem hasR_holds_c16 : (Rows.fnExactHasRootRow.loops == (Try.f10.params.toList ++ Rows.fnExactHasRootSpec.plain.varTypes Try.pinned.checked.prog).any (Try.pinned.checked.prog.loopsFrom ·)) = true := by kernel_rfl
theorem hasR_holds_c17 : (Rows.fnExactHasRootRow.wideKeys == (Try.f10.params.toList ++ Rows.fnExactHasRootSpec.plain.varTypes Try.pinned.checked.prog ++ Try.f10.resultTypes.toList).any (Try.pinned.checked.prog.wideKeysFrom ·)) = true := by kernel_rfl
theorem hasR_holds_c18 : (Rows.fnExactHasRootSpec.vars.all (Try.pinned.checked.prog.varReadable ·)) = true := by kernel_rfl
theorem hasR_holds_c19 : (Try.f10.resultTypes.all (fun t => Try.pinned.checked.prog.readableRec t && decide (t < Try.pinned.checked.prog.types.size))) = true := by kernel_rfl
theorem hasR_holds_c20 : (Rows.fnExactHasRootRow.ifacesOut == Try.f10.resultTypes.toList.any (Try.pinned.checked.prog.ifacesRec ·)) = true := by kernel_rfl
theorem hasR_holds_c21 : (Rows.fnExactHasRootRow.loopsOut == Try.f10.resultTypes.toList.any (Try.pinned.checked.prog.loopsFrom ·)) = true := by kernel_rfl
theorem hasR_holds_c22 : (Rows.fnExactHasRootRow.plainKeys == Try.pinned.checked.prog.plainKeys) = true := by kernel_rfl
theorem hasR_holds_c23 : (Rows.fnExactHasRootRow.shortTexts.isNone) = true := by kernel_rfl
theorem hasR_holds_c24 : (Try.pinned.checked.prog.stopsHeard) = true := by kernel_rfl
theorem hasR_holds_c25 : (Try.pinned.checked.prog.mayEnter) = true := io_enter
theorem hasR_holds_c26 : (Rows.fnExactHasRootRow.lifted == Try.pinned.checked.prog.liftsFinal) = true := by rw [io_lifts]; kernel_rfl
theorem hasR_holds_c27 : (Try.pinned.checked.prog.make == some Rows.fnExactHasRootRow.make) = true := by rw [io_make]; kernel_rfl
theorem hasR_holds_c28 : (Rows.fnExactHasRootRow.kinds == (if Rows.fnExactHasRootRow.domain.isEmpty then [] else Try.f10.params.toList.map fun t => match Try.pinned.checked.prog.underlying t with | some (.int k) => some k | _ => none)) = true := by kernel_rfl
theorem hasR_holds_c29 : (Rows.fnExactHasRootRow.pinned == Rows.fnExactHasRootRow.pinnedBy) = true := by kernel_rfl
theorem hasR_holds_c30 : (Rows.fnExactHasRootRow.veiled == (Try.f10.params.toList ++ Rows.fnExactHasRootSpec.plain.varTypes Try.pinned.checked.prog ++ Try.f10.resultTypes.toList).any (Try.pinned.checked.prog.veiledRec ·)) = true := by kernel_rfl
theorem hasR_holds_c31 : (Rows.fnExactHasRootRow.veiledFits Try.pinned.checked.prog Try.f10.params.toList (Try.f10.params.toList ++ Rows.fnExactHasRootSpec.plain.varTypes Try.pinned.checked.prog ++ Try.f10.resultTypes.toList)) = true := by kernel_rfl
theorem hasR_holds_and {a b : Bool} (h : a = true) (k : b = true) : (a && b) = true := by rw [h, k]; rfl
theorem hasR_holds_closed : joinedFacts Try.pinned.checked.prog 10 Try.f10 Rows.fnExactHasRootSpec Rows.fnExactHasRootRow = true := (hasR_holds_and (hasR_holds_and (hasR_holds_and (hasR_holds_and (hasR_holds_and (hasR_holds_and (hasR_holds_and (hasR_holds_and (hasR_holds_and (hasR_holds_and (hasR_holds_and (hasR_holds_and (hasR_holds_and (hasR_holds_and (hasR_holds_and (hasR_holds_and (hasR_holds_and (hasR_holds_and (hasR_holds_and (hasR_holds_and (hasR_holds_and (hasR_holds_and (hasR_holds_and (hasR_holds_and (hasR_holds_and (hasR_holds_and (hasR_holds_and (hasR_holds_and (hasR_holds_and (hasR_holds_and (hasR_holds_and hasR_holds_c0 hasR_holds_c1) hasR_holds_c2) hasR_holds_c3) hasR_holds_c4) hasR_holds_c5) hasR_holds_c6) hasR_holds_c7) hasR_holds_c8) hasR_holds_c9) hasR_holds_c10) hasR_holds_c11) hasR_holds_c12) hasR_holds_c13) hasR_holds_c14) hasR_holds_c15) hasR_holds_c16) hasR_holds_c17) hasR_holds_c18) hasR_holds_c19) hasR_holds_c20) hasR_holds_c21) hasR_holds_c22) hasR_holds_c23) hasR_holds_c24) hasR_holds_c25) hasR_holds_c26) hasR_holds_c27) hasR_holds_c28) hasR_holds_c29) hasR_holds_c30) hasR_holds_c31)
theorem hasR_holds_named : Try.pinned.checked.prog.funcNamed Rows.fnExactHasRootRow.func = some 10 := by kernel_rfl
theorem hasR_holds_inst : Try.f10.isInstance Try.pinned.checked.prog Rows.fnExactHasRootRow.origin Rows.fnExactHasRootRow.targs := of_decide_eq_true (by kernel_rfl)
theorem hasR_holds_wrap : Try.f10.isWrapper Try.pinned.checked.prog Rows.fnExactHasRootRow.wrapper Rows.fnExactHasRootRow.mainSum := by unfold Func.isWrapper; first | (rw [if_pos (by decide +kernel)]; kernel_rfl) | (rw [if_neg (by decide +kernel)]; exact ⟨rfl, rfl⟩)
theorem hasR_holds : Rows.FnExactHasRootSaid :=
  OpenClaim.holds_of_wide 10 Try.f10 rfl rfl rfl rfl rfl rfl rfl ⟨rfl, rfl, rfl, rfl, rfl⟩ rfl rfl rfl rfl rfl hasR_holds_named Try.func10 hasR_holds_closed hasR_holds_inst hasR_holds_wrap
    (fun os started H enc _ => hasR_holds_lifted os started H enc)
#print axioms hasR_holds
end Go.Proofs.Ytliaddmkomcmnaa
