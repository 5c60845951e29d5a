/- An argument that is a slice of bytes, as it came in. No condition. -/
import Derived.Test.YtcgbpcipdanfhaaDoorCurY
import Derived.Test.YtcgbpcipdanfhaaDoorSp8T
import Derived.Test.YtcgbpcipdanfhaaDoorHd15
import Derived.Test.YtcgbpcipdanfhaaDoorShelf
import Derived.Test.YtcgbpcipdanfhaaDoorRt11
import Derived.Test.YtcgbpcipdanfhaaDoorRi15
import Derived.Test.YtcgbpcipdanfhaaDoorRu16
import Derived.OwnWalk
import Derived.Laws.Strings
import Derived.Test.YtcgbpcipdanfhaaDoorEq
import Derived.ShutString
import Derived.ChangeOld
import Derived.Lib.SmallJoins
namespace Go.Proofs.YtcgbpcipdanfhaaDoor
open Go.RowKit
set_option linter.unusedVariables false
set_option maxRecDepth 100000
set_option linter.unusedSimpArgs false

/-- A box of a point. -/
structure BxP (w : World) (G : Nat) (x y : Int) : Prop where
  c0 : w.cell? ⟨G, 0, none⟩ = some (.int .i64 x)
  c1 : w.cell? ⟨G, 1, none⟩ = some (.int .i64 y)
  fz : ∀ o, w.frozen? ⟨G, o, none⟩ = false
theorem But.fz8 {lo hi : Nat} {w w' : World} (h : But lo hi w w') {b o : Nat} {x : Bool} (hc : w.frozen? ⟨b, o, none⟩ = x) (h0 : b < w.heap.size) (hb : b < lo ∨ hi ≤ b) : w'.frozen? ⟨b, o, none⟩ = x := (World.frozen?_of_block (a := ⟨b, o, none⟩) (h.block b h0 hb)).trans hc
theorem BxP.lt {w : World} {G : Nat} {x y : Int} (h : BxP w G x y) : G < w.heap.size := World.block_lt_of_cell? _ _ h.c0
theorem BxP.keep {w w' : World} {lo hi G : Nat} {x y : Int} (h : BxP w G x y) (hb : But lo hi w w') (hG : G < lo ∨ hi ≤ G) : BxP w' G x y := ⟨hb.cell h.c0 hG, hb.cell h.c1 hG, fun o => hb.fz8 (h.fz o) h.lt hG⟩
theorem BxP.later {w w' : World} {G : Nat} {x y : Int} (h : BxP w G x y) (hb : Below w.heap.size w w') : BxP w' G x y := h.keep (But.of_below (lo := 0) (hi := 0) hb) (.inr (Nat.zero_le _))
theorem BxP.new {w : World} {x y : Int} {t : TypeId} : BxP (w.alloc (.cells #[.int .i64 x, .int .i64 y] t)) w.heap.size x y := ⟨by simp [go_sem], by simp [go_sem], fun o => by simp [go_sem]⟩
theorem But.on {lo hi : Nat} {w w1 w2 : World} (h : But lo hi w w1) (k : Below w.heap.size w1 w2) : But lo hi w w2 := ⟨k.os.trans h.os, k.tape.trans h.tape, k.output.trans h.output, Nat.le_trans h.size k.size, fun j hj hd => (k.block j hj).trans (h.block j hj hd)⟩
theorem but_rowP8 {w : World} {G : Nat} {x y : Value} : But G (G + 1) w ((w.setCell ⟨G, 0, none⟩ x).setCell ⟨G, 1, none⟩ y) := (((But.refl _ _ _).set (p := ⟨G, 0, none⟩) (Nat.le_refl G) (Nat.lt_succ_self G) x).set (p := ⟨G, 1, none⟩) (Nat.le_refl G) (Nat.lt_succ_self G) y)
theorem set_below8 {w : World} {B G : Nat} {u v : Value} (h : B ≤ G) (hs : B ≤ w.heap.size) : Below B w ((w.setCell ⟨G, 0, none⟩ u).setCell ⟨G, 1, none⟩ v) := but_rowP8.below (Below.refl _ _) h hs
/-- What a draw may tell of a point. -/
def PtD (C T : Nat) (w : World) (e : Ending) (w' : World) : Prop := ∃ p : Int × Int, e = .returned (.agg #[.int .i64 p.1, .int .i64 p.2]) ∧ Near p ∧ Cur C T w' ∧ But C (C + 1) w w'
/-- What a draw may tell of a way. -/
def WyD (C T : Nat) (w : World) (e : Ending) (w' : World) : Prop := ∃ (a : Option Addr) (n c : Nat) (l : List (Int × Int)), e = .returned (.slice a n c) ∧ ArP w' a n c l ∧ (∀ p ∈ l, Near p) ∧ n ≤ 20 ∧ (∃ G, a = some ⟨G, 0, none⟩ ∧ w.heap.size ≤ G) ∧ Cur C T w' ∧ But C (C + 1) w w'
theorem flat_sl (w : World) (l : List (Int × Int)) : SlP (w.alloc (.cells (flatP l).toArray 66)) (some ⟨w.heap.size, 0, none⟩) l := by
  refine .inr ⟨w.heap.size, 0, rfl, by simp, fun i hi => ?_⟩
  have k := flatP_at l i hi
  rw [Nat.zero_add]
  refine ⟨?_, ?_⟩
  · simpa [go_sem] using k.1
  · simpa [go_sem] using k.2
theorem owns_but8 {w w' : World} {C B : Nat} {e : TypeId} {size n : Nat} {v : Value} {M : List Value} (h : w.ownsRow B e size v n M) (hb : But C (C + 1) w w') (hC : C < B) : w'.ownsRow B e size v n M := by
  refine ⟨h.1, ?_⟩
  rcases h.2 with ⟨rfl, h0⟩ | ⟨g, cap, cur, rfl, hB, hg, r⟩
  · exact .inl ⟨rfl, h0⟩
  · refine .inr ⟨g, cap, cur, rfl, hB, ?_, r⟩
    rw [hb.block g (Array.getElem?_eq_some_iff.1 hg).1 (.inr (by omega))]
    exact hg
theorem near_mk {x y : Int} (h0 : -100000 ≤ x) (h1 : x ≤ 100000) (h2 : -100000 ≤ y) (h3 : y ≤ 100000) : Near (x, y) := ⟨h0, h1, h2, h3⟩
theorem rt_at {B : Nat} {w : World} {a : Option Addr} {n c : Nat} {l : List (Int × Int)} (h : RtP B w a n c l) (h0 : 0 < n) : ∃ G, a = some ⟨G, 0, none⟩ ∧ B ≤ G := by
  rcases h.own with h1 | ⟨G, e, hG, _⟩
  · omega
  · exact ⟨G, e, hG⟩
theorem rt_ar {B : Nat} {w : World} {a : Option Addr} {n c : Nat} {l : List (Int × Int)} (h : RtP B w a n c l) (h0 : 0 < n) : ArP w a n c l := by
  rcases h.own with h1 | ⟨G, rfl, _, ho⟩
  · omega
  · exact ho.arg
end Go.Proofs.YtcgbpcipdanfhaaDoor
namespace Go.Proofs.YtcgbpcipdanfhaaDoor
open Go.RowKit
set_option linter.unusedVariables false
set_option maxRecDepth 100000
set_option linter.unusedSimpArgs false

set_option maxHeartbeats 4000000 in
theorem headI (x y : Nat) (w : World) (h1 : x ≤ 10) (h2 : y ≤ 10) :
    Calls Tryd.prog 61 #[.int .i64 (x : Int), .int .i64 (y : Int)] w fun e w' => e = .returned (.string (st (hd15 x y))) ∧ w' = w := by
  have la := dd_len 1 x (by omega)
  have lb := dd_len 1 y (by omega)
  have C1 := hide (fun w => Tryd.strconv_Itoa_small x (by omega) w)
  have C2 := hide (fun w => Tryd.strconv_Itoa_small y (by omega) w)
  obtain ⟨A, hA⟩ : ∃ A, A = Lib.decDigits x := ⟨_, rfl⟩
  obtain ⟨B, hB⟩ : ∃ B, B = Lib.decDigits y := ⟨_, rfl⟩
  rw [← hA] at la
  rw [← hB] at lb
  obtain ⟨K1, c1⟩ : ∃ K, ({ data := #[80, 53, 10] } : ByteArray) = K ∧ K = st [80, 53, 10] := ⟨_, rfl, rfl⟩
  obtain ⟨K2, c2⟩ : ∃ K, ({ data := #[32] } : ByteArray) = K ∧ K = st [32] := ⟨_, rfl, rfl⟩
  obtain ⟨K3, c3⟩ : ∃ K, ({ data := #[10, 50, 53, 53, 10] } : ByteArray) = K ∧ K = st [10, 50, 53, 53, 10] := ⟨_, rfl, rfl⟩
  obtain ⟨T1, t1⟩ : ∃ T, T = [80, 53, 10] ++ A := ⟨_, rfl⟩
  obtain ⟨T2, t2⟩ : ∃ T, T = T1 ++ [32] := ⟨_, rfl⟩
  obtain ⟨T3, t3⟩ : ∃ T, T = T2 ++ B := ⟨_, rfl⟩
  obtain ⟨T4, t4⟩ : ∃ T, T = T3 ++ [10, 50, 53, 53, 10] := ⟨_, rfl⟩
  have l1 : T1.length ≤ 5 := by rw [t1]; simp; omega
  have l2 : T2.length ≤ 6 := by rw [t2]; simp; omega
  have l3 : T3.length ≤ 8 := by rw [t3]; simp; omega
  have A1 : K1 ++ st A = st T1 := by rw [c1.2, st_add, t1]
  have A2 : st T1 ++ K2 = st T2 := by rw [c2.2, st_add, t2]
  have A3 : st T2 ++ st B = st T3 := by rw [st_add, t3]
  have A4 : st T3 ++ K3 = st T4 := by rw [c3.2, st_add, t4]
  have z1 : K1.size + (st A).size ≤ 9223372036854775807 := by rw [c1.2, st_size, st_size]; simp; omega
  have z2 : (st T1).size + K2.size ≤ 9223372036854775807 := by rw [c2.2, st_size, st_size]; simp; omega
  have z3 : (st T2).size + (st B).size ≤ 9223372036854775807 := by rw [st_size, st_size]; omega
  have z4 : (st T3).size + K3.size ≤ 9223372036854775807 := by rw [c3.2, st_size, st_size]; simp; omega
  have EH : Hid (hd15 x y = T4) := hide (by rw [t4, t3, t2, t1, hA, hB]; rfl)
  replace c1 := c1.1
  replace c2 := c2.1
  replace c3 := c3.1
  clear t1 t2 t3 t4
  clear h1 h2 la lb l1 l2 l3
  have D1 : Hid (∀ w, Calls Tryd.prog 73 #[.int .i64 (x : Int)] w fun e w' => e = .returned (.string (st A)) ∧ w' = w) := hide (by rw [hA]; exact unhide C1)
  have D2 : Hid (∀ w, Calls Tryd.prog 73 #[.int .i64 (y : Int)] w fun e w' => e = .returned (.string (st B)) ∧ w' = w) := hide (by rw [hB]; exact unhide C2)
  replace hA := hide hA
  replace hB := hide hB
  clear C1 C2
  go_enter Tryd.func61, Tryd.ntmps61
  go_wp2_with fail
  refine (unhide D1 _).mono ?_
  rintro e w1 ⟨rfl, rfl⟩
  go_wp2_with fail
  refine (unhide D2 _).mono ?_
  rintro e w2 ⟨rfl, rfl⟩
  go_wp2_with fail
  go_ret
  exact ⟨by rw [unhide EH]; rfl, rfl⟩
theorem map_take15 {xs : List Int} {i : Nat} (h : i < xs.length) : (xs.take (i + 1)).map by8 = (xs.take i).map by8 ++ [by8 (xs.getD i 0)] := by rw [take_succ14 h, List.map_append]; rfl
/-- A picture's text. -/
def pic15 (x y : Nat) (xs : List Int) : List UInt8 := hd15 x y ++ xs.map by8
theorem byo_wrap {x : Int} (h : byo x = false) : IntKind.u8.wrap x = x := by
  have := byo_in x
  rw [h] at this
  simp at this
  rw [IntKind.wrap_u8]; omega
theorem any_at15 {xs : List Int} (h : xs.any byo = false) {i : Nat} (hi : i < xs.length) : byo (xs.getD i 0) = false := by
  rw [getD_at14 hi]
  exact Bool.eq_false_iff.2 (fun k => by rw [List.any_eq_true.2 ⟨_, List.getElem_mem hi, k⟩] at h; cases h)
set_option maxHeartbeats 8000000 in
theorem picS (x y : Nat) (a : Option Addr) (n c : Nat) (xs : List Int) (w : World) (h : Arg w a n c xs) (h1 : x ≤ 10) (h2 : y ≤ 10) (hn : n ≤ 100) (hg : xs.any byo = false) :
    Calls Tryd.prog 64 #[.int .i64 (x : Int), .int .i64 (y : Int), .slice a n c] w fun e w' => e = .returned (.string (st (pic15 x y xs))) ∧ Below w.heap.size w w' := by
  have la := dd_len 1 x (by omega)
  have lb := dd_len 1 y (by omega)
  have C1 := hide (fun w => numS 1 x (by omega) (by omega) w)
  have C2 := hide (fun w => numS 1 y (by omega) (by omega) w)
  have HS := hide h.sl
  have HN := hide h.len
  have HG := hide hg
  obtain ⟨A, hA⟩ : ∃ A, A = Lib.decDigits x := ⟨_, rfl⟩
  obtain ⟨B, hB⟩ : ∃ B, B = Lib.decDigits y := ⟨_, rfl⟩
  rw [← hA] at la
  rw [← hB] at lb
  obtain ⟨K1, c1⟩ : ∃ K, ({ data := #[80, 53, 10] } : ByteArray) = K ∧ K = st [80, 53, 10] := ⟨_, rfl, rfl⟩
  obtain ⟨K2, c2⟩ : ∃ K, ({ data := #[32] } : ByteArray) = K ∧ K = st [32] := ⟨_, rfl, rfl⟩
  obtain ⟨K3, c3⟩ : ∃ K, ({ data := #[10, 50, 53, 53, 10] } : ByteArray) = K ∧ K = st [10, 50, 53, 53, 10] := ⟨_, rfl, rfl⟩
  obtain ⟨T1, t1⟩ : ∃ T, T = [80, 53, 10] ++ A := ⟨_, rfl⟩
  obtain ⟨T2, t2⟩ : ∃ T, T = T1 ++ [32] := ⟨_, rfl⟩
  obtain ⟨T3, t3⟩ : ∃ T, T = T2 ++ B := ⟨_, rfl⟩
  obtain ⟨T4, t4⟩ : ∃ T, T = T3 ++ [10, 50, 53, 53, 10] := ⟨_, rfl⟩
  have l1 : T1.length ≤ 5 := by rw [t1]; simp; omega
  have l2 : T2.length ≤ 6 := by rw [t2]; simp; omega
  have l3 : T3.length ≤ 8 := by rw [t3]; simp; omega
  have A1 : K1 ++ st A = st T1 := by rw [c1.2, st_add, t1]
  have A2 : st T1 ++ K2 = st T2 := by rw [c2.2, st_add, t2]
  have A3 : st T2 ++ st B = st T3 := by rw [st_add, t3]
  have A4 : st T3 ++ K3 = st T4 := by rw [c3.2, st_add, t4]
  have z1 : K1.size + (st A).size ≤ 9223372036854775807 := by rw [c1.2, st_size, st_size]; simp; omega
  have z2 : (st T1).size + K2.size ≤ 9223372036854775807 := by rw [c2.2, st_size, st_size]; simp; omega
  have z3 : (st T2).size + (st B).size ≤ 9223372036854775807 := by rw [st_size, st_size]; omega
  have z4 : (st T3).size + K3.size ≤ 9223372036854775807 := by rw [c3.2, st_size, st_size]; simp; omega
  have EH : Hid (hd15 x y = T4) := hide (by rw [t4, t3, t2, t1, hA, hB]; rfl)
  replace c1 := c1.1
  replace c2 := c2.1
  replace c3 := c3.1
  clear t1 t2 t3 t4
  have l4 : T4.length ≤ 20 := by rw [← unhide EH]; exact hd_len h1 h2
  have EP : Hid (pic15 x y xs = T4 ++ xs.map by8) := hide (by unfold pic15; rw [unhide EH])
  clear h h1 h2 hg la lb l1 l2 l3 EH
  have D1 : Hid (∀ w : World, Calls Tryd.prog 75 #[.int .i64 (x : Int)] w fun e w' => e = .returned (.string (st A)) ∧ Below w.heap.size w w') := hide (by rw [hA]; exact unhide C1)
  have D2 : Hid (∀ w : World, Calls Tryd.prog 75 #[.int .i64 (y : Int)] w fun e w' => e = .returned (.string (st B)) ∧ Below w.heap.size w w') := hide (by rw [hB]; exact unhide C2)
  replace hA := hide hA
  replace hB := hide hB
  clear C1 C2
  go_enter Tryd.func64, Tryd.ntmps64
  go_wp2_with fail
  refine (unhide D1 _).mono ?_
  rintro e w1 ⟨rfl, hb⟩
  have HB0 := hide hb
  clear hb
  go_wp2_with fail
  refine (unhide D2 _).mono ?_
  rintro e w2 ⟨rfl, hb⟩
  replace HB0 := hide (below_on (unhide HB0) hb)
  clear hb D1 D2
  go_wp2
  clear A1 A2 A3 A4 z1 z2 z3 z4 c1 c2 c3
  go_loopw [7, 20] (fun sv iv wr => ∃ (i : Nat), i ≤ n ∧ iv = .int .i64 i ∧ sv = .string (st (T4 ++ (xs.take i).map by8)) ∧ Hid (Below w.heap.size w wr)) (fun _ iv _ => n - (intOf iv).toNat)
  case atStart => exact ⟨0, Nat.zero_le _, rfl, by simp, HB0⟩
  case round =>
    clear HB0
    obtain ⟨i, hi, rfl, rfl, HB⟩ := hrel
    by_cases hlt : i < n
    · have hlt' : (i : Int) < (n : Int) := by omega
      have hil : i < xs.length := by rw [unhide HN]; exact hlt
      rcases unhide HS with e | ⟨b, off, rfl, hb, hc⟩
      · exact absurd (unhide HN) (by rw [e]; simp; omega)
      have e0 := hc i hil
      have ME := map_take15 hil
      have wb := byo_wrap (any_at15 (unhide HG) hil)
      obtain ⟨v, hv⟩ : ∃ v, v = xs.getD i 0 := ⟨_, rfl⟩
      rw [← hv] at e0 ME wb
      have E0 : wr.cell? ⟨b, off + i, none⟩ = some (.int .i64 v) := ((unhide HB).cell (p := ⟨b, off + i, none⟩) hb).trans e0
      have LL : (T4 ++ (xs.take i).map by8).length ≤ 200 := by simp; omega
      obtain ⟨L, hL⟩ : ∃ L, L = T4 ++ (xs.take i).map by8 := ⟨_, rfl⟩
      obtain ⟨L2, hL2⟩ : ∃ L, L = T4 ++ (xs.take (i + 1)).map by8 := ⟨_, rfl⟩
      have AD : st L ++ st [by8 v] = st L2 := by rw [st_add, hL2, ME, hL, List.append_assoc]
      have zz : (st L).size + (st [by8 v]).size ≤ 9223372036854775807 := by rw [st_size, st_size, hL]; simp at LL ⊢; omega
      have cv := conv1 wr.heap.size v (wr.alloc (.cells #[.int .u8 v] 5)) (by simp [go_sem])
      have HB2 : Hid (Below w.heap.size w (wr.alloc (.cells #[.int .u8 v] 5))) := hide ((unhide HB).alloc (unhide HB).size _)
      rw [← hL]
      replace hL2 := hide hL2
      clear hL LL ME e0 hc hv HB
      go_wp2
      go_roundw
      case rel => exact ⟨i + 1, by omega, by go_num, by rw [unhide hL2], HB2⟩
      case measure => simp [intOf]; omega
    · obtain rfl : i = n := by omega
      have EX : Hid (pic15 x y xs = T4 ++ (xs.take i).map by8) := hide (by rw [unhide EP, ← unhide HN, List.take_length])
      go_wp2
      go_ret
      exact ⟨by rw [unhide EX]; rfl, unhide HB⟩
theorem infoU8 : (Tryd.prog.info? 5).map (fun i => (i.zero, i.size, i.bytes)) = some (some (.int .u8 0), 1, 1) := by kernel_rfl
/-- A row of bytes of one's own. -/
structure RwY (B : Nat) (w : World) (v : Value) (n : Nat) (L : List Int) : Prop where
  row : w.ownsRow B 5 1 v n (L.map (Value.int .u8))
theorem RwY.put {B g n c : Nat} {w : World} {L : List Int} (h : RwY B w (.slice (some ⟨g, 0, none⟩) n c) n L) (k : Nat) (x : Int) : RwY B (w.setCell ⟨g, k, none⟩ (.int .u8 x)) (.slice (some ⟨g, 0, none⟩) n c) n (L.set k x) := by
  refine ⟨?_⟩
  rw [List.map_set]
  exact (World.ownsRow.stored h.row k (.int .u8 x)).1
set_option maxHeartbeats 8000000 in
theorem textI (a : Option Addr) (n c : Nat) (xs : List Int) (w : World) (h : Arg w a n c xs) (hn : n ≤ 100) (hg : xs.any byo = false) :
    Calls Tryd.prog 62 #[.slice a n c] w fun e w' => e = .returned (.string (st (xs.map by8))) ∧ Below w.heap.size w w' := by
  obtain ⟨i0, hi0, hz0, hz1, hz2⟩ := info_parts infoU8
  have HS := hide h.sl
  have HN := hide h.len
  have HG := hide hg
  clear h hg
  go_enter Tryd.func62, Tryd.ntmps62
  go_wp2_with (at_make; refine wpList_make_full _ rfl _ _ 22 rfl w.heap.size 5 i0 (.int .u8 0) 1 Tryd.underlying22 hi0 hz0 hz1 .i64 .i64 _ _ n rfl rfl rfl rfl ?c1 ?c2 ?c3 ?_)
  case c1 => rw [hz2]; omega
  case c2 => unfold maxLen; omega
  case c3 => exact Nat.le_refl _
  intro w0 hown hgrow
  have P0 : Hid (RwY w.heap.size w0 (.slice (some ⟨w.heap.size, 0, none⟩) n n) n (yl15 xs n 0)) := hide ⟨by
    have e : (yl15 xs n 0).map (Value.int .u8) = (madeCells #[Value.int .u8 0] n).toList := by simp only [madeCells, yl15]; apply List.ext_getElem <;> simp [Nat.mod_one]
    rw [e]
    exact hown⟩
  have B0 : Hid (Below w.heap.size w w0) := hide ((Below.refl _ _).grown hgrow (Nat.le_refl _) (fun k e => by cases e))
  have gs : w.heap.size < w0.heap.size := by
    rcases (unhide P0).row.2 with ⟨e, _⟩ | ⟨g', cap, cur, hv, h1, hg, _⟩
    · simp at e
    · simp only [Value.slice.injEq, Option.some.injEq, Addr.mk.injEq, and_true, true_and] at hv
      have := (Array.getElem?_eq_some_iff.1 hg).1
      omega
  clear hown hgrow
  generalize hgq : w.heap.size = g at *
  go_wp2
  go_loopw [11] (fun iv wr => ∃ (i : Nat), i ≤ n ∧ iv = .int .i64 i ∧ Hid (RwY g wr (.slice (some ⟨g, 0, none⟩) n n) n (yl15 xs n i)) ∧ g < wr.heap.size ∧ Hid (Below g w wr)) (fun iv _ => n - (intOf iv).toNat)
  case atStart => exact ⟨0, Nat.zero_le _, rfl, P0, gs, B0⟩
  case round =>
    clear B0 P0 gs
    obtain ⟨i, hi, rfl, R, gs, HB⟩ := hrel
    by_cases hlt : i < n
    · have hlt' : (i : Int) < (n : Int) := by omega
      have hil : i < xs.length := by rw [unhide HN]; exact hlt
      rcases unhide HS with e | ⟨b, off, rfl, hb, hc⟩
      · exact absurd (unhide HN) (by rw [e]; simp; omega)
      have e0 := hc i hil
      have wb := byo_wrap (any_at15 (unhide HG) hil)
      have R2 := (unhide R).put i (xs.getD i 0)
      rw [yl_set (unhide HN) hlt] at R2
      obtain ⟨v, hv⟩ : ∃ v, v = xs.getD i 0 := ⟨_, rfl⟩
      rw [← hv] at e0 wb R2
      have E0 : wr.cell? ⟨b, off + i, none⟩ = some (.int .i64 v) := ((unhide HB).cell (p := ⟨b, off + i, none⟩) (by rw [← hgq]; exact hb)).trans e0
      have hr := (unhide R).row
      have old : ∃ u, wr.cell? ⟨g, i, none⟩ = some u := by
        rw [hr.cellAt _ (by omega), List.getElem?_eq_getElem (by rw [List.length_map, yl_len (unhide HN) hi]; omega)]
        exact ⟨_, rfl⟩
      obtain ⟨u, hu⟩ := old
      have fr : ∀ o, wr.frozen? ⟨g, o, none⟩ = false := fun o => hr.frozenAt o
      have RN := hide R2
      have HB2 := hide (set_bel15 (k := i) (u := .int .u8 v) (unhide HB) (Nat.le_refl g) gs)
      have gs2 : g < (wr.setCell ⟨g, i, none⟩ (.int .u8 v)).heap.size := by simpa using gs
      clear e0 hc hv hr R R2 HB
      go_wp2
      go_roundw
      case rel => exact ⟨i + 1, by omega, by go_num, RN, gs2, HB2⟩
      case measure => simp [intOf]; omega
    · obtain rfl : i = n := by omega
      have hr := (unhide R).row
      have EX : yl15 xs i i = xs := by unfold yl15; rw [← unhide HN, List.take_length]; simp
      rw [EX] at hr
      have cv := run_convert_bytes_arg wr 22 5 Tryd.underlying22 Tryd.underlying5 g 0 i i xs (unhide HN) (fun j hj => by
        rw [Nat.zero_add, hr.cellAt _ (by omega)]
        have hj' : j < xs.length := by rw [unhide HN]; exact hj
        simp [hj', List.getD]) 9 Tryd.underlying9
      clear hr EX R
      go_wp2
      go_ret
      exact ⟨rfl, by rw [hgq]; exact unhide HB⟩
/-- What PictureBytes tells. -/
def pbB (x y : Int) (xs : List Int) : Bool := gP15 x y (xs.length : Int) && !xs.any byo
def pbV (x y : Int) (xs : List Int) : ByteArray := if pbB x y xs = true then st (pic15 x.toNat y.toNat xs) else st []
set_option maxHeartbeats 4000000 in
theorem PictureBytesI (a : Option Addr) (n c : Nat) (xs : List Int) (x y : Int) (w : World) (h : Arg w a n c xs) (h1 : n ≤ 1048576) (zx : -9223372036854775808 ≤ x ∧ x ≤ 9223372036854775807) (zy : -9223372036854775808 ≤ y ∧ y ≤ 9223372036854775807) :
    Calls Tryd.prog 27 #[.int .i64 x, .int .i64 y, .slice a n c] w fun e w' => e = .returned (.tuple #[.string (pbV x y xs), .bool (pbB x y xs)]) ∧ Below w.heap.size w w' := by
  have HA := hide h
  have hl := h.len
  have C1 := hide (fun w => goodPicI x y (n : Int) w)
  rw [show gP15 x y (n : Int) = gP15 x y (xs.length : Int) by rw [hl]] at C1
  cases hg : gP15 x y (xs.length : Int)
  · rw [hg] at C1
    have EB : pbB x y xs = false := by unfold pbB; rw [hg]; rfl
    have EV : pbV x y xs = st [] := by unfold pbV; rw [EB]; rfl
    rw [EV, EB]
    clear hg EB EV h hl zx zy
    have HB := hide (Below.refl w.heap.size w)
    go_enter Tryd.func27, Tryd.ntmps27
    go_wp2_with fail
    refine (unhide C1 _).mono ?_
    rintro e w1 ⟨rfl, rfl⟩
    go_wp2_with fail
    go_ret2
    exact ⟨rfl, unhide HB⟩
  · rw [hg] at C1
    have C2 := hide (fun w (k : Arg w a n c xs) => containsByo a n c xs w k)
    cases hb : xs.any byo
    · rw [hb] at C2
      have EB : pbB x y xs = true := by unfold pbB; rw [hg, hb]; rfl
      have EV : pbV x y xs = st (pic15 x.toNat y.toNat xs) := by unfold pbV; rw [EB]; rfl
      rw [EV, EB]
      obtain ⟨g1, g2, g3⟩ := gP_in15 hg
      have mb := mul15 g1 g2
      obtain ⟨X, rfl⟩ : ∃ X : Nat, x = (X : Int) := ⟨x.toNat, by omega⟩
      obtain ⟨Y, rfl⟩ : ∃ Y : Nat, y = (Y : Int) := ⟨y.toNat, by omega⟩
      have hn : n ≤ 100 := by omega
      have C3 := hide (fun w => headI X Y w (by omega) (by omega))
      have C4 := hide (fun w (k : Arg w a n c xs) => textI a n c xs w k hn hb)
      have lh := hd_len (x := X) (y := Y) (by omega) (by omega)
      have AD : st (hd15 X Y) ++ st (xs.map by8) = st (pic15 X Y xs) := by rw [st_add]; rfl
      have zz : (st (hd15 X Y)).size + (st (xs.map by8)).size ≤ 9223372036854775807 := by rw [st_size, st_size, List.length_map]; omega
      rw [Int.toNat_natCast, Int.toNat_natCast]
      generalize hd15 X Y = H1 at *
      generalize xs.map by8 = H2 at *
      generalize pic15 X Y xs = H3 at *
      clear hg hb EB EV h hl zx zy g1 g2 g3 mb lh
      have HB := hide (Below.refl w.heap.size w)
      go_enter Tryd.func27, Tryd.ntmps27
      go_wp2_with fail
      refine (unhide C1 _).mono ?_
      rintro e w1 ⟨rfl, rfl⟩
      go_wp2_with fail
      refine (unhide C2 _ (unhide HA)).mono ?_
      rintro e w2 ⟨rfl, hb⟩
      replace HA := hide ((unhide HA).later hb)
      replace HB := hide (below_on (unhide HB) hb)
      clear hb
      go_wp2_with fail
      refine (unhide C3 _).mono ?_
      rintro e w3 ⟨rfl, rfl⟩
      go_wp2_with fail
      refine (unhide C4 _ (unhide HA)).mono ?_
      rintro e w4 ⟨rfl, hb⟩
      replace HA := hide ((unhide HA).later hb)
      replace HB := hide (below_on (unhide HB) hb)
      clear hb
      go_wp2_with fail
      go_ret2
      exact ⟨rfl, unhide HB⟩
    · rw [hb] at C2
      have EB : pbB x y xs = false := by unfold pbB; rw [hg, hb]; rfl
      have EV : pbV x y xs = st [] := by unfold pbV; rw [EB]; rfl
      rw [EV, EB]
      clear hg hb EB EV h hl zx zy
      have HB := hide (Below.refl w.heap.size w)
      go_enter Tryd.func27, Tryd.ntmps27
      go_wp2_with fail
      refine (unhide C1 _).mono ?_
      rintro e w1 ⟨rfl, rfl⟩
      go_wp2_with fail
      refine (unhide C2 _ (unhide HA)).mono ?_
      rintro e w2 ⟨rfl, hb⟩
      replace HA := hide ((unhide HA).later hb)
      replace HB := hide (below_on (unhide HB) hb)
      clear hb
      go_wp2_with fail
      go_ret2
      exact ⟨rfl, unhide HB⟩
set_option maxHeartbeats 4000000 in
theorem PictureBytesS (a : Option Addr) (n c : Nat) (xs : List Int) (x y : Int) (w : World) (h : Arg w a n c xs) (h1 : n ≤ 1048576) (zx : -9223372036854775808 ≤ x ∧ x ≤ 9223372036854775807) (zy : -9223372036854775808 ≤ y ∧ y ≤ 9223372036854775807) :
    Calls Tryd.prog 28 #[.int .i64 x, .int .i64 y, .slice a n c] w fun e w' => e = .returned (.tuple #[.string (pbV x y xs), .bool (pbB x y xs)]) ∧ Below w.heap.size w w' := by
  have HA := hide h
  have hl := h.len
  have C1 := hide (fun w => inS15 x w)
  have C2 := hide (fun w => inS15 y w)
  have C3 := hide (fun w (k : Arg w a n c xs) => rowS15 a n c xs w k)
  cases b1 : inR x 1 10
  · rw [b1] at C1
    have EB : pbB x y xs = false := by unfold pbB gP15; rw [b1]; rfl
    have EV : pbV x y xs = st [] := by unfold pbV; rw [EB]; rfl
    rw [EV, EB]
    clear EB EV h hl zx zy b1 C2 C3
    have HB := hide (Below.refl w.heap.size w)
    go_enter Tryd.func28, Tryd.ntmps28
    go_wp2_with fail
    refine (unhide C1 _).mono ?_
    rintro e w1 ⟨rfl, rfl⟩
    go_wp2_with fail
    go_ret2
    exact ⟨rfl, unhide HB⟩
  · rw [b1] at C1
    cases b2 : inR y 1 10
    · rw [b2] at C2
      have EB : pbB x y xs = false := by unfold pbB gP15; rw [b1, b2]; rfl
      have EV : pbV x y xs = st [] := by unfold pbV; rw [EB]; rfl
      rw [EV, EB]
      clear EB EV h hl zx zy b1 b2 C3
      have HB := hide (Below.refl w.heap.size w)
      go_enter Tryd.func28, Tryd.ntmps28
      go_wp2_with fail
      refine (unhide C1 _).mono ?_
      rintro e w1 ⟨rfl, rfl⟩
      go_wp2_with fail
      refine (unhide C2 _).mono ?_
      rintro e w2 ⟨rfl, rfl⟩
      go_wp2_with fail
      go_ret2
      exact ⟨rfl, unhide HB⟩
    · rw [b2] at C2
      have g1 := inR_in15 b1
      have g2 := inR_in15 b2
      have mb := mul15 g1 g2
      have wm2 : wrap64 (x * y) = x * y := by unfold wrap64; omega
      by_cases b3 : (n : Int) = x * y
      · have d3 : ((n : Int) != x * y) = false := by rw [b3]; simp
        have eg : gP15 x y (xs.length : Int) = true := by unfold gP15; rw [b1, b2, hl, b3]; simp
        have er : rB15 xs = !xs.any byo := by unfold rB15; rw [hl, decide_eq_true (by omega)]; rfl
        rw [er] at C3
        cases hb : xs.any byo
        · rw [hb] at C3
          have EB : pbB x y xs = true := by unfold pbB; rw [eg, hb]; rfl
          have EV : pbV x y xs = st (pic15 x.toNat y.toNat xs) := by unfold pbV; rw [EB]; rfl
          rw [EV, EB]
          have C4 := hide (fun w (k : Arg w a n c xs) => picS x.toNat y.toNat a n c xs w k (by omega) (by omega) (by omega) hb)
          rw [show ((x.toNat : Nat) : Int) = x by omega, show ((y.toNat : Nat) : Int) = y by omega] at C4
          generalize pic15 x.toNat y.toNat xs = H3 at *
          replace b3 := hide b3
          clear EB EV h hl zx zy b1 b2 eg er hb g1 g2 mb
          have HB := hide (Below.refl w.heap.size w)
          go_enter Tryd.func28, Tryd.ntmps28
          go_wp2_with fail
          refine (unhide C1 _).mono ?_
          rintro e w1 ⟨rfl, rfl⟩
          go_wp2_with fail
          refine (unhide C2 _).mono ?_
          rintro e w2 ⟨rfl, rfl⟩
          go_wp2_with fail
          refine (unhide C3 _ (unhide HA)).mono ?_
          rintro e w3 ⟨rfl, hb⟩
          replace HA := hide ((unhide HA).later hb)
          replace HB := hide (below_on (unhide HB) hb)
          clear hb
          go_wp2_with fail
          refine (unhide C4 _ (unhide HA)).mono ?_
          rintro e w4 ⟨rfl, hb⟩
          replace HA := hide ((unhide HA).later hb)
          replace HB := hide (below_on (unhide HB) hb)
          clear hb
          go_wp2_with fail
          go_ret2
          exact ⟨rfl, unhide HB⟩
        · rw [hb] at C3
          have EB : pbB x y xs = false := by unfold pbB; rw [hb]; simp
          replace b3 := hide b3
          have EV : pbV x y xs = st [] := by unfold pbV; rw [EB]; rfl
          rw [EV, EB]
          clear EB EV h hl zx zy b1 b2 eg er hb g1 g2 mb
          have HB := hide (Below.refl w.heap.size w)
          go_enter Tryd.func28, Tryd.ntmps28
          go_wp2_with fail
          refine (unhide C1 _).mono ?_
          rintro e w1 ⟨rfl, rfl⟩
          go_wp2_with fail
          refine (unhide C2 _).mono ?_
          rintro e w2 ⟨rfl, rfl⟩
          go_wp2_with fail
          refine (unhide C3 _ (unhide HA)).mono ?_
          rintro e w3 ⟨rfl, hb⟩
          replace HA := hide ((unhide HA).later hb)
          replace HB := hide (below_on (unhide HB) hb)
          clear hb
          go_wp2_with fail
          go_ret2
          exact ⟨rfl, unhide HB⟩
      · have d3 : ((n : Int) != x * y) = true := by simpa using b3
        have EB : pbB x y xs = false := by unfold pbB gP15; rw [hl, show ((n : Int) == x * y) = false from beq_eq_false_iff_ne.2 b3]; simp
        have EV : pbV x y xs = st [] := by unfold pbV; rw [EB]; rfl
        rw [EV, EB]
        clear EB EV h hl zx zy b1 b2 b3 C3 g1 g2 mb
        have HB := hide (Below.refl w.heap.size w)
        go_enter Tryd.func28, Tryd.ntmps28
        go_wp2_with fail
        refine (unhide C1 _).mono ?_
        rintro e w1 ⟨rfl, rfl⟩
        go_wp2_with fail
        refine (unhide C2 _).mono ?_
        rintro e w2 ⟨rfl, rfl⟩
        go_wp2_with fail
        go_ret2
        exact ⟨rfl, unhide HB⟩
end Go.Proofs.YtcgbpcipdanfhaaDoor
namespace Go.Proofs.YtcgbpcipdanfhaaDoor
open Go.RowKit
set_option linter.unusedVariables false
set_option maxRecDepth 100000
set_option linter.unusedSimpArgs false

set_option maxHeartbeats 2000000 in
theorem sameI15 (a a' : Option Addr) (n c c' : Nat) (L : List Int) (w : World) (h : Sl w a L) (h' : Sl w a' L) (hn : L.length = n) (hm : n ≤ 1048576) :
    Calls Tryd.prog 14 #[.slice a n c, .slice a' n c'] w fun e w' => e = .returned (.bool true) ∧ Below w.heap.size w w' := by
  have HS := hide h
  have HS' := hide h'
  have HN := hide hn
  clear h h' hn
  go_enter Tryd.func14, Tryd.ntmps14
  go_wp2_with fail
  go_loopw [13] (fun iv wr => ∃ i : Nat, i ≤ n ∧ iv = .int .i64 i ∧ Hid (Below w.heap.size w wr)) (fun iv _ => n - (intOf iv).toNat)
  case atStart => exact ⟨0, Nat.zero_le _, rfl, hide (Below.refl _ _)⟩
  case round =>
    obtain ⟨i, hi, rfl, HB⟩ := hrel
    by_cases hlt : i < n
    · have hlt' : (i : Int) < (n : Int) := by omega
      have k : ∃ b off, a = some ⟨b, off, none⟩ ∧ wr.cell? ⟨b, off + i, none⟩ = some (.int .i64 (L.getD i 0)) := by
        rcases unhide HS with e | ⟨b, off, e, hb, hc⟩
        · have := unhide HN; rw [e] at this; simp at this; omega
        · exact ⟨b, off, e, ((unhide HB).cell (p := ⟨b, off + i, none⟩) hb).trans (hc i (by rw [unhide HN]; exact hlt))⟩
      have k' : ∃ b off, a' = some ⟨b, off, none⟩ ∧ wr.cell? ⟨b, off + i, none⟩ = some (.int .i64 (L.getD i 0)) := by
        rcases unhide HS' with e | ⟨b, off, e, hb, hc⟩
        · have := unhide HN; rw [e] at this; simp at this; omega
        · exact ⟨b, off, e, ((unhide HB).cell (p := ⟨b, off + i, none⟩) hb).trans (hc i (by rw [unhide HN]; exact hlt))⟩
      obtain ⟨b1, o1, rfl, E1⟩ := k
      obtain ⟨b2, o2, rfl, E2⟩ := k'
      generalize L.getD i 0 = v at *
      have ev : (v != v) = false := by simp
      clear HS HS'
      go_upto_region 6 with fail
      go_quiet (fail)
      go_wp2_with fail
      go_roundw
      case rel => exact ⟨i + 1, by omega, by go_num, hide (below_drewN (unhide HB) _)⟩
      case measure => simp [intOf]; omega
    · obtain rfl : i = n := by omega
      go_wp2_with fail
      go_ret
      exact ⟨rfl, unhide HB⟩
theorem RwI.but15 {B C : Nat} {w w' : World} {v : Value} {L : List Int} (h : RwI B w v L) (hb : But C (C + 1) w w') (hC : C < B) : RwI B w' v L := ⟨owns_but8 h.row hb hC⟩
theorem RwI.put15 {B g c : Nat} {w : World} {L : List Int} (h : RwI B w (.slice (some ⟨g, 0, none⟩) L.length c) L) (k : Nat) (x : Int) : RwI B (w.setCell ⟨g, k, none⟩ (.int .i64 x)) (.slice (some ⟨g, 0, none⟩) L.length c) (L.set k x) := by
  refine ⟨?_⟩
  rw [List.map_set, List.length_set]
  exact (World.ownsRow.stored h.row k (.int .i64 x)).1
/-- What a draw may tell of a row of bytes. -/
def BfD (C T : Nat) (w : World) (e : Ending) (w' : World) : Prop := ∃ (v : Value) (l : List Int), e = .returned v ∧ RwI w.heap.size w' v l ∧ l.length ≤ 33 ∧ Cur C T w' ∧ But C (C + 1) w w'
set_option maxHeartbeats 8000000 in
theorem bytesFor_v (C T : Nat) (f0 f1 x y : Int) (w : World) (h : Cur C T w) (hT : T ≤ 800000) (hx : 0 ≤ x ∧ x ≤ 11) (hy : 0 ≤ y ∧ y ≤ 3) :
    Calls Tryd.prog 59 #[.pointer (some ⟨C, 0, none⟩), .agg #[.int .i64 f0, .int .i64 f1, .int .i64 x, .int .i64 y]] w (BfD C (T + 200) w) := by
  obtain ⟨i0, hi, hz0, hz1, hz2⟩ := info_parts Tryd.info3
  have q0 : 0 ≤ x * y := Int.mul_nonneg hx.1 hy.1
  have q1 : x * y ≤ 11 * 3 := Int.le_trans (Int.mul_le_mul_of_nonneg_right hx.2 hy.1) (Int.mul_le_mul_of_nonneg_left hy.2 (by omega))
  obtain ⟨N, hN⟩ : ∃ N : Nat, x * y = (N : Int) := ⟨(x * y).toNat, by omega⟩
  have N33 : N ≤ 33 := by omega
  have wm : IntKind.i64.wrap (x * y) = (N : Int) := by rw [IntKind.wrap_i64]; omega
  have ltC := h.lt
  have CU : Hid (Cur C T (w.alloc (.cells #[.int .i64 f0, .int .i64 f1, .int .i64 x, .int .i64 y] 78))) := hide (h.later ((Below.refl _ _).alloc (Nat.le_refl _) _))
  have BT : Hid (But C (C + 1) w (w.alloc (.cells #[.int .i64 f0, .int .i64 f1, .int .i64 x, .int .i64 y] 78))) := hide ((But.refl _ _ _).on ((Below.refl _ _).alloc (Nat.le_refl _) _))
  have WB : Hid ((w.alloc (.cells #[.int .i64 f0, .int .i64 f1, .int .i64 x, .int .i64 y] 78)).cell? ⟨w.heap.size, 2, none⟩ = some (.int .i64 x) ∧ (w.alloc (.cells #[.int .i64 f0, .int .i64 f1, .int .i64 x, .int .i64 y] 78)).cell? ⟨w.heap.size, 3, none⟩ = some (.int .i64 y) ∧ w.heap.size < (w.alloc (.cells #[.int .i64 f0, .int .i64 f1, .int .i64 x, .int .i64 y] 78)).heap.size) := hide ⟨by simp [go_sem], by simp [go_sem], by simp⟩
  clear h q0 q1 hN
  go_enter Tryd.func59, Tryd.ntmps59
  go_wp2
  go_loopw [5, 6] (fun v nv wr => ∃ (j : Nat) (us : List Int), j ≤ N ∧ nv = .int .i64 j ∧ us.length = j ∧ Hid (RwI (w.heap.size + 1) wr v us) ∧ Hid (Cur C (T + 2 * j) wr) ∧ Hid (But C (C + 1) w wr) ∧ Hid (wr.cell? ⟨w.heap.size, 2, none⟩ = some (.int .i64 x) ∧ wr.cell? ⟨w.heap.size, 3, none⟩ = some (.int .i64 y) ∧ w.heap.size < wr.heap.size)) (fun _ nv _ => N - (intOf nv).toNat)
  case atStart => exact ⟨0, [], Nat.zero_le _, rfl, rfl, hide (RwI.nil _ _), CU, BT, WB⟩
  case round =>
    clear CU BT WB
    obtain ⟨j, us, hj, rfl, hl, HO, CU, BT, WB⟩ := hrel
    have LU := hide hl
    clear hl
    have e2 := (unhide WB).1
    have e3 := (unhide WB).2.1
    obtain ⟨av, cv, rfl, _⟩ := (unhide HO).sl
    by_cases hlt : j < N
    · have hlt' : (j : Int) < (N : Int) := by omega
      have al : Below wr.heap.size wr (wr.alloc (.cells #[.int .i64 0, .int .i64 0, .int .i64 0, .int .i64 255, .int .i64 255, .int .i64 128, .int .i64 7] 3)) := (Below.refl _ _).alloc (Nat.le_refl _) _
      have sw := (unhide WB).2.2
      have CU1 := hide ((unhide CU).later al)
      have HO1 := hide ((unhide HO).later al)
      have BT1 := hide ((unhide BT).on (al.mono (unhide BT).size))
      have WB1 : Hid ((wr.alloc (.cells #[.int .i64 0, .int .i64 0, .int .i64 0, .int .i64 255, .int .i64 255, .int .i64 128, .int .i64 7] 3)).cell? ⟨w.heap.size, 2, none⟩ = some (.int .i64 x) ∧ (wr.alloc (.cells #[.int .i64 0, .int .i64 0, .int .i64 0, .int .i64 255, .int .i64 255, .int .i64 128, .int .i64 7] 3)).cell? ⟨w.heap.size, 3, none⟩ = some (.int .i64 y) ∧ w.heap.size < (wr.alloc (.cells #[.int .i64 0, .int .i64 0, .int .i64 0, .int .i64 255, .int .i64 255, .int .i64 128, .int .i64 7] 3)).heap.size) := hide ⟨(al.cell (p := ⟨w.heap.size, 2, none⟩) sw).trans e2, (al.cell (p := ⟨w.heap.size, 3, none⟩) sw).trans e3, by simp; omega⟩
      have HC : Hid (∀ i, i < 7 → (wr.alloc (.cells #[.int .i64 0, .int .i64 0, .int .i64 0, .int .i64 255, .int .i64 255, .int .i64 128, .int .i64 7] 3)).cell? ⟨wr.heap.size, 0 + i, none⟩ = some (.int .i64 ([0, 0, 0, 255, 255, 128, 7].getD i 0))) := hide (fun i hi => by
        match i, hi with
        | 0, _ => simp [go_sem]
        | 1, _ => simp [go_sem]
        | 2, _ => simp [go_sem]
        | 3, _ => simp [go_sem]
        | 4, _ => simp [go_sem]
        | 5, _ => simp [go_sem]
        | 6, _ => simp [go_sem])
      have rC : wr.heap.size ≠ C := by omega
      clear al CU HO BT WB
      go_wp2_with fail
      refine (among_v C (T + 2 * j) wr.heap.size 0 7 7 [0, 0, 0, 255, 255, 128, 7] _ (unhide CU1) (by omega) (by omega) (by omega) rfl rC (by simp) (unhide HC)).mono ?_
      rintro e w3 ⟨z, rfl, _, c1, bt⟩
      have CU := hide c1
      have BT := hide ((unhide BT1).trans bt)
      have HO := hide ((unhide HO1).but15 bt (by omega))
      have sw3 : w.heap.size < w3.heap.size := Nat.lt_of_lt_of_le (unhide WB1).2.2 bt.size
      have d2 := bt.cell (unhide WB1).1 (.inr (by omega))
      have d3 := bt.cell (unhide WB1).2.1 (.inr (by omega))
      have WB := hide (And.intro d2 d3)
      clear c1 bt HC CU1 BT1 HO1 WB1 rC e2 e3 sw d2 d3
      have RA := hide ((unhide HO).row)
      go_wp2_with (at_builtin; refine wpList_append_own _ rfl (.tmp 16) (.tmp 20) 23 rfl (w.heap.size + 1) 3 i0 (.int .i64 0) 1 8 Tryd.underlying23 hi hz0 hz1 hz2 rfl (by decide) _ _ _ rfl ((unhide RA).alloc _) ⟨_, 0, none⟩ 1 1 [.int .i64 z] rfl rfl (new_cellI _ _) (fun u hu => by simp at hu; subst hu; rfl) (by rw [unhide LU]; unfold maxLen; omega) (by rw [unhide LU]; omega) (by simp; omega) ?_)
      intro v' w7 hown hgr _
      have HO2 : Hid (RwI (w.heap.size + 1) w7 v' (us ++ [z])) := hide (RwI.snoc hown)
      have PB := hide (owns_belowR (Below.refl (w.heap.size + 1) _) sw3 (unhide RA) hgr)
      have CU2 := hide ((unhide CU).below (unhide PB) (by omega))
      have BT2 := hide ((unhide BT).on ((unhide PB).mono (show w.heap.size ≤ w.heap.size + 1 by omega)))
      have WB2 : Hid (w7.cell? ⟨w.heap.size, 2, none⟩ = some (.int .i64 x) ∧ w7.cell? ⟨w.heap.size, 3, none⟩ = some (.int .i64 y) ∧ w.heap.size < w7.heap.size) := hide ⟨((unhide PB).cell (p := ⟨w.heap.size, 2, none⟩) (Nat.lt_succ_self _)).trans (unhide WB).1, ((unhide PB).cell (p := ⟨w.heap.size, 3, none⟩) (Nat.lt_succ_self _)).trans (unhide WB).2, Nat.lt_of_lt_of_le sw3 (unhide PB).size⟩
      have LU2 : Hid ((us ++ [z]).length = j + 1) := hide (by simp; exact unhide LU)
      clear hown hgr PB RA CU BT HO WB
      go_wp2
      go_roundw
      case rel => exact ⟨j + 1, us ++ [z], by omega, by go_num, unhide LU2, HO2, hide ((unhide CU2).mono (by omega)), BT2, WB2⟩
      case measure => simp [intOf] <;> omega
    · obtain rfl : j = N := by omega
      have lu := unhide LU
      have sz1 := (unhide BT).size
      clear LU
      subst lu
      by_cases h0 : us = []
      · subst h0
        go_wp2
        go_ret
        exact ⟨_, [], rfl, (unhide HO).mono (show w.heap.size ≤ w.heap.size + 1 by omega), by simp, (unhide CU).mono (by omega), unhide BT⟩
      · have g0 : (0 : Int) < (us.length : Int) := by have := List.length_pos_iff.2 h0; omega
        go_wp2_with fail
        refine (one_v C (T + 2 * us.length) 30 _ (unhide CU) (by omega) (by omega)).mono ?_
        rintro e w4 ⟨b, rfl, c1, bt⟩
        have CU4 := hide c1
        have BT4 := hide ((unhide BT).trans bt)
        have HO4 := hide ((unhide HO).but15 bt (by omega))
        clear c1 bt CU BT HO WB e2 e3
        cases b
        · go_wp2
          go_ret
          exact ⟨_, us, rfl, (unhide HO4).mono (show w.heap.size ≤ w.heap.size + 1 by omega), by omega, (unhide CU4).mono (by omega), unhide BT4⟩
        · have al : Below w4.heap.size w4 (w4.alloc (.cells #[.int .i64 (-1), .int .i64 256] 3)) := (Below.refl _ _).alloc (Nat.le_refl _) _
          have HC : Hid (∀ i, i < 2 → (w4.alloc (.cells #[.int .i64 (-1), .int .i64 256] 3)).cell? ⟨w4.heap.size, 0 + i, none⟩ = some (.int .i64 ([-1, 256].getD i 0))) := hide (fun i hi => by
            match i, hi with
            | 0, _ => simp [go_sem]
            | 1, _ => simp [go_sem])
          have s4 := (unhide BT4).size
          have rC : w4.heap.size ≠ C := by omega
          have CU5 := hide ((unhide CU4).later al)
          have HO5 := hide ((unhide HO4).later al)
          have BT5 := hide ((unhide BT4).on (al.mono s4))
          clear al CU4 HO4 BT4
          go_wp2_with fail
          refine (among_v C (T + 2 * us.length + 2) w4.heap.size 0 2 2 [-1, 256] _ (unhide CU5) (by omega) (by omega) (by omega) rfl rC (by simp) (unhide HC)).mono ?_
          rintro e w6 ⟨z, rfl, _, c1, bt⟩
          have CU := hide c1
          have BT := hide ((unhide BT5).trans bt)
          have HO := hide ((unhide HO5).but15 bt (by omega))
          clear c1 bt HC CU5 BT5 HO5 rC
          rcases (unhide HO).open with ⟨_, rfl⟩ | ⟨g, c', ev, hB, hg, _, _, hc⟩
          · exact absurd rfl h0
          · cases ev
            have e0 := hc 0 (by omega)
            have fr : ∀ o, w6.frozen? ⟨g, o, none⟩ = false := fun o => (unhide HO).row.frozenAt o
            have HO7 := hide ((unhide HO).put15 0 z)
            have sb : Below (w.heap.size + 1) w6 (w6.setCell ⟨g, 0, none⟩ (.int .i64 z)) := (Below.refl _ _).setCell hB _
            have CU7 := hide ((unhide CU).below sb (by omega))
            have BT7 := hide ((unhide BT).on (sb.mono (show w.heap.size ≤ w.heap.size + 1 by omega)))
            have i0' : (0 : Int) < (us.length : Int) := g0
            clear HO CU BT sb hc
            go_wp2
            go_ret
            exact ⟨_, us.set 0 z, rfl, (unhide HO7).mono (show w.heap.size ≤ w.heap.size + 1 by omega), by simp; omega, (unhide CU7).mono (by omega), unhide BT7⟩
/-- What a spoilt text may be. -/
def SpD (C T N : Nat) (w : World) (e : Ending) (w' : World) : Prop := ∃ t : ByteArray, e = .returned (.string t) ∧ t.size ≤ N + 2 ∧ Cur C T w' ∧ But C (C + 1) w w'
set_option maxHeartbeats 8000000 in
theorem spoilt_v (C T : Nat) (t s : ByteArray) (w : World) (h : Cur C T w) (hT : T ≤ 800000) (ht : t.size ≤ 1000) (hs1 : 1 ≤ s.size) (hs2 : s.size ≤ 1000) :
    Calls Tryd.prog 55 #[.pointer (some ⟨C, 0, none⟩), .string t, .string s] w (SpD C (T + 40) t.size w) := by
  obtain ⟨N, hN⟩ : ∃ N : Nat, t.size = N := ⟨_, rfl⟩
  rw [hN]
  have ltC := h.lt
  have CU := hide h
  have BT : Hid (But C (C + 1) w w) := hide (But.refl _ _ _)
  clear h
  go_enter Tryd.func55, Tryd.ntmps55
  go_wp2_with fail
  refine (pick_v C T 3 _ (unhide CU) (by omega) (by omega)).mono ?_
  rintro e w1 ⟨x, rfl, x0, x1, x2, c1, bt⟩
  replace CU := hide c1
  replace BT := hide ((unhide BT).trans bt)
  replace x1 := x1 (by omega)
  clear c1 bt x2
  obtain ⟨k0, hk0⟩ : ∃ k0 : Nat, x = (k0 : Int) := ⟨x.toNat, by omega⟩
  have k2 : k0 ≤ 2 := by omega
  subst hk0
  clear x0 x1
  have tN : t.size ≤ N + 0 := by omega
  have N1 : N ≤ 1000 := by omega
  clear hN ht
  go_wp2
  go_loopw [1, 7] (fun v nv wr => ∃ (k j : Nat) (t : ByteArray), j + k = k0 ∧ nv = .int .i64 k ∧ v = .string t ∧ t.size ≤ N + j ∧ j ≤ 2 ∧ Hid (Cur C (T + 2 + 8 * j) wr) ∧ Hid (But C (C + 1) w wr)) (fun _ nv _ => (intOf nv).toNat)
  case atStart => exact ⟨k0, 0, t, by omega, rfl, rfl, by omega, by omega, hide ((unhide CU).mono (by omega)), BT⟩
  case round =>
    clear CU BT tN t
    obtain ⟨k, j, t, hjk, rfl, rfl, tN, j2, CU, BT⟩ := hrel
    by_cases hk : k = 0
    · subst hk
      go_wp2
      go_ret
      exact ⟨t, rfl, by omega, (unhide CU).mono (by omega), unhide BT⟩
    obtain ⟨k, rfl⟩ : ∃ m, k = m + 1 := ⟨k - 1, by omega⟩
    have g0 : (0 : Int) < ((k + 1 : Nat) : Int) := by omega
    have wk : IntKind.i64.wrap (((k + 1 : Nat) : Int) - 1) = (k : Int) := by rw [IntKind.wrap_i64]; omega
    clear hk
    by_cases hz : t.size = 0
    · have gz : (t.size : Int) = 0 := by omega
      go_wp2
      go_ret
      exact ⟨t, rfl, by omega, (unhide CU).mono (by omega), unhide BT⟩
    have gz : (0 : Int) < (t.size : Int) := by omega
    clear hz
    go_wp2_with fail
    refine (pick_v C (T + 2 + 8 * j) (t.size : Int) _ (unhide CU) (by omega) (by omega)).mono ?_
    rintro e w1 ⟨x, rfl, x0, x1, x2, c1, bt⟩
    replace CU := hide c1
    replace BT := hide ((unhide BT).trans bt)
    replace x1 := x1 (by omega)
    clear c1 bt x2
    obtain ⟨i, hi⟩ : ∃ i : Nat, x = (i : Int) := ⟨x.toNat, by omega⟩
    subst hi
    have i1 : i < t.size := by omega
    clear x0
    go_wp2_with fail
    refine (pick_v C (T + 2 + 8 * j + 2) (s.size : Int) _ (unhide CU) (by omega) (by omega)).mono ?_
    rintro e w2 ⟨x, rfl, y0, y1, y2, c1, bt⟩
    replace CU := hide c1
    replace BT := hide ((unhide BT).trans bt)
    replace y1 := y1 (by omega)
    clear c1 bt y2
    obtain ⟨m, hm⟩ : ∃ m : Nat, x = (m : Int) := ⟨x.toNat, by omega⟩
    subst hm
    have m1 : m < s.size := by omega
    have m2 : (0 : Int) ≤ (m : Int) ∧ (m : Int) < (s.size : Int) := ⟨by omega, by omega⟩
    clear y0
    obtain ⟨bz, eb⟩ : ∃ bz : Int, ((s[m]'m1).toNat : Int) = bz := ⟨_, rfl⟩
    have cv := run_convert_bytes_arg (w2.alloc (.cells #[.int .u8 bz] 5)) 22 5 Tryd.underlying22 Tryd.underlying5 w2.heap.size 0 1 1 [bz] rfl (fun j hj => by
      obtain rfl : j = 0 := by omega
      simp [go_sem]) 9 Tryd.underlying9
    obtain ⟨u, hu, hu1⟩ : ∃ u : ByteArray, strOfNums [bz] = u ∧ u.size = 1 := ⟨_, rfl, by rw [show strOfNums [bz] = st [by8 bz] from rfl, st_size]; rfl⟩
    rw [hu] at cv
    have HU := hide hu1
    clear hu hu1
    have al : Below w2.heap.size w2 (w2.alloc (.cells #[.int .u8 bz] 5)) := (Below.refl _ _).alloc (Nat.le_refl _) _
    have CU1 := hide ((unhide CU).later al)
    have BT1 := hide ((unhide BT).on (al.mono (unhide BT).size))
    clear al CU BT
    go_wp2_with fail
    refine (pick_v C (T + 2 + 8 * j + 2 + 2) 3 _ (unhide CU1) (by omega) (by omega)).mono ?_
    rintro e w3 ⟨x, rfl, z0, z1, z2, c1, bt⟩
    have CU := hide c1
    have BT := hide ((unhide BT1).trans bt)
    replace z1 := z1 (by omega)
    clear c1 bt z2 CU1 BT1 cv eb
    have i2 : (0 : Int) ≤ (i : Int) ∧ (i : Int) ≤ (t.size : Int) := ⟨by omega, by omega⟩
    have i3 : (0 : Int) ≤ (i : Int) + 1 ∧ (i : Int) + 1 ≤ (t.size : Int) := ⟨by omega, by omega⟩
    have wi : IntKind.i64.wrap ((i : Int) + 1) = (i : Int) + 1 := by rw [IntKind.wrap_i64]; omega
    have ti : ((i : Int) + 1).toNat = i + 1 := by omega
    have sA : (t.extract 0 i).size ≤ t.size := by rw [ByteArray.size_extract]; omega
    have sB : (t.extract i t.size).size ≤ t.size := by rw [ByteArray.size_extract]; omega
    have sD : (t.extract (i + 1) t.size).size ≤ t.size := by rw [ByteArray.size_extract]; omega
    have zA : (t.extract 0 i).size = i := by rw [ByteArray.size_extract]; omega
    have zB : (t.extract i t.size).size = t.size - i := by rw [ByteArray.size_extract]; omega
    have zD : (t.extract (i + 1) t.size).size = t.size - (i + 1) := by rw [ByteArray.size_extract]; omega
    have hu := unhide HU
    have wj : IntKind.i64.wrap ((i : Int) + 1) = (i : Int) + 1 := by rw [IntKind.wrap_i64]; omega
    obtain rfl | rfl | rfl : x = 0 ∨ x = 1 ∨ x = 2 := by omega
    · clear z0 z1 x1 m2 i3 wi wj ti sA sB sD zD
      have HA : Hid ((t.extract 0 i ++ u ++ t.extract i t.size).size ≤ t.size + 1) := hide (by rw [ByteArray.size_append, ByteArray.size_append, zA, hu, zB]; omega)
      have y0 : ¬ (9223372036854775807 < (t.extract 0 i).size + u.size) := by rw [zA, hu]; omega
      have y2 : ¬ (9223372036854775807 < (t.extract 0 i ++ u).size + (t.extract i t.size).size) := by rw [ByteArray.size_append, zA, hu, zB]; omega
      clear zA zB hu
      go_upto_region 9 with fail
      go_quiet (fail)
      generalize (t.extract 0 i ++ u ++ t.extract i t.size) = t2 at *
      go_wp2
      go_roundw
      case rel => exact ⟨k, j + 1, t2, by omega, by go_num, rfl, (by have := unhide HA; omega), (by omega), hide (((unhide CU).later (below_drewN (Below.refl _ _) _)).mono (show T + 2 + 8 * j + 2 + 2 + 2 ≤ T + 2 + 8 * (j + 1) by omega)), hide ((unhide BT).drewM _)⟩
      case measure => simp [intOf] <;> omega
    · clear z0 z1 x1 m2 sA sB sD zB
      have HA : Hid ((t.extract 0 i ++ u ++ t.extract (i + 1) t.size).size ≤ t.size + 1) := hide (by rw [ByteArray.size_append, ByteArray.size_append, zA, hu, zD]; omega)
      have y0 : ¬ (9223372036854775807 < (t.extract 0 i).size + u.size) := by rw [zA, hu]; omega
      have y2 : ¬ (9223372036854775807 < (t.extract 0 i ++ u).size + (t.extract (i + 1) t.size).size) := by rw [ByteArray.size_append, zA, hu, zD]; omega
      clear zA zD hu
      go_upto_region 11 with fail
      go_quiet (fail)
      generalize (t.extract 0 i ++ u ++ t.extract (i + 1) t.size) = t2 at *
      go_wp2
      go_roundw
      case rel => exact ⟨k, j + 1, t2, by omega, by go_num, rfl, (by have := unhide HA; omega), (by omega), hide (((unhide CU).later (below_drewN (Below.refl _ _) _)).mono (show T + 2 + 8 * j + 2 + 2 + 2 ≤ T + 2 + 8 * (j + 1) by omega)), hide ((unhide BT).drewM _)⟩
      case measure => simp [intOf] <;> omega
    · clear z0 z1 x1 m2 sA sB sD zB
      have HA : Hid ((t.extract 0 i ++ t.extract (i + 1) t.size).size ≤ t.size + 1) := hide (by rw [ByteArray.size_append, zA, zD]; omega)
      have y0 : ¬ (9223372036854775807 < (t.extract 0 i).size + (t.extract (i + 1) t.size).size) := by rw [zA, zD]; omega
      clear zA zD hu
      go_upto_region 7 with fail
      go_quiet (fail)
      generalize (t.extract 0 i ++ t.extract (i + 1) t.size) = t2 at *
      go_wp2
      go_roundw
      case rel => exact ⟨k, j + 1, t2, by omega, by go_num, rfl, (by have := unhide HA; omega), (by omega), hide (((unhide CU).later (below_drewN (Below.refl _ _) _)).mono (show T + 2 + 8 * j + 2 + 2 + 2 ≤ T + 2 + 8 * (j + 1) by omega)), hide ((unhide BT).drewM _)⟩
      case measure => simp [intOf] <;> omega
theorem RwI.arg15 {B : Nat} {w : World} {v : Value} {L : List Int} (h : RwI B w v L) : ∃ a c, v = .slice a L.length c ∧ Arg w a L.length c L := by
  rcases h.open with ⟨rfl, rfl⟩ | ⟨g, c, rfl, h1, h2, h3, h4, h5⟩
  · exact ⟨none, 0, rfl, ⟨.inl rfl, rfl, Nat.le_refl _, Nat.zero_le _, .inl ⟨rfl, rfl⟩⟩⟩
  · exact ⟨_, c, rfl, ⟨.inr ⟨g, 0, rfl, h2, fun i hi => by simpa [hi] using h5 i hi⟩, rfl, h3, h4, .inr ⟨_, _, rfl⟩⟩⟩
theorem pbV_size {x y : Int} {l : List Int} (h : l.length ≤ 33) : (pbV x y l).size ≤ 1000 := by
  unfold pbV
  split
  · rename_i k
    unfold pbB at k
    simp only [Bool.and_eq_true] at k
    have g := gP_in15 k.1
    have := hd_len (x := x.toNat) (y := y.toNat) (by omega) (by omega)
    rw [st_size]
    simp [pic15]
    omega
  · rw [st_size]; simp
/-- What DrawPictureBytes tells. -/
def OutPb (w : World) (e : Ending) (w' : World) : Prop := ∃ (x y : Int) (a : Option Addr) (c : Nat) (l : List Int), e = .returned (.tuple #[.int .i64 x, .int .i64 y, .slice a l.length c]) ∧ Arg w' a l.length c l ∧ l.length ≤ 33 ∧ (0 ≤ x ∧ x ≤ 11) ∧ (0 ≤ y ∧ y ≤ 3) ∧ Below w.heap.size w w'
set_option maxHeartbeats 4000000 in
theorem drawPb (a : Option Addr) (n c : Nat) (w : World) (h : ArY w a n) :
    Calls Tryd.prog 26 #[.slice a n c] w (OutPb w) := by
  have CU : Hid (Cur w.heap.size 0 (w.alloc (.cells #[.slice a n c, .int .i64 0, .int .u64 0] 59))) := hide (Cur.new h)
  have BW : Hid (Below w.heap.size w (w.alloc (.cells #[.slice a n c, .int .i64 0, .int .u64 0] 59))) := hide ((Below.refl _ _).alloc (Nat.le_refl _) _)
  have s0 : w.heap.size < (w.alloc (.cells #[.slice a n c, .int .i64 0, .int .u64 0] 59)).heap.size := by simp
  clear h
  go_enter Tryd.func26, Tryd.ntmps26
  go_wp2_with fail
  refine (pick_v w.heap.size 0 5 _ (unhide CU) (by omega) (by omega)).mono ?_
  rintro e w1 ⟨x, rfl, x0, x1, _, c1, bt⟩
  have CU1 := hide c1
  have BW1 := hide (bt.below (unhide BW) (by omega) (by omega))
  have s1 := Nat.lt_of_lt_of_le s0 bt.size
  replace x1 := x1 (by omega)
  clear CU BW c1 bt s0
  go_wp2_with fail
  refine (pick_v w.heap.size 2 3 _ (unhide CU1) (by omega) (by omega)).mono ?_
  rintro e w2 ⟨y, rfl, y0, y1, _, c1, bt⟩
  have CU := hide c1
  have BW := hide (bt.below (unhide BW1) (by omega) (by omega))
  have s2 := Nat.lt_of_lt_of_le s1 bt.size
  replace y1 := y1 (by omega)
  have wy : IntKind.i64.wrap (1 + y) = 1 + y := by rw [IntKind.wrap_i64]; omega
  clear CU1 BW1 c1 bt s1
  go_wp2_with fail
  refine (one_v w.heap.size 4 20 _ (unhide CU) (by omega) (by omega)).mono ?_
  rintro e w3 ⟨b, rfl, c1, bt⟩
  have CU1 := hide c1
  have BW1 := hide (bt.below (unhide BW) (by omega) (by omega))
  have s3 := Nat.lt_of_lt_of_le s2 bt.size
  clear CU BW c1 bt s2
  cases b
  · go_wp2_with fail
    refine (bytesFor_v w.heap.size 6 0 0 x (1 + y) _ (unhide CU1) (by omega) (by omega) (by omega)).mono ?_
    rintro e w5 ⟨v, l, rfl, rw_, hl, c1, bt⟩
    have BW := hide (bt.below (unhide BW1) (by omega) (by omega))
    obtain ⟨a', c', rfl, ar⟩ := rw_.arg15
    clear CU1 BW1 c1 bt rw_
    go_wp2
    (try simp only [Exit.inBlock, Exit.then])
    refine bodyPost_ret (results_tmp3 rfl _ _ _) rfl ?_
    exact ⟨x, 1 + y, a', c', l, rfl, ar, hl, by omega, by omega, unhide BW⟩
  · have al : Below w3.heap.size w3 (w3.alloc (.cells #[.int .i64 10, .int .i64 11] 3)) := (Below.refl _ _).alloc (Nat.le_refl _) _
    have HC : Hid (∀ i, i < 2 → (w3.alloc (.cells #[.int .i64 10, .int .i64 11] 3)).cell? ⟨w3.heap.size, 0 + i, none⟩ = some (.int .i64 ([10, 11].getD i 0))) := hide (fun i hi => by
      match i, hi with
      | 0, _ => simp [go_sem]
      | 1, _ => simp [go_sem])
    have rC : w3.heap.size ≠ w.heap.size := by omega
    have CU5 := hide ((unhide CU1).later al)
    have BW5 := hide ((unhide BW1).trans (al.mono (show w.heap.size ≤ w3.heap.size by omega)))
    have s4 : w.heap.size < (w3.alloc (.cells #[.int .i64 10, .int .i64 11] 3)).heap.size := Nat.lt_of_lt_of_le s3 al.size
    clear al CU1 BW1 x0 x1
    go_wp2_with fail
    refine (among_v w.heap.size 6 w3.heap.size 0 2 2 [10, 11] _ (unhide CU5) (by omega) (by omega) (by omega) rfl rC (by simp) (unhide HC)).mono ?_
    rintro e w4 ⟨z, rfl, zm, c1, bt⟩
    have CU1 := hide c1
    have BW1 := hide (bt.below (unhide BW5) (by omega) (by omega))
    have s5 := Nat.lt_of_lt_of_le s4 bt.size
    have zz : 0 ≤ z ∧ z ≤ 11 := by simp at zm; omega
    clear CU5 BW5 c1 bt s4 HC rC zm
    go_wp2_with fail
    refine (bytesFor_v w.heap.size 8 0 0 z (1 + y) _ (unhide CU1) (by omega) zz (by omega)).mono ?_
    rintro e w5 ⟨v, l, rfl, rw_, hl, c1, bt⟩
    have BW := hide (bt.below (unhide BW1) (by omega) (by omega))
    obtain ⟨a', c', rfl, ar⟩ := rw_.arg15
    clear CU1 BW1 c1 bt rw_
    go_wp2
    (try simp only [Exit.inBlock, Exit.then])
    refine bodyPost_ret (results_tmp3 rfl _ _ _) rfl ?_
    exact ⟨z, 1 + y, a', c', l, rfl, ar, hl, zz, by omega, unhide BW⟩
/-- What DrawReadPicture tells. -/
def OutRp (w : World) (e : Ending) (w' : World) : Prop := ∃ t : ByteArray, e = .returned (.string t) ∧ t.size ≤ 1002 ∧ Below w.heap.size w w'
set_option maxHeartbeats 4000000 in
theorem drawRp (a : Option Addr) (n c : Nat) (w : World) (h : ArY w a n) :
    Calls Tryd.prog 30 #[.slice a n c] w (OutRp w) := by
  have CU : Hid (Cur w.heap.size 0 (w.alloc (.cells #[.slice a n c, .int .i64 0, .int .u64 0] 59))) := hide (Cur.new h)
  have BW : Hid (Below w.heap.size w (w.alloc (.cells #[.slice a n c, .int .i64 0, .int .u64 0] 59))) := hide ((Below.refl _ _).alloc (Nat.le_refl _) _)
  have s0 : w.heap.size < (w.alloc (.cells #[.slice a n c, .int .i64 0, .int .u64 0] 59)).heap.size := by simp
  clear h
  go_enter Tryd.func30, Tryd.ntmps30
  go_wp2_with fail
  refine (pick_v w.heap.size 0 4 _ (unhide CU) (by omega) (by omega)).mono ?_
  rintro e w1 ⟨x, rfl, x0, x1, _, c1, bt⟩
  have CU1 := hide c1
  have BW1 := hide (bt.below (unhide BW) (by omega) (by omega))
  have s1 := Nat.lt_of_lt_of_le s0 bt.size
  replace x1 := x1 (by omega)
  have wx : IntKind.i64.wrap (1 + x) = 1 + x := by rw [IntKind.wrap_i64]; omega
  clear CU BW c1 bt s0
  go_wp2_with fail
  refine (bytesFor_v w.heap.size 2 0 0 (1 + x) 2 _ (unhide CU1) (by omega) (by omega) (by omega)).mono ?_
  rintro e w5 ⟨v, l, rfl, rw_, hl, c1, bt⟩
  have CU := hide c1
  have BW := hide (bt.below (unhide BW1) (by omega) (by omega))
  have s2 := Nat.lt_of_lt_of_le s1 bt.size
  obtain ⟨a', c', rfl, ar⟩ := rw_.arg15
  have sz := hide (pbV_size (x := 1 + x) (y := 2) hl)
  have CP := hide (PictureBytesS a' l.length c' l (1 + x) 2 w5 ar (by omega) (by omega) (by omega))
  generalize pbV (1 + x) 2 l = s at *
  generalize pbB (1 + x) 2 l = ok at *
  clear CU1 BW1 c1 bt rw_ s1 ar
  go_wp2_with fail
  refine (unhide CP).mono ?_
  rintro e w6 ⟨rfl, hb⟩
  have CU1 := hide ((unhide CU).later hb)
  have BW1 := hide (below_on (unhide BW) hb)
  have s3 := Nat.lt_of_lt_of_le s2 hb.size
  clear CU BW hb CP s2 hl x0 x1 wx
  go_wp2_with fail
  refine (one_v w.heap.size (2 + 200) 3 _ (unhide CU1) (by omega) (by omega)).mono ?_
  rintro e w7 ⟨b, rfl, c1, bt⟩
  have CU := hide c1
  have BW := hide (bt.below (unhide BW1) (by omega) (by omega))
  have s4 := Nat.lt_of_lt_of_le s3 bt.size
  have sz1 := unhide sz
  clear CU1 BW1 c1 bt s3 sz
  cases b
  · go_wp2
    go_ret
    exact ⟨s, rfl, by omega, unhide BW⟩
  · go_wp2_with fail
    refine (spoilt_v w.heap.size (2 + 200 + 2) s ⟨#[80, 53, 10, 32, 48, 49, 50]⟩ _ (unhide CU) (by omega) sz1 (by decide) (by decide)).mono ?_
    rintro e w8 ⟨t, rfl, ht, c1, bt⟩
    have BW1 := hide (bt.below (unhide BW) (by omega) (by omega))
    clear CU BW c1 bt
    go_wp2
    go_ret
    exact ⟨t, rfl, by omega, unhide BW1⟩
end Go.Proofs.YtcgbpcipdanfhaaDoor
namespace Go.Proofs.YtcgbpcipdanfhaaDoor
open Go.RowKit
set_option linter.unusedVariables false
set_option maxRecDepth 100000
set_option linter.unusedSimpArgs false

set_option maxHeartbeats 4000000 in
theorem ReadPictureI2 (s : ByteArray) (m : Int) (w : World) (hs : s.size ≤ 1048576) (hm : MaxL m w) :
    Calls Tryd.prog 29 #[.string s] w fun e w' => ∃ v, e = .returned (.tuple #[.int .i64 (rpW s.data.toList), .int .i64 (rpH s.data.toList), v, .bool (rpB s.data.toList)]) ∧ Below w.heap.size w w' ∧ RwI w.heap.size w' v (rpL s.data.toList) ∧ (rpL s.data.toList).length ≤ 1048576 := by
  have C1 := hide (partsI15 s m w hs hm)
  obtain ⟨bs, hbs⟩ : ∃ bs, bs = s.data.toList := ⟨_, rfl⟩
  have hX : (ppX bs).length ≤ 1048576 := Nat.le_trans (ppX_len bs) (by rw [hbs, size_list]; exact hs)
  rw [← hbs] at C1 ⊢
  have C2 := hide (fun w => goodPicI (ppW bs : Int) (ppH bs : Int) ((ppX bs).length : Int) w)
  have C3 := hide (fun w => bytesI (ppX bs) w hX)
  have LT : Hid ((tB (ppX bs)).length ≤ 1048576) := hide (by rw [tB_len]; exact hX)
  have sz : ((st (ppX bs)).size : Int) = ((ppX bs).length : Int) := by rw [st_size]
  have sz2 : (st (ppX bs)).size = (ppX bs).length := st_size _
  have HB := hide (Below.refl w.heap.size w)
  clear hbs hm hs
  cases t : ppT bs
  · have EB : rpB bs = false := by unfold rpB; rw [t]; rfl
    have E : rpW bs = 0 ∧ rpH bs = 0 ∧ rpL bs = [] := by unfold rpW rpH rpL; rw [EB]; exact ⟨rfl, rfl, rfl⟩
    rw [E.1, E.2.1, E.2.2, EB]
    rw [t] at C1
    clear E EB t C2 C3 hX
    go_enter Tryd.func29, Tryd.ntmps29
    go_wp2_with fail
    refine (unhide C1).mono ?_
    rintro e w1 ⟨rfl, hb⟩
    go_wp2_with fail
    (try simp only [Exit.inBlock, Exit.then])
    refine bodyPost_ret (results_tmp4 rfl _ _ _) rfl ?_
    exact ⟨_, rfl, hb, RwI.nil _ _, by simp⟩
  · cases g : gP15 (ppW bs : Int) (ppH bs : Int) ((ppX bs).length : Int)
    · have EB : rpB bs = false := by unfold rpB; rw [t, g]; rfl
      have E : rpW bs = 0 ∧ rpH bs = 0 ∧ rpL bs = [] := by unfold rpW rpH rpL; rw [EB]; exact ⟨rfl, rfl, rfl⟩
      rw [E.1, E.2.1, E.2.2, EB]
      rw [t] at C1
      rw [g] at C2
      clear E EB t g C3 hX
      go_enter Tryd.func29, Tryd.ntmps29
      go_wp2_with fail
      refine (unhide C1).mono ?_
      rintro e w1 ⟨rfl, hb⟩
      go_wp2_with fail
      refine (unhide C2 _).mono ?_
      rintro e w2 ⟨rfl, rfl⟩
      go_wp2_with fail
      (try simp only [Exit.inBlock, Exit.then])
      refine bodyPost_ret (results_tmp4 rfl _ _ _) rfl ?_
      exact ⟨_, rfl, hb, RwI.nil _ _, by simp⟩
    · have EB : rpB bs = true := by unfold rpB; rw [t, g]; rfl
      have E : rpW bs = (ppW bs : Int) ∧ rpH bs = (ppH bs : Int) ∧ rpL bs = tB (ppX bs) := by unfold rpW rpH rpL; rw [EB]; exact ⟨rfl, rfl, rfl⟩
      rw [E.1, E.2.1, E.2.2, EB]
      rw [t] at C1
      rw [g] at C2
      clear E EB t g hX
      generalize ppX bs = X at *
      go_enter Tryd.func29, Tryd.ntmps29
      go_wp2_with fail
      refine (unhide C1).mono ?_
      rintro e w1 ⟨rfl, hb⟩
      replace HB := hide hb
      clear hb
      go_wp2_with fail
      refine (unhide C2 _).mono ?_
      rintro e w2 ⟨rfl, rfl⟩
      go_wp2_with fail
      refine (unhide C3 _).mono ?_
      rintro e w3 ⟨v, rfl, hb, hr⟩
      have HR := hide (hr.mono (unhide HB).size)
      replace HB := hide (below_on (unhide HB) hb)
      clear hb hr
      obtain ⟨a', c', rfl, r⟩ := (unhide HR).rt
      go_wp2_with fail
      (try simp only [Exit.inBlock, Exit.then])
      refine bodyPost_ret (results_tmp4 rfl _ _ _) rfl ?_
      exact ⟨_, rfl, unhide HB, unhide HR, unhide LT⟩
theorem RwI.sl15 {B n c : Nat} {w : World} {a : Option Addr} {L : List Int} (h : RwI B w (.slice a n c) L) : Sl w a L := by
  obtain ⟨a', c', e, s⟩ := h.sl
  cases e
  exact s
theorem RwI.argc15 {B n c : Nat} {w : World} {a : Option Addr} {L : List Int} (h : RwI B w (.slice a n c) L) : Arg w a L.length c L := by
  obtain ⟨a', c', e, s⟩ := h.arg15
  cases e
  exact s
theorem by8_tB (l : List UInt8) : (tB l).map by8 = l := by
  unfold tB
  rw [List.map_map]
  conv => rhs; rw [← List.map_id l]
  apply List.map_congr_left
  intro c _
  simp [by8]
theorem tB_by8 {l : List Int} (h : l.any byo = false) : tB (l.map by8) = l := by
  unfold tB
  rw [List.map_map]
  conv => rhs; rw [← List.map_id l]
  apply List.map_congr_left
  intro x hx
  have hb : byo x = false := by
    rw [List.any_eq_false] at h
    simpa using h x hx
  unfold byo at hb
  simp only [Bool.or_eq_false_iff, decide_eq_false_iff_not] at hb
  show ((by8 x).toNat : Int) = x
  unfold by8
  rw [UInt8.toNat_ofNat']
  omega
theorem tB_byo (l : List UInt8) : (tB l).any byo = false := by
  rw [List.any_eq_false]
  intro x hx
  unfold tB at hx
  obtain ⟨c, _, rfl⟩ := List.mem_map.1 hx
  have := c.toNat_lt
  unfold byo
  simp
  omega
theorem st_list (l : List UInt8) : (st l).data.toList = l := by simp [st]
theorem st_of15 (t : ByteArray) : st t.data.toList = t := by
  cases t
  simp [st]
/-- What is read of a file that PictureBytes tells. -/
theorem pb_back {x y : Int} {l : List Int} (h : pbB x y l = true) : rpB (pbV x y l).data.toList = true ∧ rpW (pbV x y l).data.toList = x ∧ rpH (pbV x y l).data.toList = y ∧ rpL (pbV x y l).data.toList = l := by
  have h' := h
  unfold pbB at h'
  simp only [Bool.and_eq_true, Bool.not_eq_true'] at h'
  obtain ⟨g1, g2, g3⟩ := gP_in15 h'.1
  have e : (pbV x y l).data.toList = pic15 x.toNat y.toNat l := by unfold pbV; rw [if_pos h, st_list]
  rw [e]
  have hl : l.length = x.toNat * y.toNat := by
    have : (l.length : Int) = (x.toNat : Int) * (y.toNat : Int) := by rw [Int.toNat_of_nonneg (by omega), Int.toNat_of_nonneg (by omega)]; exact g3
    exact_mod_cast this
  have P : PicP (pic15 x.toNat y.toNat l) x.toNat y.toNat (l.map by8) := ⟨rfl, by omega, by omega, by rw [List.length_map]; exact hl⟩
  obtain ⟨r1, r2, r3, r4⟩ := pic_read P
  refine ⟨r1, ?_, ?_, ?_⟩
  · unfold rpW; rw [if_pos r1, r2]; omega
  · unfold rpH; rw [if_pos r1, r3]; omega
  · unfold rpL; rw [if_pos r1, r4]; exact tB_by8 h'.2
/-- A text that is read is just the file of what is read. -/
theorem back_pb {t : ByteArray} (h : rpB t.data.toList = true) : (pbB (rpW t.data.toList) (rpH t.data.toList) (rpL t.data.toList) = true ∧ pbV (rpW t.data.toList) (rpH t.data.toList) (rpL t.data.toList) = t) ∧ (0 ≤ rpW t.data.toList ∧ rpW t.data.toList ≤ 10) ∧ (0 ≤ rpH t.data.toList ∧ rpH t.data.toList ≤ 10) := by
  have e := st_of15 t
  generalize t.data.toList = bs at *
  have P := read_pic h
  have g : gP15 (ppW bs) (ppH bs) ((ppX bs).length : Int) = true := by
    unfold rpB at h
    simp only [Bool.and_eq_true] at h
    exact h.2
  have e1 : rpW bs = (ppW bs : Int) := by unfold rpW; rw [if_pos h]
  have e2 : rpH bs = (ppH bs : Int) := by unfold rpH; rw [if_pos h]
  have e3 : rpL bs = tB (ppX bs) := by unfold rpL; rw [if_pos h]
  rw [e1, e2, e3]
  have B : pbB (ppW bs : Int) (ppH bs : Int) (tB (ppX bs)) = true := by
    unfold pbB
    rw [tB_len, g, tB_byo]
    rfl
  refine ⟨⟨B, ?_⟩, ?_, ?_⟩
  · unfold pbV
    rw [if_pos B]
    unfold pic15
    rw [by8_tB, Int.toNat_natCast, Int.toNat_natCast, ← P.1]
    exact e
  · have := P.2.1; omega
  · have := P.2.2.1; omega
end Go.Proofs.YtcgbpcipdanfhaaDoor
namespace Go.Proofs.YtcgbpcipdanfhaaDoor
open Go.RowKit
set_option linter.unusedVariables false
set_option maxRecDepth 100000
set_option linter.unusedSimpArgs false

def lpK (bs : List UInt8) (a : Nat) : Nat := a + liK (bs.drop a)
/-- Two numbers with a byte between: whether the first one and the byte are there. -/
def lpOK (bs : List UInt8) (a : Nat) (c : UInt8) : Bool := decide (0 ≤ liV (bs.drop a)) && ((bs.drop (lpK bs a)).head? == some c)
def lpA (bs : List UInt8) (a : Nat) (c : UInt8) : Int := if lpOK bs a c = true then liV (bs.drop a) else -1
def lpB (bs : List UInt8) (a : Nat) (c : UInt8) : Int := if lpOK bs a c = true then liV (bs.drop (lpK bs a + 1)) else -1
def lpE (bs : List UInt8) (a : Nat) (c : UInt8) : Nat := if lpOK bs a c = true then lpK bs (lpK bs a + 1) else a
theorem liK_le (l : List UInt8) : liK l ≤ l.length := by
  unfold liK
  split
  · exact Nat.zero_le _
  · have := congrArg List.length (dgs_pre l)
    rw [List.length_append] at this
    omega
theorem lpK_le {bs : List UInt8} {a : Nat} (h : a ≤ bs.length) : lpK bs a ≤ bs.length := by
  have := liK_le (bs.drop a)
  rw [List.length_drop] at this
  unfold lpK; omega
set_option maxHeartbeats 4000000 in
theorem pairS15 (s : ByteArray) (a : Nat) (c : UInt8) (w : World) (ha : a ≤ s.size) (hs : s.size ≤ 1048576) :
    Calls Tryd.prog 56 #[.string s, .int .i64 (a : Int), .int .u8 (c.toNat : Int)] w fun e w' => e = .returned (.tuple #[.int .i64 (lpA s.data.toList a c), .int .i64 (lpB s.data.toList a c), .int .i64 ((lpE s.data.toList a c : Nat) : Int)]) ∧ Below w.heap.size w w' := by
  have C1 := hide (liS s a w ha hs)
  have C2 := hide (fun (k : Nat) (h : k ≤ s.size) w => liS s k w h hs)
  obtain ⟨bs, hbs⟩ : ∃ bs, bs = s.data.toList := ⟨_, rfl⟩
  have hl : bs.length = s.size := by rw [hbs, size_list]
  have IX : Hid (∀ i (h : i < s.size), ∃ h2 : i < bs.length, s[i]'h = bs[i]) := hide (fun i h => ⟨by omega, by subst hbs; rfl⟩)
  rw [← hbs] at C1 C2 ⊢
  have hk := lpK_le (bs := bs) (a := a) (by omega)
  have EK : Hid (lpK bs a = a + liK (bs.drop a)) := hide rfl
  rw [← unhide EK] at C1
  obtain ⟨k, hkk⟩ : ∃ k, k = lpK bs a := ⟨_, rfl⟩
  have HB := hide (Below.refl w.heap.size w)
  have NO : Hid (lpOK bs a c = false → lpA bs a c = -1 ∧ lpB bs a c = -1 ∧ lpE bs a c = a) := hide (fun q => by unfold lpA lpB lpE; rw [q]; exact ⟨rfl, rfl, rfl⟩)
  have YES : Hid (lpOK bs a c = true → lpA bs a c = liV (bs.drop a) ∧ lpB bs a c = liV (bs.drop (k + 1)) ∧ lpE bs a c = lpK bs (k + 1)) := hide (fun q => by unfold lpA lpB lpE; rw [q, hkk]; exact ⟨rfl, rfl, rfl⟩)
  have DEF : Hid (lpOK bs a c = (decide (0 ≤ liV (bs.drop a)) && ((bs.drop k).head? == some c))) := hide (by unfold lpOK; rw [hkk])
  rw [← hkk] at C1 hk
  have HL := hide hl
  have hks : k ≤ s.size := by omega
  clear hbs hl EK
  replace hkk := hide hkk
  generalize liV (bs.drop a) = v at *
  by_cases g0 : v < 0
  · have E := unhide NO (by rw [unhide DEF, decide_eq_false (by omega)]; rfl)
    rw [E.1, E.2.1, E.2.2]
    clear E YES DEF C2 IX hk
    go_enter Tryd.func56, Tryd.ntmps56
    go_wp2_with fail
    refine (unhide C1).mono ?_
    rintro e w1 ⟨rfl, hb⟩
    go_wp2_with fail
    go_ret3
    exact ⟨rfl, hb⟩
  · by_cases g1 : k = s.size
    · have E := unhide NO (by rw [unhide DEF, List.drop_eq_nil_of_le (by rw [unhide HL]; omega)]; simp)
      rw [E.1, E.2.1, E.2.2]
      have d1 : ((k : Int) == (s.size : Int)) = true := by rw [g1]; simp
      replace g1 := hide g1
      clear E YES DEF C2 IX hk
      go_enter Tryd.func56, Tryd.ntmps56
      go_wp2_with fail
      refine (unhide C1).mono ?_
      rintro e w1 ⟨rfl, hb⟩
      go_wp2_with fail
      go_ret3
      exact ⟨rfl, hb⟩
    · have d1 : ((k : Int) == (s.size : Int)) = false := by rw [beq_eq_false_iff_ne]; omega
      have hk2 : k < s.size := by omega
      obtain ⟨h2, e0⟩ := unhide IX k hk2
      obtain ⟨x, hx⟩ : ∃ x, x = bs[k] := ⟨_, rfl⟩
      rw [← hx] at e0
      have HD : (bs.drop k).head? = some x := by rw [List.drop_eq_getElem_cons h2, hx]; rfl
      rw [HD] at DEF
      by_cases g2 : x = c
      · have E := unhide YES (by rw [unhide DEF, decide_eq_true (by omega), g2]; simp)
        rw [E.1, E.2.1, E.2.2]
        have d2 : ((x.toNat : Int) != (c.toNat : Int)) = false := by rw [g2]; simp
        have C3 := hide (unhide C2 (k + 1) (by omega))
        have wk : IntKind.i64.wrap ((k : Int) + 1) = (k : Int) + 1 := by rw [IntKind.wrap_i64]; omega
        have ck : ((k + 1 : Nat) : Int) = (k : Int) + 1 := by omega
        rw [show k + 1 + liK (bs.drop (k + 1)) = lpK bs (k + 1) from rfl, ck] at C3
        replace g2 := hide g2
        clear E NO DEF C2 IX hk HD hx ck YES
        generalize liV (bs.drop (k + 1)) = v2 at *
        generalize lpK bs (k + 1) = k2 at *
        go_enter Tryd.func56, Tryd.ntmps56
        go_wp2_with fail
        refine (unhide C1).mono ?_
        rintro e w1 ⟨rfl, hb⟩
        replace HB := hide hb
        clear hb
        go_wp2_with fail
        refine (unhide C3 _).mono ?_
        rintro e w2 ⟨rfl, hb⟩
        replace HB := hide (below_on (unhide HB) hb)
        clear hb
        go_wp2_with fail
        go_ret3
        exact ⟨rfl, unhide HB⟩
      · have E := unhide NO (by rw [unhide DEF, show (some x == some c) = false by simp [g2]]; simp)
        rw [E.1, E.2.1, E.2.2]
        have d2 : ((x.toNat : Int) != (c.toNat : Int)) = true := by simp; exact fun z => g2 (UInt8.toNat_inj.1 (by omega))
        clear E YES DEF C2 IX hk HD hx g2
        go_enter Tryd.func56, Tryd.ntmps56
        go_wp2_with fail
        refine (unhide C1).mono ?_
        rintro e w1 ⟨rfl, hb⟩
        go_wp2_with fail
        go_ret3
        exact ⟨rfl, hb⟩
end Go.Proofs.YtcgbpcipdanfhaaDoor
namespace Go.Proofs.YtcgbpcipdanfhaaDoor
open Go.RowKit
set_option linter.unusedVariables false
set_option maxRecDepth 100000
set_option linter.unusedSimpArgs false

def spOK (bs : List UInt8) : Bool := ((((decide (3 ≤ bs.length) && decide (bs.length ≤ 200)) && (bs.take 3 == [80, 53, 10])) && (inR (lpA bs 3 32) 1 10 && inR (lpB bs 3 32) 1 10)) && (((bs.length : Int) - (lpE bs 3 32 : Int)) == 5 + lpA bs 3 32 * lpB bs 3 32)) && ((bs.drop (lpE bs 3 32)).take 5 == [10, 50, 53, 53, 10])
theorem li_some {l : List UInt8} {v : Nat} (h : numV 9999 (dgs l) = some v) : liV l = (v : Int) ∧ liK l = (Lib.decDigits v).length ∧ l = Lib.decDigits v ++ l.drop (Lib.decDigits v).length := by
  have d := num_dd h
  have p := dgs_pre l
  refine ⟨by unfold liV; rw [h], by unfold liK; rw [h, d.1], ?_⟩
  rw [← d.1]; exact p
theorem li_pos {l : List UInt8} (h : 0 ≤ liV l) : ∃ v : Nat, numV 9999 (dgs l) = some v := by
  unfold liV at h
  split at h
  · omega
  · rename_i v e
    exact ⟨v, e⟩
theorem li_of {x : Nat} {l r : List UInt8} (h : l = Lib.decDigits x ++ r) (hx : x ≤ 9999) (hr : ∀ c t, r = c :: t → isD c = false) : numV 9999 (dgs l) = some x := by
  rw [dgs_of h (dd_digits x) (dd_len 3 x (by omega)) hr]
  exact dd_num hx
theorem drop_add_left {d r : List UInt8} {l : List UInt8} {a : Nat} (h : l.drop a = d ++ r) : l.drop (a + d.length) = r := by
  rw [← List.drop_drop, h, List.drop_left]
theorem sp_pic {bs : List UInt8} (h : spOK bs = true) : PicP bs (lpA bs 3 32).toNat (lpB bs 3 32).toNat (bs.drop (lpE bs 3 32 + 5)) ∧ (1 ≤ lpA bs 3 32 ∧ lpA bs 3 32 ≤ 10) ∧ (1 ≤ lpB bs 3 32 ∧ lpB bs 3 32 ≤ 10) := by
  unfold spOK at h
  have t5 := (Bool.and_eq_true _ _).mp h
  have t4 := (Bool.and_eq_true _ _).mp t5.1
  have t3 := (Bool.and_eq_true _ _).mp t4.1
  have t2 := (Bool.and_eq_true _ _).mp t3.1
  have ab := (Bool.and_eq_true _ _).mp t3.2
  have hA := inR_in15 ab.1
  have hB := inR_in15 ab.2
  have p3 : bs.take 3 = [80, 53, 10] := by simpa using t2.2
  have mk : (bs.drop (lpE bs 3 32)).take 5 = [10, 50, 53, 53, 10] := by simpa using t5.2
  have ln : (bs.length : Int) - (lpE bs 3 32 : Int) = 5 + lpA bs 3 32 * lpB bs 3 32 := by simpa using t4.2
  have ok : lpOK bs 3 32 = true := by
    cases z : lpOK bs 3 32
    · have : lpA bs 3 32 = -1 := by unfold lpA; rw [z]; rfl
      omega
    · rfl
  have eA : lpA bs 3 32 = liV (bs.drop 3) := by unfold lpA; rw [ok]; rfl
  have eB : lpB bs 3 32 = liV (bs.drop (lpK bs 3 + 1)) := by unfold lpB; rw [ok]; rfl
  have eE : lpE bs 3 32 = lpK bs (lpK bs 3 + 1) := by unfold lpE; rw [ok]; rfl
  unfold lpOK at ok
  have ok2 := ((Bool.and_eq_true _ _).mp ok).2
  have hd : (bs.drop (lpK bs 3)).head? = some 32 := by simpa using ok2
  obtain ⟨x, nx⟩ := li_pos (l := bs.drop 3) (by omega)
  obtain ⟨y, ny⟩ := li_pos (l := bs.drop (lpK bs 3 + 1)) (by omega)
  obtain ⟨x1, x2, x3⟩ := li_some nx
  obtain ⟨y1, y2, y3⟩ := li_some ny
  have k1 : lpK bs 3 = 3 + (Lib.decDigits x).length := by unfold lpK; rw [x2]
  have d1 : bs.drop (lpK bs 3) = 32 :: bs.drop (lpK bs 3 + 1) := by
    cases q : bs.drop (lpK bs 3) with
    | nil => rw [q] at hd; cases hd
    | cons c t =>
      rw [q] at hd
      have : c = 32 := by simpa using hd
      subst this
      rw [← List.drop_drop, q]; rfl
  have k2 : lpE bs 3 32 = lpK bs 3 + 1 + (Lib.decDigits y).length := by rw [eE, show lpK bs (lpK bs 3 + 1) = lpK bs 3 + 1 + liK (bs.drop (lpK bs 3 + 1)) from rfl, y2]
  have d2 : bs.drop (lpE bs 3 32) = [10, 50, 53, 53, 10] ++ bs.drop (lpE bs 3 32 + 5) := by
    rw [← mk, ← List.drop_drop, List.take_append_drop]
  have d3 : (bs.drop (lpK bs 3 + 1)).drop (Lib.decDigits y).length = bs.drop (lpE bs 3 32) := by rw [List.drop_drop, k2]
  have d4 : (bs.drop 3).drop (Lib.decDigits x).length = bs.drop (lpK bs 3) := by rw [List.drop_drop, k1]
  have e : bs = [80, 53, 10] ++ (Lib.decDigits x ++ [32] ++ (Lib.decDigits y ++ [10, 50, 53, 53, 10] ++ bs.drop (lpE bs 3 32 + 5))) := by
    conv => lhs; rw [← List.take_append_drop 3 bs, p3, x3, d4, d1, y3, d3, d2]
    simp
  have vx : lpA bs 3 32 = (x : Int) := by rw [eA, x1]
  have vy : lpB bs 3 32 = (y : Int) := by rw [eB, y1]
  refine ⟨⟨?_, by omega, by omega, ?_⟩, hA, hB⟩
  · rw [vx, vy, Int.toNat_natCast, Int.toNat_natCast, hd_split]; exact e
  · rw [vx, vy, Int.toNat_natCast, Int.toNat_natCast, List.length_drop]
    rw [vx, vy] at ln
    have : ((x * y : Nat) : Int) = (x : Int) * (y : Int) := by simp
    omega
theorem pic_sp {bs : List UInt8} {x y : Nat} {t : List UInt8} (h : PicP bs x y t) : spOK bs = true ∧ lpA bs 3 32 = (x : Int) ∧ lpB bs 3 32 = (y : Int) ∧ bs.drop (lpE bs 3 32 + 5) = t := by
  obtain ⟨e, hx, hy, ht⟩ := h
  have hl : bs.length = (hd15 x y).length + x * y := by rw [e, List.length_append, ht]
  have hh := hd_len hx.2 hy.2
  have xy : ((x * y : Nat) : Int) = (x : Int) * (y : Int) := by simp
  have m := mul15 (w := (x : Int)) (h := (y : Int)) (by omega) (by omega)
  rw [hd_split] at e
  have d3 : bs.drop 3 = Lib.decDigits x ++ (32 :: (Lib.decDigits y ++ [10, 50, 53, 53, 10] ++ t)) := by rw [e]; simp
  have n1 := li_of d3 (by omega) (fun c s q => by
    have : c = 32 := by simpa using (List.cons.inj q).1.symm
    subst this; decide)
  obtain ⟨x1, x2, x3⟩ := li_some n1
  have k1 : lpK bs 3 = 3 + (Lib.decDigits x).length := by unfold lpK; rw [x2]
  have d4 : bs.drop (lpK bs 3) = 32 :: (Lib.decDigits y ++ [10, 50, 53, 53, 10] ++ t) := by rw [k1]; exact drop_add_left d3
  have d5 : bs.drop (lpK bs 3 + 1) = Lib.decDigits y ++ ([10, 50, 53, 53, 10] ++ t) := by rw [← List.drop_drop, d4]; simp
  have n2 := li_of d5 (by omega) (fun c s q => by
    have : c = 10 := by simpa using (List.cons.inj q).1.symm
    subst this; decide)
  obtain ⟨y1, y2, y3⟩ := li_some n2
  have ok : lpOK bs 3 32 = true := by unfold lpOK; rw [x1, d4, decide_eq_true (by omega)]; rfl
  have eA : lpA bs 3 32 = (x : Int) := by unfold lpA; rw [ok, if_pos rfl, x1]
  have eB : lpB bs 3 32 = (y : Int) := by unfold lpB; rw [ok, if_pos rfl, y1]
  have eE : lpE bs 3 32 = lpK bs 3 + 1 + (Lib.decDigits y).length := by unfold lpE; rw [ok, if_pos rfl, show lpK bs (lpK bs 3 + 1) = lpK bs 3 + 1 + liK (bs.drop (lpK bs 3 + 1)) from rfl, y2]
  have d6 : bs.drop (lpE bs 3 32) = [10, 50, 53, 53, 10] ++ t := by rw [eE]; exact drop_add_left d5
  have d7 : bs.drop (lpE bs 3 32 + 5) = t := by rw [← List.drop_drop, d6]; rfl
  have lE : lpE bs 3 32 + 5 + x * y = bs.length := by
    have := congrArg List.length d7
    rw [List.length_drop, ht] at this
    have le : lpE bs 3 32 + 5 ≤ bs.length := by
      have := congrArg List.length d6
      rw [List.length_drop, List.length_append] at this
      simp at this; omega
    omega
  refine ⟨?_, eA, eB, d7⟩
  unfold spOK
  rw [eA, eB, d6]
  have i1 : inR (x : Int) 1 10 = true := by unfold inR; simp; omega
  have i2 : inR (y : Int) 1 10 = true := by unfold inR; simp; omega
  have l3 : decide (3 ≤ bs.length) = true := decide_eq_true (by omega)
  have l2 : decide (bs.length ≤ 200) = true := decide_eq_true (by omega)
  have p3 : bs.take 3 = [80, 53, 10] := by rw [e]; rfl
  rw [i1, i2, l3, l2, p3, show ((bs.length : Int) - (lpE bs 3 32 : Int)) = 5 + (x : Int) * (y : Int) by omega]
  simp
theorem sp_eq (bs : List UInt8) : spOK bs = rpB bs := by
  cases h : rpB bs
  · cases k : spOK bs
    · rfl
    · have := (pic_read (sp_pic k).1).1
      rw [h] at this; cases this
  · exact (pic_sp (read_pic h)).1
theorem sp_vals {bs : List UInt8} (h : spOK bs = true) : lpA bs 3 32 = (ppW bs : Int) ∧ lpB bs 3 32 = (ppH bs : Int) ∧ bs.drop (lpE bs 3 32 + 5) = ppX bs := by
  have := pic_sp (read_pic (by rw [← sp_eq]; exact h))
  exact this.2
end Go.Proofs.YtcgbpcipdanfhaaDoor
namespace Go.Proofs.YtcgbpcipdanfhaaDoor
open Go.RowKit
set_option linter.unusedVariables false
set_option maxRecDepth 100000
set_option linter.unusedSimpArgs false

theorem ext_list (s : ByteArray) (i j : Nat) : (s.extract i j).toList = (s.data.toList.drop i).take (j - i) := by
  rw [ByteArray.toList_eq, Lib.extract_data]
theorem wm_of {q : Int} (h : 1 ≤ q ∧ q ≤ 100) : IntKind.i64.wrap q = q := by rw [IntKind.wrap_i64]; omega
theorem sp_no {bs : List UInt8} (q : spOK bs = false) : rpW bs = 0 ∧ rpH bs = 0 ∧ rpL bs = [] ∧ rpB bs = false := by
  have : rpB bs = false := by rw [← sp_eq]; exact q
  unfold rpW rpH rpL
  rw [this]
  exact ⟨rfl, rfl, rfl, rfl⟩
theorem lpE_le {bs : List UInt8} (h : 3 ≤ bs.length) : lpE bs 3 32 ≤ bs.length := by
  unfold lpE
  split
  · rename_i ok
    unfold lpOK at ok
    have ok2 := ((Bool.and_eq_true _ _).mp ok).2
    have hd : (bs.drop (lpK bs 3)).head? = some 32 := by simpa using ok2
    have lt : lpK bs 3 < bs.length := by
      rcases Nat.lt_or_ge (lpK bs 3) bs.length with q | q
      · exact q
      · rw [List.drop_eq_nil_of_le q] at hd; cases hd
    exact lpK_le (by omega)
  · exact h
set_option maxHeartbeats 8000000 in
theorem ReadPictureS (s : ByteArray) (w : World) (hs : s.size ≤ 1048576) :
    Calls Tryd.prog 31 #[.string s] w fun e w' => ∃ a' n' c', e = .returned (.tuple #[.int .i64 (rpW s.data.toList), .int .i64 (rpH s.data.toList), .slice a' n' c', .bool (rpB s.data.toList)]) ∧ Below w.heap.size w w' ∧ RtI w.heap.size w' a' n' c' (rpL s.data.toList) ∧ n' ≤ 1048576 := by
  obtain ⟨i0, hi0, hz0, hz1, hz2⟩ := info_parts Tryd.info3
  have C1 := hide (fun (h : 3 ≤ s.size) w => pairS15 s 3 32 w h hs)
  have XL := hide (fun i j => ext_list s i j)
  obtain ⟨bs, hbs⟩ : ∃ bs, bs = s.data.toList := ⟨_, rfl⟩
  have hl : bs.length = s.size := by rw [hbs, size_list]
  have IX : Hid (∀ i (h : i < s.size), ∃ h2 : i < bs.length, s[i]'h = bs[i]) := hide (fun i h => ⟨by omega, by subst hbs; rfl⟩)
  rw [← hbs] at C1 XL ⊢
  have HL := hide hl
  clear hbs
  have NO : Hid (spOK bs = false → rpW bs = 0 ∧ rpH bs = 0 ∧ rpL bs = [] ∧ rpB bs = false) := hide (sp_no (bs := bs))
  have HB := hide (Below.refl w.heap.size w)
  by_cases g3 : 3 ≤ s.size
  · have d1 : decide ((s.size : Int) < 3) = false := decide_eq_false (by omega)
    have d1' : ¬ ((s.size : Int) < 3) := by omega
    by_cases g2 : s.size ≤ 200
    · have d2 : decide ((200 : Int) < (s.size : Int)) = false := decide_eq_false (by omega)
      have d2' : ¬ ((200 : Int) < (s.size : Int)) := by omega
      have x3 := unhide XL 0 3
      rw [List.drop_zero] at x3
      cases g4 : (bs.take 3 == [80, 53, 10])
      · have d3 : ((s.extract 0 3).toList == [80, 53, 10]) = false := by rw [x3]; exact g4
        have F := unhide NO (by unfold spOK; rw [g4]; simp)
        rw [F.1, F.2.1, F.2.2.1, F.2.2.2]
        clear F NO
        clear C1 XL IX hl x3 g4
        go_enter Tryd.func31, Tryd.ntmps31
        go_wp2_with fail
        (try simp only [Exit.inBlock, Exit.then])
        refine bodyPost_ret (results_tmp4 rfl _ _ _) rfl ?_
        exact ⟨none, 0, 0, rfl, unhide HB, rti_nil15, by omega⟩
      · have d3 : ((s.extract 0 3).toList == [80, 53, 10]) = true := by rw [x3]; exact g4
        have C2 := hide (unhide C1 g3)
        have SP : Hid (spOK bs = (((inR (lpA bs 3 32) 1 10 && inR (lpB bs 3 32) 1 10) && (((bs.length : Int) - (lpE bs 3 32 : Int)) == 5 + lpA bs 3 32 * lpB bs 3 32)) && ((bs.drop (lpE bs 3 32)).take 5 == [10, 50, 53, 53, 10]))) := hide (by
          unfold spOK
          rw [g4, decide_eq_true (show 3 ≤ bs.length by omega), decide_eq_true (show bs.length ≤ 200 by omega)]
          simp only [Bool.true_and])
        have VAL : Hid (spOK bs = true → lpA bs 3 32 = (ppW bs : Int) ∧ lpB bs 3 32 = (ppH bs : Int) ∧ bs.drop (lpE bs 3 32 + 5) = ppX bs) := hide sp_vals
        clear C1 g4 x3
        have IA := hide (fun w => inS15 (lpA bs 3 32) w)
        have IB := hide (fun w => inS15 (lpB bs 3 32) w)
        obtain ⟨A, hA⟩ : ∃ A, A = lpA bs 3 32 := ⟨_, rfl⟩
        obtain ⟨B, hB⟩ : ∃ B, B = lpB bs 3 32 := ⟨_, rfl⟩
        obtain ⟨E, hE⟩ : ∃ E, E = lpE bs 3 32 := ⟨_, rfl⟩
        rw [← hA, ← hB, ← hE] at C2 SP VAL
        rw [← hA] at IA
        rw [← hB] at IB
        have HE : Hid (E ≤ bs.length) := hide (by rw [hE]; exact lpE_le (by omega))
        clear hA hB hE
        cases gA : inR A 1 10
        · rw [gA] at IA
          have F := unhide NO (by rw [unhide SP, gA]; rfl)
          rw [F.1, F.2.1, F.2.2.1, F.2.2.2]
          clear F NO
          clear XL IX hl gA SP VAL IB
          go_enter Tryd.func31, Tryd.ntmps31
          go_wp2_with fail
          refine (unhide C2 _).mono ?_
          rintro e w1 ⟨rfl, hb⟩
          replace HB := hide (below_on (unhide HB) hb)
          clear hb
          go_wp2_with fail
          refine (unhide IA _).mono ?_
          rintro e w2 ⟨rfl, rfl⟩
          go_wp2_with fail
          (try simp only [Exit.inBlock, Exit.then])
          refine bodyPost_ret (results_tmp4 rfl _ _ _) rfl ?_
          exact ⟨none, 0, 0, rfl, unhide HB, rti_nil15, by omega⟩
        · rw [gA] at IA
          cases gB : inR B 1 10
          · rw [gB] at IB
            have F := unhide NO (by rw [unhide SP, gA, gB]; rfl)
            rw [F.1, F.2.1, F.2.2.1, F.2.2.2]
            clear F NO
            clear XL IX hl gA gB SP VAL
            go_enter Tryd.func31, Tryd.ntmps31
            go_wp2_with fail
            refine (unhide C2 _).mono ?_
            rintro e w1 ⟨rfl, hb⟩
            replace HB := hide (below_on (unhide HB) hb)
            clear hb
            go_wp2_with fail
            refine (unhide IA _).mono ?_
            rintro e w2 ⟨rfl, rfl⟩
            go_wp2_with fail
            refine (unhide IB _).mono ?_
            rintro e w3 ⟨rfl, rfl⟩
            go_wp2_with fail
            (try simp only [Exit.inBlock, Exit.then])
            refine bodyPost_ret (results_tmp4 rfl _ _ _) rfl ?_
            exact ⟨none, 0, 0, rfl, unhide HB, rti_nil15, by omega⟩
          · rw [gB] at IB
            have ra := inR_in15 gA
            have rb := inR_in15 gB
            have mb := mul15 ra rb
            have wm : wrap64 (A * B) = A * B := by unfold wrap64; omega
            have wm1 : IntKind.i64.wrap (A * B) = A * B := wm_of mb
            have wm2 : IntKind.i64.wrap (5 + A * B) = 5 + A * B := by rw [IntKind.wrap_i64]; omega
            have wm3 : wrap64 (5 + A * B) = 5 + A * B := by unfold wrap64; omega
            have EL : E ≤ 300 ∨ 300 < E := by omega
            by_cases eq : (s.size : Int) - (E : Int) = 5 + A * B
            · have eE : E + 5 ≤ s.size := by omega
              have wd : IntKind.i64.wrap ((s.size : Int) - (E : Int)) = (s.size : Int) - (E : Int) := by rw [IntKind.wrap_i64]; omega
              have dn : ((s.size : Int) - (E : Int) != 5 + A * B) = false := by rw [eq]; simp
              have w5 : IntKind.i64.wrap ((E : Int) + 5) = (E : Int) + 5 := by rw [IntKind.wrap_i64]; omega
              have xE := unhide XL E (E + 5)
              rw [show E + 5 - E = 5 by omega] at xE
              have s1 : (0 : Int) ≤ (E : Int) := by omega
              have s2 : (E : Int) ≤ (E : Int) + 5 := by omega
              have s3 : (E : Int) + 5 ≤ (s.size : Int) := by omega
              have s4 : ((E : Int) + 5).toNat = E + 5 := by omega
              cases gM : ((bs.drop E).take 5 == [10, 50, 53, 53, 10])
              · have dM : ((s.extract E (E + 5)).toList == [10, 50, 53, 53, 10]) = false := by rw [xE]; exact gM
                have F := unhide NO (by rw [unhide SP, gM]; simp)
                rw [F.1, F.2.1, F.2.2.1, F.2.2.2]
                clear F NO
                replace eq := hide eq
                clear XL IX hl gA gB gM SP VAL xE ra rb mb EL
                go_enter Tryd.func31, Tryd.ntmps31
                go_wp2_with fail
                refine (unhide C2 _).mono ?_
                rintro e w1 ⟨rfl, hb⟩
                replace HB := hide (below_on (unhide HB) hb)
                clear hb
                go_wp2_with fail
                refine (unhide IA _).mono ?_
                rintro e w2 ⟨rfl, rfl⟩
                go_wp2_with fail
                refine (unhide IB _).mono ?_
                rintro e w3 ⟨rfl, rfl⟩
                go_wp2_with fail
                (try simp only [Exit.inBlock, Exit.then])
                refine bodyPost_ret (results_tmp4 rfl _ _ _) rfl ?_
                exact ⟨none, 0, 0, rfl, unhide HB, rti_nil15, by omega⟩
              · have dM : ((s.extract E (E + 5)).toList == [10, 50, 53, 53, 10]) = true := by rw [xE]; exact gM
                have OK : spOK bs = true := by rw [unhide SP, gA, gB, gM, hl, show ((s.size : Int) - (E : Int) == 5 + A * B) = true by rw [eq]; simp]; rfl
                have V := unhide VAL OK
                have RB : rpB bs = true := by rw [← sp_eq]; exact OK
                have RE : rpW bs = A ∧ rpH bs = B ∧ rpL bs = tB (bs.drop (E + 5)) := by unfold rpW rpH rpL; rw [RB, ← V.1, ← V.2.1, ← V.2.2]; exact ⟨rfl, rfl, rfl⟩
                rw [RE.1, RE.2.1, RE.2.2, RB]
                have LT : Hid ((tB (bs.drop (E + 5))).length ≤ 1048576) := hide (by rw [tB_len, List.length_drop]; omega)
                replace eq := hide eq
                clear XL gA gB gM SP VAL xE ra rb mb EL NO OK V RB RE hl
                go_enter Tryd.func31, Tryd.ntmps31
                go_wp2_with fail
                refine (unhide C2 _).mono ?_
                rintro e w1 ⟨rfl, hb⟩
                replace HB := hide (below_on (unhide HB) hb)
                clear hb
                go_wp2_with fail
                refine (unhide IA _).mono ?_
                rintro e w2 ⟨rfl, rfl⟩
                go_wp2_with fail
                refine (unhide IB _).mono ?_
                rintro e w3 ⟨rfl, rfl⟩
                go_wp2
                go_loopw [9, 10] (fun v kv wr => ∃ (k : Nat) (v1 : Value), v1 = v ∧ kv = .int .i64 (k : Int) ∧ E + 5 ≤ k ∧ k ≤ s.size ∧ Hid (RwI w.heap.size wr v1 (tB ((bs.drop (E + 5)).take (k - (E + 5))))) ∧ Hid (Below w.heap.size w wr)) (fun _ kv _ => s.size - (intOf kv).toNat)
                case atStart => exact ⟨E + 5, _, rfl, by simp, by omega, by omega, hide (by simpa [tB] using RwI.nil w.heap.size _), HB⟩
                case round =>
                  clear HB C2 IA IB
                  obtain ⟨k, v1, rfl, rfl, k1, k2, HR, HB⟩ := hrel
                  by_cases hlt : k < s.size
                  · have hlt' : (k : Int) < (s.size : Int) := by omega
                    obtain ⟨hk, e0⟩ := unhide IX k hlt
                    obtain ⟨c, hc⟩ : ∃ c, c = bs[k] := ⟨_, rfl⟩
                    rw [← hc] at e0
                    have hd : k - (E + 5) < (bs.drop (E + 5)).length := by rw [List.length_drop]; omega
                    have ce : (bs.drop (E + 5))[k - (E + 5)] = c := by rw [hc, List.getElem_drop]; congr 1; omega
                    have TK : Hid (tB ((bs.drop (E + 5)).take (k + 1 - (E + 5))) = tB ((bs.drop (E + 5)).take (k - (E + 5))) ++ [(c.toNat : Int)]) := hide (by
                      rw [show k + 1 - (E + 5) = (k - (E + 5)) + 1 by omega, (List.take_append_getElem hd).symm, ce]; simp [tB])
                    have wc : IntKind.i64.wrap (c.toNat : Int) = (c.toNat : Int) := by have := UInt8.toNat_lt c; rw [IntKind.wrap_i64]; omega
                    have wk : IntKind.i64.wrap ((k : Int) + 1) = (k : Int) + 1 := by rw [IntKind.wrap_i64]; omega
                    have LB : Hid ((tB ((bs.drop (E + 5)).take (k - (E + 5)))).length ≤ 200) := hide (by rw [tB_len, List.length_take]; have := unhide HL; simp; omega)
                    clear hc hd ce
                    go_wp2_with (at_builtin; refine wpList_append_own _ rfl (.tmp 65) (.tmp 70) 23 rfl w.heap.size 3 i0 (.int .i64 0) 1 8 Tryd.underlying23 hi0 hz0 hz1 hz2 rfl (by decide) _ _ _ rfl ((unhide HR).row.alloc _) ⟨_, 0, none⟩ 1 1 [.int .i64 (c.toNat : Int)] rfl rfl (new_cellI _ _) (fun u hu => by simp at hu; subst hu; rfl) (by unfold maxLen; have := unhide LB; omega) (by have := unhide LB; omega) (by have := (unhide HB).size; simp; omega) ?_)
                    intro v' w7 hown hgr _
                    have RN : Hid (RwI w.heap.size w7 v' (tB ((bs.drop (E + 5)).take (k + 1 - (E + 5))))) := hide (by
                      rw [unhide TK]
                      exact RwI.snoc hown)
                    have HB2 := hide (owns_belowR (unhide HB) (unhide HB).size (unhide HR).row hgr)
                    clear hown hgr HR HB LB
                    go_wp2
                    go_roundw
                    case rel => exact ⟨k + 1, _, rfl, by simp, by omega, by omega, RN, HB2⟩
                    case measure => simp [intOf]; omega
                  · obtain rfl : k = s.size := by omega
                    have ET : (bs.drop (E + 5)).take (s.size - (E + 5)) = bs.drop (E + 5) := List.take_of_length_le (by rw [List.length_drop, unhide HL]; exact Nat.le_refl _)
                    rw [ET] at HR
                    clear ET IX
                    obtain ⟨a', c', rfl, r⟩ := (unhide HR).rt
                    have hnl : ¬ ((s.size : Int) < (s.size : Int)) := by omega
                    go_wp2
                    (try simp only [Exit.inBlock, Exit.then])
                    refine bodyPost_ret (results_tmp4 rfl _ _ _) rfl ?_
                    exact ⟨_, _, _, rfl, unhide HB, r, unhide LT⟩
            · have dn : ((s.size : Int) - (E : Int) != 5 + A * B) = true := by simpa using eq
              have EB : E ≤ s.size := by have := unhide HE; omega
              have wd : IntKind.i64.wrap ((s.size : Int) - (E : Int)) = (s.size : Int) - (E : Int) := by rw [IntKind.wrap_i64]; omega
              have F := unhide NO (by rw [unhide SP, hl, show ((s.size : Int) - (E : Int) == 5 + A * B) = false from beq_eq_false_iff_ne.2 eq]; simp)
              rw [F.1, F.2.1, F.2.2.1, F.2.2.2]
              clear F NO
              clear XL IX hl gA gB SP VAL ra rb mb EL eq
              go_enter Tryd.func31, Tryd.ntmps31
              go_wp2_with fail
              refine (unhide C2 _).mono ?_
              rintro e w1 ⟨rfl, hb⟩
              replace HB := hide (below_on (unhide HB) hb)
              clear hb
              go_wp2_with fail
              refine (unhide IA _).mono ?_
              rintro e w2 ⟨rfl, rfl⟩
              go_wp2_with fail
              refine (unhide IB _).mono ?_
              rintro e w3 ⟨rfl, rfl⟩
              go_wp2_with fail
              (try simp only [Exit.inBlock, Exit.then])
              refine bodyPost_ret (results_tmp4 rfl _ _ _) rfl ?_
              exact ⟨none, 0, 0, rfl, unhide HB, rti_nil15, by omega⟩
    · have d2 : decide ((200 : Int) < (s.size : Int)) = true := decide_eq_true (by omega)
      have d2' : (200 : Int) < (s.size : Int) := by omega
      have F := unhide NO (by unfold spOK; rw [decide_eq_false (show ¬ bs.length ≤ 200 by omega)]; simp)
      rw [F.1, F.2.1, F.2.2.1, F.2.2.2]
      clear F NO
      clear C1 XL IX hl
      go_enter Tryd.func31, Tryd.ntmps31
      go_wp2_with fail
      (try simp only [Exit.inBlock, Exit.then])
      refine bodyPost_ret (results_tmp4 rfl _ _ _) rfl ?_
      exact ⟨none, 0, 0, rfl, unhide HB, rti_nil15, by omega⟩
  · have d1 : decide ((s.size : Int) < 3) = true := decide_eq_true (by omega)
    have d1' : (s.size : Int) < 3 := by omega
    have F := unhide NO (by unfold spOK; rw [decide_eq_false (show ¬ 3 ≤ bs.length by omega)]; simp)
    rw [F.1, F.2.1, F.2.2.1, F.2.2.2]
    clear F NO
    clear C1 XL IX hl
    go_enter Tryd.func31, Tryd.ntmps31
    go_wp2_with fail
    (try simp only [Exit.inBlock, Exit.then])
    refine bodyPost_ret (results_tmp4 rfl _ _ _) rfl ?_
    exact ⟨none, 0, 0, rfl, unhide HB, rti_nil15, by omega⟩
end Go.Proofs.YtcgbpcipdanfhaaDoor
namespace Go.Proofs.YtcgbpcipdanfhaaDoor
open Go.ChangeShapes Go.WideShapes Go.ChangeAt Go.RowKit Go.Joins
set_option linter.unusedVariables false
set_option maxRecDepth 100000
set_option linter.unusedSimpArgs false

theorem own : ownKnob Tryd.prog.godebug = none := by kernel_rfl
theorem laidOut : laidOutB Tryd.prog = true := by kernel_rfl
theorem Tryd.cells3 : Tryd.prog.cellsOf 3 = 1 := by kernel_rfl

end Go.Proofs.YtcgbpcipdanfhaaDoor
namespace Go.Proofs.YtcgbpcipdanfhaaDoor
open Go.ChangeShapes Go.WideShapes Go.ChangeAt Go.RowKit Go.Joins
set_option linter.unusedVariables false
set_option maxRecDepth 100000
set_option linter.unusedSimpArgs false

theorem byte_wf {n : Int} (h : (Lit.int .u8 n).wf = true) : 0 ≤ n ∧ n ≤ 255 := by
  simp [Lit.wf, IntKind.min, IntKind.max, IntKind.signed, IntKind.bits] at h
  omega
theorem open_Y {H : Type} {enc : TypeId × Value → H} {W : World} {r : Reach} {b0 : Nat} {v : Value} {d : DataW H} {p : List MemPlace}
    (hv : Value.okWide Tryd.prog W r b0 22 v) (h : DataW.Trod enc Tryd.prog W 0 (fun _ => true) true 22 v d p) :
    ∃ (a : Option Addr) (n c : Nat), v = .slice a n c ∧ ArY W a n := by
  obtain ⟨a, n, c, rfl⟩ := okWide_slice Tryd.underlying22 hv
  obtain ⟨fuel, hf⟩ := h
  rcases open_ints Tryd.underlying22 Tryd.underlying5 (by kernel_rfl) hf with ⟨hcs, _⟩ | ⟨x, l, c', zs, hcs, _, hl, hm, hz, _, hcell, hwz⟩
  · simp only [Value.cells, List.cons.injEq, Value.slice.injEq, and_true] at hcs
    obtain ⟨rfl, rfl, rfl⟩ := hcs
    exact ⟨none, 0, 0, rfl, .inl rfl, Nat.zero_le _⟩
  · simp only [Value.cells, List.cons.injEq, Value.slice.injEq, and_true] at hcs
    obtain ⟨rfl, rfl, rfl⟩ := hcs
    simp only [if_true] at hz
    refine ⟨some x, n, c, rfl, ?_, ?_⟩
    · by_cases h0 : n = 0
      · exact .inl h0
      · obtain ⟨b, off, spot⟩ := x
        have hc := hcell 0 (by omega)
        have hspot : spot = none := by simpa [Addr.add] using World.cell?_spot hc
        subst hspot
        refine .inr ⟨b, off, rfl, ?_, fun i hi => ?_⟩
        · exact World.block_lt_of_cell? _ _ hc
        · have h1 := hcell i (by omega)
          have hi2 : i < zs.length := by omega
          have hw := byte_wf (hwz (zs.getD i 0) (by rw [List.getD_eq_getElem?_getD, List.getElem?_eq_getElem hi2]; exact List.getElem_mem _))
          refine ⟨zs.getD i 0, hw.1, hw.2, ?_⟩
          by_cases hi0 : i = 0
          · subst hi0; simpa [Addr.add] using h1
          · simpa [Addr.add, hi0] using h1
    · have := Nat.le_trans hl hm
      unfold maxLen at this
      omega
end Go.Proofs.YtcgbpcipdanfhaaDoor
