/- Pictures as texts: PictureBytes of both sides, by value. No condition beyond those typed. Written by mkpb15.py. -/
import Derived.Test.YtcgbpcipdanfhaaDoorNum15
import Derived.Test.YtcgbpcipdanfhaaDoorRu16
import Derived.Test.YtcgbpcipdanfhaaDoorShelf
namespace Go.Proofs.YtcgbpcipdanfhaaDoor
open Go.RowKit
set_option linter.unusedVariables false
set_option maxRecDepth 100000
set_option linter.unusedSimpArgs false

theorem sideI15 (n : Int) (w : World) :
    Calls Tryd.prog 81 #[.int .i64 n] w fun e w' => e = .returned (.bool (inR n 1 10)) ∧ w' = w := by
  unfold inR
  cases d1 : decide (1 ≤ n) <;> cases d2 : decide (n ≤ 10) <;>
    (go_enter Tryd.func81, Tryd.ntmps81
     go_wp2
     go_ret
     exact ⟨rfl, rfl⟩)
theorem inS15 (n : Int) (w : World) : Calls Tryd.prog 63 #[.int .i64 n, .int .i64 1, .int .i64 10] w fun e w' => e = .returned (.bool (inR n 1 10)) ∧ w' = w := inS8 n 1 10 w
theorem inR_in15 {n : Int} (h : inR n 1 10 = true) : 1 ≤ n ∧ n ≤ 10 := by
  unfold inR at h
  simpa using h
/-- The sides of a picture fit its bytes. -/
def gP15 (w h m : Int) : Bool := inR w 1 10 && (inR h 1 10 && (m == w * h))
theorem gP_in15 {w h m : Int} (k : gP15 w h m = true) : (1 ≤ w ∧ w ≤ 10) ∧ (1 ≤ h ∧ h ≤ 10) ∧ m = w * h := by
  unfold gP15 at k
  have k1 := (Bool.and_eq_true _ _).mp k
  have k2 := (Bool.and_eq_true _ _).mp k1.2
  exact ⟨inR_in15 k1.1, inR_in15 k2.1, by simpa using k2.2⟩
theorem mul15 {w h : Int} (a : 1 ≤ w ∧ w ≤ 10) (b : 1 ≤ h ∧ h ≤ 10) : 1 ≤ w * h ∧ w * h ≤ 100 := by
  have c : w = 1 ∨ w = 2 ∨ w = 3 ∨ w = 4 ∨ w = 5 ∨ w = 6 ∨ w = 7 ∨ w = 8 ∨ w = 9 ∨ w = 10 := by omega
  rcases c with rfl | rfl | rfl | rfl | rfl | rfl | rfl | rfl | rfl | rfl <;> omega
theorem goodPicI (x y m : Int) (w : World) :
    Calls Tryd.prog 60 #[.int .i64 x, .int .i64 y, .int .i64 m] w fun e w' => e = .returned (.bool (gP15 x y m)) ∧ w' = w := by
  unfold gP15
  have C1 := hide (fun w => sideI15 x w)
  have C2 := hide (fun w => sideI15 y w)
  cases b1 : inR x 1 10
  · rw [b1] at C1
    clear b1 C2
    go_enter Tryd.func60, Tryd.ntmps60
    go_wp2_with fail
    refine (unhide C1 _).mono ?_
    rintro e w1 ⟨rfl, rfl⟩
    go_wp2_with fail
    go_ret
    exact ⟨rfl, rfl⟩
  · cases b2 : inR y 1 10
    · rw [b1] at C1
      rw [b2] at C2
      clear b1 b2
      go_enter Tryd.func60, Tryd.ntmps60
      go_wp2_with fail
      refine (unhide C1 _).mono ?_
      rintro e w1 ⟨rfl, rfl⟩
      go_wp2_with fail
      refine (unhide C2 _).mono ?_
      rintro e w2 ⟨rfl, rfl⟩
      go_wp2_with fail
      go_ret
      exact ⟨rfl, rfl⟩
    · have mb := mul15 (inR_in15 b1) (inR_in15 b2)
      have wm : IntKind.i64.wrap (x * y) = x * y := by rw [IntKind.wrap_i64]; omega
      rw [b1] at C1
      rw [b2] at C2
      have wm2 : wrap64 (x * y) = x * y := by unfold wrap64; omega
      clear b1 b2 mb
      go_enter Tryd.func60, Tryd.ntmps60
      go_wp2_with fail
      refine (unhide C1 _).mono ?_
      rintro e w1 ⟨rfl, rfl⟩
      go_wp2_with fail
      refine (unhide C2 _).mono ?_
      rintro e w2 ⟨rfl, rfl⟩
      go_wp2_with fail
      go_ret
      exact ⟨rfl, rfl⟩
/-- A picture's head. -/
def hd15 (x y : Nat) : List UInt8 := [80, 53, 10] ++ Lib.decDigits x ++ [32] ++ Lib.decDigits y ++ [10, 50, 53, 53, 10]
theorem hd_len {x y : Nat} (h1 : x ≤ 10) (h2 : y ≤ 10) : (hd15 x y).length ≤ 20 := by
  have a := dd_len 1 x (by omega)
  have b := dd_len 1 y (by omega)
  simp [hd15]; omega
set_option maxHeartbeats 4000000 in
theorem headI (x y : Nat) (w : World) (h1 : x ≤ 10) (h2 : y ≤ 10) :
    Calls Tryd.prog 61 #[.int .i64 (x : Int), .int .i64 (y : Int)] w fun e w' => e = .returned (.string (st (hd15 x y))) ∧ w' = w := by
  have la := dd_len 1 x (by omega)
  have lb := dd_len 1 y (by omega)
  have C1 := hide (fun w => Tryd.strconv_Itoa_small x (by omega) w)
  have C2 := hide (fun w => Tryd.strconv_Itoa_small y (by omega) w)
  obtain ⟨A, hA⟩ : ∃ A, A = Lib.decDigits x := ⟨_, rfl⟩
  obtain ⟨B, hB⟩ : ∃ B, B = Lib.decDigits y := ⟨_, rfl⟩
  rw [← hA] at la
  rw [← hB] at lb
  obtain ⟨K1, c1⟩ : ∃ K, ({ data := #[80, 53, 10] } : ByteArray) = K ∧ K = st [80, 53, 10] := ⟨_, rfl, rfl⟩
  obtain ⟨K2, c2⟩ : ∃ K, ({ data := #[32] } : ByteArray) = K ∧ K = st [32] := ⟨_, rfl, rfl⟩
  obtain ⟨K3, c3⟩ : ∃ K, ({ data := #[10, 50, 53, 53, 10] } : ByteArray) = K ∧ K = st [10, 50, 53, 53, 10] := ⟨_, rfl, rfl⟩
  obtain ⟨T1, t1⟩ : ∃ T, T = [80, 53, 10] ++ A := ⟨_, rfl⟩
  obtain ⟨T2, t2⟩ : ∃ T, T = T1 ++ [32] := ⟨_, rfl⟩
  obtain ⟨T3, t3⟩ : ∃ T, T = T2 ++ B := ⟨_, rfl⟩
  obtain ⟨T4, t4⟩ : ∃ T, T = T3 ++ [10, 50, 53, 53, 10] := ⟨_, rfl⟩
  have l1 : T1.length ≤ 5 := by rw [t1]; simp; omega
  have l2 : T2.length ≤ 6 := by rw [t2]; simp; omega
  have l3 : T3.length ≤ 8 := by rw [t3]; simp; omega
  have A1 : K1 ++ st A = st T1 := by rw [c1.2, st_add, t1]
  have A2 : st T1 ++ K2 = st T2 := by rw [c2.2, st_add, t2]
  have A3 : st T2 ++ st B = st T3 := by rw [st_add, t3]
  have A4 : st T3 ++ K3 = st T4 := by rw [c3.2, st_add, t4]
  have z1 : K1.size + (st A).size ≤ 9223372036854775807 := by rw [c1.2, st_size, st_size]; simp; omega
  have z2 : (st T1).size + K2.size ≤ 9223372036854775807 := by rw [c2.2, st_size, st_size]; simp; omega
  have z3 : (st T2).size + (st B).size ≤ 9223372036854775807 := by rw [st_size, st_size]; omega
  have z4 : (st T3).size + K3.size ≤ 9223372036854775807 := by rw [c3.2, st_size, st_size]; simp; omega
  have EH : Hid (hd15 x y = T4) := hide (by rw [t4, t3, t2, t1, hA, hB]; rfl)
  replace c1 := c1.1
  replace c2 := c2.1
  replace c3 := c3.1
  clear t1 t2 t3 t4
  clear h1 h2 la lb l1 l2 l3
  have D1 : Hid (∀ w, Calls Tryd.prog 73 #[.int .i64 (x : Int)] w fun e w' => e = .returned (.string (st A)) ∧ w' = w) := hide (by rw [hA]; exact unhide C1)
  have D2 : Hid (∀ w, Calls Tryd.prog 73 #[.int .i64 (y : Int)] w fun e w' => e = .returned (.string (st B)) ∧ w' = w) := hide (by rw [hB]; exact unhide C2)
  replace hA := hide hA
  replace hB := hide hB
  clear C1 C2
  go_enter Tryd.func61, Tryd.ntmps61
  go_wp2_with fail
  refine (unhide D1 _).mono ?_
  rintro e w1 ⟨rfl, rfl⟩
  go_wp2_with fail
  refine (unhide D2 _).mono ?_
  rintro e w2 ⟨rfl, rfl⟩
  go_wp2_with fail
  go_ret
  exact ⟨by rw [unhide EH]; rfl, rfl⟩
theorem map_take15 {xs : List Int} {i : Nat} (h : i < xs.length) : (xs.take (i + 1)).map by8 = (xs.take i).map by8 ++ [by8 (xs.getD i 0)] := by rw [take_succ14 h, List.map_append]; rfl
/-- A picture's text. -/
def pic15 (x y : Nat) (xs : List Int) : List UInt8 := hd15 x y ++ xs.map by8
theorem byo_wrap {x : Int} (h : byo x = false) : IntKind.u8.wrap x = x := by
  have := byo_in x
  rw [h] at this
  simp at this
  rw [IntKind.wrap_u8]; omega
theorem any_at15 {xs : List Int} (h : xs.any byo = false) {i : Nat} (hi : i < xs.length) : byo (xs.getD i 0) = false := by
  rw [getD_at14 hi]
  exact Bool.eq_false_iff.2 (fun k => by rw [List.any_eq_true.2 ⟨_, List.getElem_mem hi, k⟩] at h; cases h)
set_option maxHeartbeats 8000000 in
theorem picS (x y : Nat) (a : Option Addr) (n c : Nat) (xs : List Int) (w : World) (h : Arg w a n c xs) (h1 : x ≤ 10) (h2 : y ≤ 10) (hn : n ≤ 100) (hg : xs.any byo = false) :
    Calls Tryd.prog 64 #[.int .i64 (x : Int), .int .i64 (y : Int), .slice a n c] w fun e w' => e = .returned (.string (st (pic15 x y xs))) ∧ Below w.heap.size w w' := by
  have la := dd_len 1 x (by omega)
  have lb := dd_len 1 y (by omega)
  have C1 := hide (fun w => numS 1 x (by omega) (by omega) w)
  have C2 := hide (fun w => numS 1 y (by omega) (by omega) w)
  have HS := hide h.sl
  have HN := hide h.len
  have HG := hide hg
  obtain ⟨A, hA⟩ : ∃ A, A = Lib.decDigits x := ⟨_, rfl⟩
  obtain ⟨B, hB⟩ : ∃ B, B = Lib.decDigits y := ⟨_, rfl⟩
  rw [← hA] at la
  rw [← hB] at lb
  obtain ⟨K1, c1⟩ : ∃ K, ({ data := #[80, 53, 10] } : ByteArray) = K ∧ K = st [80, 53, 10] := ⟨_, rfl, rfl⟩
  obtain ⟨K2, c2⟩ : ∃ K, ({ data := #[32] } : ByteArray) = K ∧ K = st [32] := ⟨_, rfl, rfl⟩
  obtain ⟨K3, c3⟩ : ∃ K, ({ data := #[10, 50, 53, 53, 10] } : ByteArray) = K ∧ K = st [10, 50, 53, 53, 10] := ⟨_, rfl, rfl⟩
  obtain ⟨T1, t1⟩ : ∃ T, T = [80, 53, 10] ++ A := ⟨_, rfl⟩
  obtain ⟨T2, t2⟩ : ∃ T, T = T1 ++ [32] := ⟨_, rfl⟩
  obtain ⟨T3, t3⟩ : ∃ T, T = T2 ++ B := ⟨_, rfl⟩
  obtain ⟨T4, t4⟩ : ∃ T, T = T3 ++ [10, 50, 53, 53, 10] := ⟨_, rfl⟩
  have l1 : T1.length ≤ 5 := by rw [t1]; simp; omega
  have l2 : T2.length ≤ 6 := by rw [t2]; simp; omega
  have l3 : T3.length ≤ 8 := by rw [t3]; simp; omega
  have A1 : K1 ++ st A = st T1 := by rw [c1.2, st_add, t1]
  have A2 : st T1 ++ K2 = st T2 := by rw [c2.2, st_add, t2]
  have A3 : st T2 ++ st B = st T3 := by rw [st_add, t3]
  have A4 : st T3 ++ K3 = st T4 := by rw [c3.2, st_add, t4]
  have z1 : K1.size + (st A).size ≤ 9223372036854775807 := by rw [c1.2, st_size, st_size]; simp; omega
  have z2 : (st T1).size + K2.size ≤ 9223372036854775807 := by rw [c2.2, st_size, st_size]; simp; omega
  have z3 : (st T2).size + (st B).size ≤ 9223372036854775807 := by rw [st_size, st_size]; omega
  have z4 : (st T3).size + K3.size ≤ 9223372036854775807 := by rw [c3.2, st_size, st_size]; simp; omega
  have EH : Hid (hd15 x y = T4) := hide (by rw [t4, t3, t2, t1, hA, hB]; rfl)
  replace c1 := c1.1
  replace c2 := c2.1
  replace c3 := c3.1
  clear t1 t2 t3 t4
  have l4 : T4.length ≤ 20 := by rw [← unhide EH]; exact hd_len h1 h2
  have EP : Hid (pic15 x y xs = T4 ++ xs.map by8) := hide (by unfold pic15; rw [unhide EH])
  clear h h1 h2 hg la lb l1 l2 l3 EH
  have D1 : Hid (∀ w : World, Calls Tryd.prog 75 #[.int .i64 (x : Int)] w fun e w' => e = .returned (.string (st A)) ∧ Below w.heap.size w w') := hide (by rw [hA]; exact unhide C1)
  have D2 : Hid (∀ w : World, Calls Tryd.prog 75 #[.int .i64 (y : Int)] w fun e w' => e = .returned (.string (st B)) ∧ Below w.heap.size w w') := hide (by rw [hB]; exact unhide C2)
  replace hA := hide hA
  replace hB := hide hB
  clear C1 C2
  go_enter Tryd.func64, Tryd.ntmps64
  go_wp2_with fail
  refine (unhide D1 _).mono ?_
  rintro e w1 ⟨rfl, hb⟩
  have HB0 := hide hb
  clear hb
  go_wp2_with fail
  refine (unhide D2 _).mono ?_
  rintro e w2 ⟨rfl, hb⟩
  replace HB0 := hide (below_on (unhide HB0) hb)
  clear hb D1 D2
  go_wp2
  clear A1 A2 A3 A4 z1 z2 z3 z4 c1 c2 c3
  go_loopw [7, 20] (fun sv iv wr => ∃ (i : Nat), i ≤ n ∧ iv = .int .i64 i ∧ sv = .string (st (T4 ++ (xs.take i).map by8)) ∧ Hid (Below w.heap.size w wr)) (fun _ iv _ => n - (intOf iv).toNat)
  case atStart => exact ⟨0, Nat.zero_le _, rfl, by simp, HB0⟩
  case round =>
    clear HB0
    obtain ⟨i, hi, rfl, rfl, HB⟩ := hrel
    by_cases hlt : i < n
    · have hlt' : (i : Int) < (n : Int) := by omega
      have hil : i < xs.length := by rw [unhide HN]; exact hlt
      rcases unhide HS with e | ⟨b, off, rfl, hb, hc⟩
      · exact absurd (unhide HN) (by rw [e]; simp; omega)
      have e0 := hc i hil
      have ME := map_take15 hil
      have wb := byo_wrap (any_at15 (unhide HG) hil)
      obtain ⟨v, hv⟩ : ∃ v, v = xs.getD i 0 := ⟨_, rfl⟩
      rw [← hv] at e0 ME wb
      have E0 : wr.cell? ⟨b, off + i, none⟩ = some (.int .i64 v) := ((unhide HB).cell (p := ⟨b, off + i, none⟩) hb).trans e0
      have LL : (T4 ++ (xs.take i).map by8).length ≤ 200 := by simp; omega
      obtain ⟨L, hL⟩ : ∃ L, L = T4 ++ (xs.take i).map by8 := ⟨_, rfl⟩
      obtain ⟨L2, hL2⟩ : ∃ L, L = T4 ++ (xs.take (i + 1)).map by8 := ⟨_, rfl⟩
      have AD : st L ++ st [by8 v] = st L2 := by rw [st_add, hL2, ME, hL, List.append_assoc]
      have zz : (st L).size + (st [by8 v]).size ≤ 9223372036854775807 := by rw [st_size, st_size, hL]; simp at LL ⊢; omega
      have cv := conv1 wr.heap.size v (wr.alloc (.cells #[.int .u8 v] 5)) (by simp [go_sem])
      have HB2 : Hid (Below w.heap.size w (wr.alloc (.cells #[.int .u8 v] 5))) := hide ((unhide HB).alloc (unhide HB).size _)
      rw [← hL]
      replace hL2 := hide hL2
      clear hL LL ME e0 hc hv HB
      go_wp2
      go_roundw
      case rel => exact ⟨i + 1, by omega, by go_num, by rw [unhide hL2], HB2⟩
      case measure => simp [intOf]; omega
    · obtain rfl : i = n := by omega
      have EX : Hid (pic15 x y xs = T4 ++ (xs.take i).map by8) := hide (by rw [unhide EP, ← unhide HN, List.take_length])
      go_wp2
      go_ret
      exact ⟨by rw [unhide EX]; rfl, unhide HB⟩
theorem infoU8 : (Tryd.prog.info? 5).map (fun i => (i.zero, i.size, i.bytes)) = some (some (.int .u8 0), 1, 1) := by kernel_rfl
/-- A row of bytes that is laid: the first i are these, noughts behind. -/
def yl15 (xs : List Int) (n i : Nat) : List Int := xs.take i ++ List.replicate (n - i) 0
theorem yl_len {xs : List Int} {n i : Nat} (hn : xs.length = n) (hi : i ≤ n) : (yl15 xs n i).length = n := by simp [yl15]; omega
theorem yl_set {xs : List Int} {n i : Nat} (hn : xs.length = n) (hi : i < n) : (yl15 xs n i).set i (xs.getD i 0) = yl15 xs n (i + 1) := by
  unfold yl15
  rw [take_succ14 (by omega), List.set_append, if_neg (by simp; omega), show n - i = (n - (i + 1)) + 1 by omega, List.replicate_succ, show i - (xs.take i).length = 0 by simp; omega, List.set_cons_zero, List.append_assoc]
  rfl
/-- A row of bytes of one's own. -/
structure RwY (B : Nat) (w : World) (v : Value) (n : Nat) (L : List Int) : Prop where
  row : w.ownsRow B 5 1 v n (L.map (Value.int .u8))
theorem RwY.put {B g n c : Nat} {w : World} {L : List Int} (h : RwY B w (.slice (some ⟨g, 0, none⟩) n c) n L) (k : Nat) (x : Int) : RwY B (w.setCell ⟨g, k, none⟩ (.int .u8 x)) (.slice (some ⟨g, 0, none⟩) n c) n (L.set k x) := by
  refine ⟨?_⟩
  rw [List.map_set]
  exact (World.ownsRow.stored h.row k (.int .u8 x)).1
set_option maxHeartbeats 8000000 in
theorem textI (a : Option Addr) (n c : Nat) (xs : List Int) (w : World) (h : Arg w a n c xs) (hn : n ≤ 100) (hg : xs.any byo = false) :
    Calls Tryd.prog 62 #[.slice a n c] w fun e w' => e = .returned (.string (st (xs.map by8))) ∧ Below w.heap.size w w' := by
  obtain ⟨i0, hi0, hz0, hz1, hz2⟩ := info_parts infoU8
  have HS := hide h.sl
  have HN := hide h.len
  have HG := hide hg
  clear h hg
  go_enter Tryd.func62, Tryd.ntmps62
  go_wp2_with (at_make; refine wpList_make_full _ rfl _ _ 22 rfl w.heap.size 5 i0 (.int .u8 0) 1 Tryd.underlying22 hi0 hz0 hz1 .i64 .i64 _ _ n rfl rfl rfl rfl ?c1 ?c2 ?c3 ?_)
  case c1 => rw [hz2]; omega
  case c2 => unfold maxLen; omega
  case c3 => exact Nat.le_refl _
  intro w0 hown hgrow
  have P0 : Hid (RwY w.heap.size w0 (.slice (some ⟨w.heap.size, 0, none⟩) n n) n (yl15 xs n 0)) := hide ⟨by
    have e : (yl15 xs n 0).map (Value.int .u8) = (madeCells #[Value.int .u8 0] n).toList := by simp only [madeCells, yl15]; apply List.ext_getElem <;> simp [Nat.mod_one]
    rw [e]
    exact hown⟩
  have B0 : Hid (Below w.heap.size w w0) := hide ((Below.refl _ _).grown hgrow (Nat.le_refl _) (fun k e => by cases e))
  have gs : w.heap.size < w0.heap.size := by
    rcases (unhide P0).row.2 with ⟨e, _⟩ | ⟨g', cap, cur, hv, h1, hg, _⟩
    · simp at e
    · simp only [Value.slice.injEq, Option.some.injEq, Addr.mk.injEq, and_true, true_and] at hv
      have := (Array.getElem?_eq_some_iff.1 hg).1
      omega
  clear hown hgrow
  generalize hgq : w.heap.size = g at *
  go_wp2
  go_loopw [11] (fun iv wr => ∃ (i : Nat), i ≤ n ∧ iv = .int .i64 i ∧ Hid (RwY g wr (.slice (some ⟨g, 0, none⟩) n n) n (yl15 xs n i)) ∧ g < wr.heap.size ∧ Hid (Below g w wr)) (fun iv _ => n - (intOf iv).toNat)
  case atStart => exact ⟨0, Nat.zero_le _, rfl, P0, gs, B0⟩
  case round =>
    clear B0 P0 gs
    obtain ⟨i, hi, rfl, R, gs, HB⟩ := hrel
    by_cases hlt : i < n
    · have hlt' : (i : Int) < (n : Int) := by omega
      have hil : i < xs.length := by rw [unhide HN]; exact hlt
      rcases unhide HS with e | ⟨b, off, rfl, hb, hc⟩
      · exact absurd (unhide HN) (by rw [e]; simp; omega)
      have e0 := hc i hil
      have wb := byo_wrap (any_at15 (unhide HG) hil)
      have R2 := (unhide R).put i (xs.getD i 0)
      rw [yl_set (unhide HN) hlt] at R2
      obtain ⟨v, hv⟩ : ∃ v, v = xs.getD i 0 := ⟨_, rfl⟩
      rw [← hv] at e0 wb R2
      have E0 : wr.cell? ⟨b, off + i, none⟩ = some (.int .i64 v) := ((unhide HB).cell (p := ⟨b, off + i, none⟩) (by rw [← hgq]; exact hb)).trans e0
      have hr := (unhide R).row
      have old : ∃ u, wr.cell? ⟨g, i, none⟩ = some u := by
        rw [hr.cellAt _ (by omega), List.getElem?_eq_getElem (by rw [List.length_map, yl_len (unhide HN) hi]; omega)]
        exact ⟨_, rfl⟩
      obtain ⟨u, hu⟩ := old
      have fr : ∀ o, wr.frozen? ⟨g, o, none⟩ = false := fun o => hr.frozenAt o
      have RN := hide R2
      have HB2 := hide (set_bel15 (k := i) (u := .int .u8 v) (unhide HB) (Nat.le_refl g) gs)
      have gs2 : g < (wr.setCell ⟨g, i, none⟩ (.int .u8 v)).heap.size := by simpa using gs
      clear e0 hc hv hr R R2 HB
      go_wp2
      go_roundw
      case rel => exact ⟨i + 1, by omega, by go_num, RN, gs2, HB2⟩
      case measure => simp [intOf]; omega
    · obtain rfl : i = n := by omega
      have hr := (unhide R).row
      have EX : yl15 xs i i = xs := by unfold yl15; rw [← unhide HN, List.take_length]; simp
      rw [EX] at hr
      have cv := run_convert_bytes_arg wr 22 5 Tryd.underlying22 Tryd.underlying5 g 0 i i xs (unhide HN) (fun j hj => by
        rw [Nat.zero_add, hr.cellAt _ (by omega)]
        have hj' : j < xs.length := by rw [unhide HN]; exact hj
        simp [hj', List.getD]) 9 Tryd.underlying9
      clear hr EX R
      go_wp2
      go_ret
      exact ⟨rfl, by rw [hgq]; exact unhide HB⟩
/-- What PictureBytes tells. -/
def pbB (x y : Int) (xs : List Int) : Bool := gP15 x y (xs.length : Int) && !xs.any byo
def pbV (x y : Int) (xs : List Int) : ByteArray := if pbB x y xs = true then st (pic15 x.toNat y.toNat xs) else st []
set_option maxHeartbeats 4000000 in
theorem PictureBytesI (a : Option Addr) (n c : Nat) (xs : List Int) (x y : Int) (w : World) (h : Arg w a n c xs) (h1 : n ≤ 1048576) (zx : -9223372036854775808 ≤ x ∧ x ≤ 9223372036854775807) (zy : -9223372036854775808 ≤ y ∧ y ≤ 9223372036854775807) :
    Calls Tryd.prog 27 #[.int .i64 x, .int .i64 y, .slice a n c] w fun e w' => e = .returned (.tuple #[.string (pbV x y xs), .bool (pbB x y xs)]) ∧ Below w.heap.size w w' := by
  have HA := hide h
  have hl := h.len
  have C1 := hide (fun w => goodPicI x y (n : Int) w)
  rw [show gP15 x y (n : Int) = gP15 x y (xs.length : Int) by rw [hl]] at C1
  cases hg : gP15 x y (xs.length : Int)
  · rw [hg] at C1
    have EB : pbB x y xs = false := by unfold pbB; rw [hg]; rfl
    have EV : pbV x y xs = st [] := by unfold pbV; rw [EB]; rfl
    rw [EV, EB]
    clear hg EB EV h hl zx zy
    have HB := hide (Below.refl w.heap.size w)
    go_enter Tryd.func27, Tryd.ntmps27
    go_wp2_with fail
    refine (unhide C1 _).mono ?_
    rintro e w1 ⟨rfl, rfl⟩
    go_wp2_with fail
    go_ret2
    exact ⟨rfl, unhide HB⟩
  · rw [hg] at C1
    have C2 := hide (fun w (k : Arg w a n c xs) => containsByo a n c xs w k)
    cases hb : xs.any byo
    · rw [hb] at C2
      have EB : pbB x y xs = true := by unfold pbB; rw [hg, hb]; rfl
      have EV : pbV x y xs = st (pic15 x.toNat y.toNat xs) := by unfold pbV; rw [EB]; rfl
      rw [EV, EB]
      obtain ⟨g1, g2, g3⟩ := gP_in15 hg
      have mb := mul15 g1 g2
      obtain ⟨X, rfl⟩ : ∃ X : Nat, x = (X : Int) := ⟨x.toNat, by omega⟩
      obtain ⟨Y, rfl⟩ : ∃ Y : Nat, y = (Y : Int) := ⟨y.toNat, by omega⟩
      have hn : n ≤ 100 := by omega
      have C3 := hide (fun w => headI X Y w (by omega) (by omega))
      have C4 := hide (fun w (k : Arg w a n c xs) => textI a n c xs w k hn hb)
      have lh := hd_len (x := X) (y := Y) (by omega) (by omega)
      have AD : st (hd15 X Y) ++ st (xs.map by8) = st (pic15 X Y xs) := by rw [st_add]; rfl
      have zz : (st (hd15 X Y)).size + (st (xs.map by8)).size ≤ 9223372036854775807 := by rw [st_size, st_size, List.length_map]; omega
      rw [Int.toNat_natCast, Int.toNat_natCast]
      generalize hd15 X Y = H1 at *
      generalize xs.map by8 = H2 at *
      generalize pic15 X Y xs = H3 at *
      clear hg hb EB EV h hl zx zy g1 g2 g3 mb lh
      have HB := hide (Below.refl w.heap.size w)
      go_enter Tryd.func27, Tryd.ntmps27
      go_wp2_with fail
      refine (unhide C1 _).mono ?_
      rintro e w1 ⟨rfl, rfl⟩
      go_wp2_with fail
      refine (unhide C2 _ (unhide HA)).mono ?_
      rintro e w2 ⟨rfl, hb⟩
      replace HA := hide ((unhide HA).later hb)
      replace HB := hide (below_on (unhide HB) hb)
      clear hb
      go_wp2_with fail
      refine (unhide C3 _).mono ?_
      rintro e w3 ⟨rfl, rfl⟩
      go_wp2_with fail
      refine (unhide C4 _ (unhide HA)).mono ?_
      rintro e w4 ⟨rfl, hb⟩
      replace HA := hide ((unhide HA).later hb)
      replace HB := hide (below_on (unhide HB) hb)
      clear hb
      go_wp2_with fail
      go_ret2
      exact ⟨rfl, unhide HB⟩
    · rw [hb] at C2
      have EB : pbB x y xs = false := by unfold pbB; rw [hg, hb]; rfl
      have EV : pbV x y xs = st [] := by unfold pbV; rw [EB]; rfl
      rw [EV, EB]
      clear hg hb EB EV h hl zx zy
      have HB := hide (Below.refl w.heap.size w)
      go_enter Tryd.func27, Tryd.ntmps27
      go_wp2_with fail
      refine (unhide C1 _).mono ?_
      rintro e w1 ⟨rfl, rfl⟩
      go_wp2_with fail
      refine (unhide C2 _ (unhide HA)).mono ?_
      rintro e w2 ⟨rfl, hb⟩
      replace HA := hide ((unhide HA).later hb)
      replace HB := hide (below_on (unhide HB) hb)
      clear hb
      go_wp2_with fail
      go_ret2
      exact ⟨rfl, unhide HB⟩
set_option maxHeartbeats 4000000 in
theorem PictureBytesS (a : Option Addr) (n c : Nat) (xs : List Int) (x y : Int) (w : World) (h : Arg w a n c xs) (h1 : n ≤ 1048576) (zx : -9223372036854775808 ≤ x ∧ x ≤ 9223372036854775807) (zy : -9223372036854775808 ≤ y ∧ y ≤ 9223372036854775807) :
    Calls Tryd.prog 28 #[.int .i64 x, .int .i64 y, .slice a n c] w fun e w' => e = .returned (.tuple #[.string (pbV x y xs), .bool (pbB x y xs)]) ∧ Below w.heap.size w w' := by
  have HA := hide h
  have hl := h.len
  have C1 := hide (fun w => inS15 x w)
  have C2 := hide (fun w => inS15 y w)
  have C3 := hide (fun w (k : Arg w a n c xs) => rowS15 a n c xs w k)
  cases b1 : inR x 1 10
  · rw [b1] at C1
    have EB : pbB x y xs = false := by unfold pbB gP15; rw [b1]; rfl
    have EV : pbV x y xs = st [] := by unfold pbV; rw [EB]; rfl
    rw [EV, EB]
    clear EB EV h hl zx zy b1 C2 C3
    have HB := hide (Below.refl w.heap.size w)
    go_enter Tryd.func28, Tryd.ntmps28
    go_wp2_with fail
    refine (unhide C1 _).mono ?_
    rintro e w1 ⟨rfl, rfl⟩
    go_wp2_with fail
    go_ret2
    exact ⟨rfl, unhide HB⟩
  · rw [b1] at C1
    cases b2 : inR y 1 10
    · rw [b2] at C2
      have EB : pbB x y xs = false := by unfold pbB gP15; rw [b1, b2]; rfl
      have EV : pbV x y xs = st [] := by unfold pbV; rw [EB]; rfl
      rw [EV, EB]
      clear EB EV h hl zx zy b1 b2 C3
      have HB := hide (Below.refl w.heap.size w)
      go_enter Tryd.func28, Tryd.ntmps28
      go_wp2_with fail
      refine (unhide C1 _).mono ?_
      rintro e w1 ⟨rfl, rfl⟩
      go_wp2_with fail
      refine (unhide C2 _).mono ?_
      rintro e w2 ⟨rfl, rfl⟩
      go_wp2_with fail
      go_ret2
      exact ⟨rfl, unhide HB⟩
    · rw [b2] at C2
      have g1 := inR_in15 b1
      have g2 := inR_in15 b2
      have mb := mul15 g1 g2
      have wm2 : wrap64 (x * y) = x * y := by unfold wrap64; omega
      by_cases b3 : (n : Int) = x * y
      · have d3 : ((n : Int) != x * y) = false := by rw [b3]; simp
        have eg : gP15 x y (xs.length : Int) = true := by unfold gP15; rw [b1, b2, hl, b3]; simp
        have er : rB15 xs = !xs.any byo := by unfold rB15; rw [hl, decide_eq_true (by omega)]; rfl
        rw [er] at C3
        cases hb : xs.any byo
        · rw [hb] at C3
          have EB : pbB x y xs = true := by unfold pbB; rw [eg, hb]; rfl
          have EV : pbV x y xs = st (pic15 x.toNat y.toNat xs) := by unfold pbV; rw [EB]; rfl
          rw [EV, EB]
          have C4 := hide (fun w (k : Arg w a n c xs) => picS x.toNat y.toNat a n c xs w k (by omega) (by omega) (by omega) hb)
          rw [show ((x.toNat : Nat) : Int) = x by omega, show ((y.toNat : Nat) : Int) = y by omega] at C4
          generalize pic15 x.toNat y.toNat xs = H3 at *
          replace b3 := hide b3
          clear EB EV h hl zx zy b1 b2 eg er hb g1 g2 mb
          have HB := hide (Below.refl w.heap.size w)
          go_enter Tryd.func28, Tryd.ntmps28
          go_wp2_with fail
          refine (unhide C1 _).mono ?_
          rintro e w1 ⟨rfl, rfl⟩
          go_wp2_with fail
          refine (unhide C2 _).mono ?_
          rintro e w2 ⟨rfl, rfl⟩
          go_wp2_with fail
          refine (unhide C3 _ (unhide HA)).mono ?_
          rintro e w3 ⟨rfl, hb⟩
          replace HA := hide ((unhide HA).later hb)
          replace HB := hide (below_on (unhide HB) hb)
          clear hb
          go_wp2_with fail
          refine (unhide C4 _ (unhide HA)).mono ?_
          rintro e w4 ⟨rfl, hb⟩
          replace HA := hide ((unhide HA).later hb)
          replace HB := hide (below_on (unhide HB) hb)
          clear hb
          go_wp2_with fail
          go_ret2
          exact ⟨rfl, unhide HB⟩
        · rw [hb] at C3
          have EB : pbB x y xs = false := by unfold pbB; rw [hb]; simp
          replace b3 := hide b3
          have EV : pbV x y xs = st [] := by unfold pbV; rw [EB]; rfl
          rw [EV, EB]
          clear EB EV h hl zx zy b1 b2 eg er hb g1 g2 mb
          have HB := hide (Below.refl w.heap.size w)
          go_enter Tryd.func28, Tryd.ntmps28
          go_wp2_with fail
          refine (unhide C1 _).mono ?_
          rintro e w1 ⟨rfl, rfl⟩
          go_wp2_with fail
          refine (unhide C2 _).mono ?_
          rintro e w2 ⟨rfl, rfl⟩
          go_wp2_with fail
          refine (unhide C3 _ (unhide HA)).mono ?_
          rintro e w3 ⟨rfl, hb⟩
          replace HA := hide ((unhide HA).later hb)
          replace HB := hide (below_on (unhide HB) hb)
          clear hb
          go_wp2_with fail
          go_ret2
          exact ⟨rfl, unhide HB⟩
      · have d3 : ((n : Int) != x * y) = true := by simpa using b3
        have EB : pbB x y xs = false := by unfold pbB gP15; rw [hl, show ((n : Int) == x * y) = false from beq_eq_false_iff_ne.2 b3]; simp
        have EV : pbV x y xs = st [] := by unfold pbV; rw [EB]; rfl
        rw [EV, EB]
        clear EB EV h hl zx zy b1 b2 b3 C3 g1 g2 mb
        have HB := hide (Below.refl w.heap.size w)
        go_enter Tryd.func28, Tryd.ntmps28
        go_wp2_with fail
        refine (unhide C1 _).mono ?_
        rintro e w1 ⟨rfl, rfl⟩
        go_wp2_with fail
        refine (unhide C2 _).mono ?_
        rintro e w2 ⟨rfl, rfl⟩
        go_wp2_with fail
        go_ret2
        exact ⟨rfl, unhide HB⟩
end Go.Proofs.YtcgbpcipdanfhaaDoor
