/- Decimal texts of limbs: digitsOf, textOfBig, BigText of the program; l1Text, BigText of the specification. No condition beyond those typed. Written by mkbt16.py. -/
import Derived.Test.YtdgonpbponnnaaaGreatDoorTk16
import Derived.Test.YtdgonpbponnnaaaGreatDoorDivJ
import Derived.Test.YtdgonpbponnnaaaGreatDoorOrd
namespace Go.Proofs.YtdgonpbponnnaaaGreatDoor
open Go.RowKit
set_option linter.unusedVariables false
set_option maxRecDepth 100000
set_option linter.unusedSimpArgs false

theorem nm_len16 {qs zs : List Int} {Q V : Int} (hq : Nm qs Q) (hz : Nm zs V) (h : Q ≤ V) : qs.length ≤ zs.length := by
  by_cases c : qs.length ≤ zs.length
  · exact c
  exfalso
  have h1 := top_le hq.ok hq.tr (by omega)
  have h2 := val_lt hz.ok
  rw [hq.v] at h1
  rw [hz.v] at h2
  have hp : 65536 ^ zs.length ≤ 65536 ^ (qs.length - 1) := Nat.pow_le_pow_right (by omega) (by omega)
  have e1 : ((65536 ^ zs.length : Nat) : Int) = 65536 ^ zs.length := by simp
  have e2 : ((65536 ^ (qs.length - 1) : Nat) : Int) = 65536 ^ (qs.length - 1) := by simp
  omega
theorem nm_one16 {rs : List Int} {R : Int} (h : Nm rs R) (hR : R < 65536) : rs.getD 0 0 = R := by
  have v := h.v
  cases rs with
  | nil => simpa [val] using v
  | cons x t =>
    have o := okL_cons.1 h.ok
    have n := val_nonneg o.2
    simp only [val] at v
    simp
    omega
theorem dd_zero16 : Lib.decDigits 0 = [48] := by rw [dd_one16 (by omega)]; rfl
theorem dd_pos16 (n : Nat) : 1 ≤ (Lib.decDigits n).length := by
  by_cases h : n < 10
  · rw [dd_one16 h]; simp
  · rw [dd_more16 (by omega)]; simp
theorem below_one16 {w w1 : World} {o : Obj} (h : Below (w.alloc o).heap.size (w.alloc o) w1) : Below w.heap.size w w1 := ((Below.refl _ _).alloc (Nat.le_refl _) o).trans (h.mono (by simp))
/-- A text's size. -/
def szOf : Value → Nat
  | .string b => b.size
  | _ => 0
set_option maxHeartbeats 8000000 in
theorem digitsI (a : Option Addr) (n c : Nat) (xs : List Int) (V : Nat) (w : World) (hx : Arg w a n c xs) (hz : Nm xs (V : Int)) (h1 : n ≤ 1048576) (hV : (Lib.decDigits V).length ≤ 1000) (ht : Tab15 w) :
    Calls Tryz.prog 107 #[.slice a n c] w fun e w' => e = .returned (.string (st (Lib.decDigits V))) ∧ Below w.heap.size w w' := by
  have HV := hide hV
  have HX := hide hx
  have HZ := hide hz
  have HT := hide ht
  have HB := hide (Below.refl w.heap.size w)
  by_cases h0 : n = 0
  · have e : xs = [] := List.length_eq_zero_iff.1 (by rw [hx.len]; exact h0)
    have z := hz.nil_iff.1 e
    obtain rfl : V = 0 := by omega
    subst h0
    rw [dd_zero16]
    clear HV HX HZ HT e z hx hz ht hV h1
    go_enter Tryz.func107, Tryz.ntmps107
    go_wp2
    go_ret
    exact ⟨rfl, unhide HB⟩
  have V0 : V ≠ 0 := by
    intro e
    have := hz.nil_iff.2 (by omega)
    have := hx.len
    simp_all
  have H0 := hide (Hd16.start V0)
  have g0 : ¬ ((n : Int) = 0) := by omega
  have g1 : ((n : Int) == 0) = false := by simp; omega
  clear hx hz ht hV
  go_enter Tryz.func107, Tryz.ntmps107
  go_wp2
  go_loopw [0, 3] (fun lv sv wr => ∃ (a : Option Addr) (n c : Nat) (zs : List Int) (v : Nat) (T : List UInt8), lv = .slice a n c ∧ sv = .string (st T) ∧ n ≤ 1048576 ∧ Hid (Arg wr a n c zs) ∧ Hid (Nm zs (v : Int)) ∧ Hid (Hd16 V v T) ∧ Hid (Tab15 wr) ∧ Hid (Below w.heap.size w wr)) (fun _ sv _ => 1000 - szOf sv)
  case atStart => exact ⟨a, n, c, xs, V, [], rfl, rfl, h1, HX, HZ, H0, HT, HB⟩
  case round =>
    clear HX HZ H0 HT HB g0 g1 h0 h1 V0
    obtain ⟨a, n, c, zs, v, T, rfl, rfl, h1, HX, HZ, H0, HT, HB⟩ := hrel
    have ln := (unhide HX).len
    have nz := (unhide HZ).nil_iff
    by_cases h0 : n = 0
    · have gz : (n : Int) = 0 := by omega
      have z := nz.1 (List.length_eq_zero_iff.1 (by omega))
      obtain rfl : v = 0 := by omega
      have E : Hid (Lib.decDigits V = T) := hide (by have h := unhide H0; unfold Hd16 at h; rwa [if_pos rfl] at h)
      clear nz z ln h0
      go_wp2
      go_ret
      exact ⟨by rw [unhide E]; rfl, unhide HB⟩
    have v0 : v ≠ 0 := by
      intro e
      have := nz.2 (by omega)
      rw [this] at ln
      simp at ln
      omega
    have g0 : (0 : Int) < (n : Int) := by omega
    have CD := hide (divInt_any a n c zs 1000000000 wr (unhide HX) (unhide HZ).ok h1 (by omega) (by omega))
    rw [(unhide HZ).v] at CD
    obtain ⟨Q, hQ⟩ : ∃ Q, Q = v / 1000000000 := ⟨_, rfl⟩
    obtain ⟨G, hG⟩ : ∃ G, G = v % 1000000000 := ⟨_, rfl⟩
    rw [show (v : Int) % 1000000000 = (G : Int) by omega, show (v : Int) / 1000000000 = (Q : Int) by omega] at CD
    have G1 : G < 10 ^ (8 + 1) := by show G < 1000000000; omega
    have LD := dd_len 8 G G1
    have LP := dd_pos16 G
    have CI := hide (fun w (k : Tab15 w) => itoaI G w (by omega) k)
    have last : Hid (Q = 0 → Hd16 V 0 (Lib.decDigits G ++ T)) := hide (fun h => by
      have := (unhide H0).last v0 8 (by show v / 1000000000 = 0; omega)
      rw [hG]; exact this)
    have more : Hid (Q ≠ 0 → Hd16 V Q (List.replicate (9 - (Lib.decDigits G).length) 48 ++ Lib.decDigits G ++ T)) := hide (fun h => by
      have := (unhide H0).more 8 (by show v / 1000000000 ≠ 0; omega)
      rw [hG, hQ]; exact this)
    have QV : (Q : Int) ≤ (v : Int) := by omega
    have LT := (unhide H0).len
    have lv := unhide HV
    have HZ0 := HZ
    clear hQ hG G1 H0 v0 nz
    obtain ⟨D, hD⟩ : ∃ D, D = Lib.decDigits G := ⟨_, rfl⟩
    rw [← hD] at LD LP CI last more
    clear hD
    go_wp2_with fail
    refine (unhide CD).mono ?_
    rintro e w1 ⟨a1, n1, c1, qs, rfl, hb, _, ha, hn⟩
    have HX1 := hide ha
    have HZ1 := hide hn
    replace HB := hide (below_on (unhide HB) hb)
    replace HT := hide ((unhide HT).later hb)
    have n11 : n1 ≤ 1048576 := by have := nm_len16 hn (unhide HZ0) QV; have := ha.len; omega
    have qz := hn.nil_iff
    have ql := ha.len
    clear hb ha hn CD HX HZ HZ0 ln
    go_wp2_with fail
    refine (unhide CI _ (unhide HT)).mono ?_
    rintro e w2 ⟨rfl, hb⟩
    replace HB := hide (below_on (unhide HB) hb)
    replace HT := hide ((unhide HT).later hb)
    replace HX1 := hide ((unhide HX1).later hb)
    clear hb CI
    by_cases q0 : n1 = 0
    · have Q0 : Q = 0 := by have := qz.1 (List.length_eq_zero_iff.1 (by omega)); omega
      have gq : (n1 : Int) = 0 := by omega
      have HX0 := HX1
      rw [q0] at HX0
      subst Q0
      have H1 := hide (unhide last rfl)
      have L1 := (unhide H1).len
      have AD : st D ++ st T = st (D ++ T) := st_add D T
      have y1 : ¬ (9223372036854775807 < (st D).size + (st T).size) := by rw [st_size, st_size]; omega
      have LL : (D ++ T).length = D.length + T.length := List.length_append
      generalize D ++ T = T2 at *
      clear last more qz ql
      go_wp2
      go_roundw
      case rel => exact ⟨a1, 0, c1, qs, 0, T2, rfl, rfl, by omega, HX0, HZ1, H1, HT, HB⟩
      case measure => simp only [szOf, st_size]; omega
    · have Q0 : Q ≠ 0 := by
        intro e
        have := qz.2 (by omega)
        rw [this] at ql
        simp at ql
        omega
      have gq : (0 : Int) < (n1 : Int) := by omega
      have H1 := hide (unhide more Q0)
      have L1 := (unhide H1).len
      have CR := hide (fun w => repeatI (9 - D.length) w (by omega))
      have sd : ((st D).size : Int) = (D.length : Int) := by rw [st_size]
      have sd2 : (st D).size = D.length := st_size D
      have wd : IntKind.i64.wrap (9 - (D.length : Int)) = ((9 - D.length : Nat) : Int) := by rw [IntKind.wrap_i64]; omega
      have A1 : st (List.replicate (9 - D.length) 48) ++ st D = st (List.replicate (9 - D.length) 48 ++ D) := st_add _ _
      have A2 : st (List.replicate (9 - D.length) 48 ++ D) ++ st T = st (List.replicate (9 - D.length) 48 ++ D ++ T) := st_add _ _
      have y1 : ¬ (9223372036854775807 < (st (List.replicate (9 - D.length) 48)).size + (st D).size) := by rw [st_size, st_size, List.length_replicate]; omega
      have y2 : ¬ (9223372036854775807 < (st (List.replicate (9 - D.length) 48 ++ D)).size + (st T).size) := by rw [st_size, st_size, List.length_append, List.length_replicate]; omega
      have LL : (List.replicate (9 - D.length) (48 : UInt8) ++ D ++ T).length = 9 - D.length + D.length + T.length := by simp [Nat.add_assoc]
      generalize List.replicate (9 - D.length) (48 : UInt8) ++ D ++ T = T3 at *
      generalize List.replicate (9 - D.length) (48 : UInt8) ++ D = T2 at *
      generalize List.replicate (9 - D.length) (48 : UInt8) = T1 at *
      clear last more qz ql
      go_wp2_with fail
      refine (unhide CR _).mono ?_
      rintro e w3 ⟨rfl, hb⟩
      replace HB := hide (below_on (unhide HB) hb)
      replace HT := hide ((unhide HT).later hb)
      replace HX1 := hide ((unhide HX1).later hb)
      clear hb CR
      go_wp2
      go_roundw
      case rel => exact ⟨a1, n1, c1, qs, Q, T3, rfl, rfl, n11, HX1, HZ1, H1, HT, HB⟩
      case measure => simp only [szOf, st_size]; omega
/-- A number's text. -/
def txV (g : Bool) (V : Nat) : List UInt8 := if g = true then 45 :: Lib.decDigits V else Lib.decDigits V
set_option maxHeartbeats 4000000 in
theorem textI16 (g : Bool) (a : Option Addr) (n c : Nat) (xs : List Int) (V : Nat) (w : World) (hx : Arg w a n c xs) (hz : Nm xs (V : Int)) (h1 : n ≤ 1048576) (hV : (Lib.decDigits V).length ≤ 1000) (ht : Tab15 w) :
    Calls Tryz.prog 87 #[.agg #[.bool g, .slice a n c]] w fun e w' => e = .returned (.string (st (txV g V))) ∧ Below w.heap.size w w' := by
  have al : Below w.heap.size w (w.alloc (.cells #[.bool g, .slice a n c] 25)) := (Below.refl _ _).alloc (Nat.le_refl _) _
  have CD := hide (digitsI a n c xs V (w.alloc (.cells #[.bool g, .slice a n c] 25)) (hx.later al) hz h1 hV (ht.later al))
  have HB := hide al
  have x0 : (w.alloc (.cells #[.bool g, .slice a n c] 25)).cell? ⟨w.heap.size, 0, none⟩ = some (.bool g) := by simp [go_sem]
  have x1 : (w.alloc (.cells #[.bool g, .slice a n c] 25)).cell? ⟨w.heap.size, 1, none⟩ = some (.slice a n c) := by simp [go_sem]
  have E : Hid (txV g V = if g = true then 45 :: Lib.decDigits V else Lib.decDigits V) := hide rfl
  unfold txV
  obtain ⟨D, hD⟩ : ∃ D, D = Lib.decDigits V := ⟨_, rfl⟩
  rw [← hD] at CD hV ⊢
  clear hD E
  obtain ⟨K1, c1⟩ : ∃ K, ({ data := #[45] } : ByteArray) = K ∧ K = st [45] := ⟨_, rfl, rfl⟩
  have A1 : K1 ++ st D = st (45 :: D) := by rw [c1.2, st_add]; rfl
  have y1 : ¬ (9223372036854775807 < K1.size + (st D).size) := by rw [c1.2, st_size, st_size]; simp; omega
  have k1 := c1.1
  clear c1 hx hz hV ht h1 al
  cases g
  · rw [if_neg (by simp)]
    go_enter Tryz.func87, Tryz.ntmps87
    go_wp2_with fail
    refine (unhide CD).mono ?_
    rintro e w1 ⟨rfl, hb⟩
    replace HB := hide (below_one16 hb)
    clear hb
    go_wp2
    go_ret
    exact ⟨rfl, unhide HB⟩
  · rw [if_pos rfl]
    go_enter Tryz.func87, Tryz.ntmps87
    go_wp2_with fail
    refine (unhide CD).mono ?_
    rintro e w1 ⟨rfl, hb⟩
    replace HB := hide (below_one16 hb)
    clear hb
    go_wp2
    go_ret
    exact ⟨rfl, unhide HB⟩
set_option maxHeartbeats 8000000 in
theorem textS16 (g : Bool) (a : Option Addr) (n c : Nat) (xs : List Int) (V : Nat) (w : World) (hx : Arg w a n c xs) (hz : Nm xs (V : Int)) (h1 : n ≤ 40) (hg : xs = [] → g = false) (hV : (Lib.decDigits V).length ≤ 1000) :
    Calls Tryz.prog 88 #[.agg #[.bool g, .slice a n c]] w fun e w' => e = .returned (.string (st (txV g V))) ∧ Below w.heap.size w w' := by
  have al : Below w.heap.size w (w.alloc (.cells #[.bool g, .slice a n c] 25)) := (Below.refl _ _).alloc (Nat.le_refl _) _
  have HV := hide hV
  have HX := hide (hx.later al)
  have HZ := hide hz
  have HB := hide al
  have x0 : (w.alloc (.cells #[.bool g, .slice a n c] 25)).cell? ⟨w.heap.size, 0, none⟩ = some (.bool g) := by simp [go_sem]
  have x1 : (w.alloc (.cells #[.bool g, .slice a n c] 25)).cell? ⟨w.heap.size, 1, none⟩ = some (.slice a n c) := by simp [go_sem]
  by_cases h0 : n = 0
  · have e : xs = [] := List.length_eq_zero_iff.1 (by rw [hx.len]; exact h0)
    have z := hz.nil_iff.1 e
    obtain rfl : V = 0 := by omega
    obtain rfl := hg e
    subst h0
    have E : txV false 0 = [48] := by unfold txV; rw [if_neg (by simp), dd_zero16]
    rw [E]
    clear HV HX HZ e z hx hz hV h1 hg al E
    go_enter Tryz.func88, Tryz.ntmps88
    go_wp2
    go_ret
    exact ⟨rfl, unhide HB⟩
  have V0 : V ≠ 0 := by
    intro e
    have := hz.nil_iff.2 (by omega)
    have := hx.len
    simp_all
  have H0 := hide (Hd16.start V0)
  have g0 : ¬ ((n : Int) = 0) := by omega
  have g1 : ((n : Int) == 0) = false := by simp; omega
  have n40 : n ≤ 900000 := by omega
  clear hx hz hV al h1 hg V0 h0
  go_enter Tryz.func88, Tryz.ntmps88
  go_wp2
  have X0 := hide x0
  clear x0 x1
  go_loopw [3, 4] (fun sv lv wr => ∃ (a : Option Addr) (n c : Nat) (zs : List Int) (v : Nat) (T : List UInt8), lv = .slice a n c ∧ sv = .string (st T) ∧ n ≤ 900000 ∧ Hid (Arg wr a n c zs) ∧ Hid (Nm zs (v : Int)) ∧ Hid (Hd16 V v T) ∧ Hid (wr.cell? ⟨w.heap.size, 0, none⟩ = some (.bool g)) ∧ Hid (Below w.heap.size w wr)) (fun sv _ _ => 1000 - szOf sv)
  case atStart => exact ⟨a, n, c, xs, V, [], rfl, rfl, n40, HX, HZ, H0, X0, HB⟩
  case round =>
    clear HX HZ H0 X0 HB g0 g1 n40
    obtain ⟨a, n, c, zs, v, T, rfl, rfl, h1, HX, HZ, H0, X0, HB⟩ := hrel
    have ln := (unhide HX).len
    have nz := (unhide HZ).nil_iff
    by_cases h0 : n = 0
    · have gz : (n : Int) = 0 := by omega
      have z := nz.1 (List.length_eq_zero_iff.1 (by omega))
      obtain rfl : v = 0 := by omega
      have E : Hid (Lib.decDigits V = T) := hide (by have h := unhide H0; unfold Hd16 at h; rwa [if_pos rfl] at h)
      have x0 := unhide X0
      obtain ⟨K1, c1⟩ : ∃ K, ({ data := #[45] } : ByteArray) = K ∧ K = st [45] := ⟨_, rfl, rfl⟩
      have A1 : K1 ++ st T = st (45 :: T) := by rw [c1.2, st_add]; rfl
      have y1 : ¬ (9223372036854775807 < K1.size + (st T).size) := by rw [c1.2, st_size, st_size]; have h := (unhide H0).len; have h2 := unhide HV; simp; omega
      have k1 := c1.1
      have ET : Hid (txV g V = if g = true then 45 :: T else T) := hide (by unfold txV; rw [unhide E])
      clear nz z ln h0 c1 E
      cases g
      · go_wp2
        go_ret
        exact ⟨by rw [unhide ET, if_neg (by simp)]; rfl, unhide HB⟩
      · go_wp2
        go_ret
        exact ⟨by rw [unhide ET]; simp only [if_true]; rfl, unhide HB⟩
    have v0 : v ≠ 0 := by
      intro e
      have := nz.2 (by omega)
      rw [this] at ln
      simp at ln
      omega
    have g0 : (0 : Int) < (n : Int) := by omega
    have al : Below wr.heap.size wr (wr.alloc (.cells #[.int .i64 10] 3)) := (Below.refl _ _).alloc (Nat.le_refl _) _
    have CD := hide (divS_any a (some ⟨wr.heap.size, 0, none⟩) n 1 c 1 zs [10] (wr.alloc (.cells #[.int .i64 10] 3)) ((unhide HX).later al) (one_arg wr 10).1 (unhide HZ).ok (unhide HZ).tr (okL_one (by omega) (by omega)) rfl (by omega) h1 (by omega))
    rw [(unhide HZ).v, show val [10] = 10 by simp [val]] at CD
    obtain ⟨Q, hQ⟩ : ∃ Q, Q = v / 10 := ⟨_, rfl⟩
    obtain ⟨G, hG⟩ : ∃ G, G = v % 10 := ⟨_, rfl⟩
    rw [show (v : Int) % 10 = (G : Int) by omega, show (v : Int) / 10 = (Q : Int) by omega] at CD
    have G1 : G < 10 ^ (0 + 1) := by show G < 10; omega
    have g65 : Hid (G ≤ 9) := hide (by have : G < 10 := G1; omega)
    have LD := hide (dd_len 0 G G1)
    have LP := hide (dd_pos16 G)
    have CI := hide (fun w => numS 0 G G1 (by omega) w)
    have H1 : Hid (Hd16 V Q (Lib.decDigits G ++ T)) := hide (by
      by_cases q : v / 10 = 0
      · have := (unhide H0).last v0 0 (by simpa using q)
        rw [hQ, q, hG]; simpa using this
      · have := (unhide H0).more 0 (by simpa using q)
        have e : 0 + 1 - (Lib.decDigits (v % 10 ^ (0 + 1))).length = 0 := by have := dd_pos16 (v % 10 ^ (0 + 1)); omega
        rw [e] at this
        rw [hQ, hG]; simpa using this)
    have QV : Hid ((Q : Int) ≤ (v : Int)) := hide (by omega)
    have LT := hide (unhide H0).len
    have HZ0 := HZ
    have HBA := hide (below_on (unhide HB) al)
    have XA := hide (cell_later al (unhide X0))
    clear hQ hG G1 H0 v0 nz al HB X0
    obtain ⟨D, hD⟩ : ∃ D, D = Lib.decDigits G := ⟨_, rfl⟩
    rw [← hD] at LD LP CI H1
    clear hD
    go_wp2_with fail
    refine (unhide CD).mono ?_
    rintro e w1 ⟨a1, n1, c1, qs, a2, n2, c2, rs, rfl, hb, _, ha, hn, _, ha2, hn2, _⟩
    have HX1 := hide ha
    have HZ1 := hide hn
    have HB := hide (below_on (unhide HBA) hb)
    have X0 := hide (cell_later hb (unhide XA))
    have n11 : n1 ≤ 900000 := by have := nm_len16 hn (unhide HZ0) (unhide QV); have := ha.len; omega
    have CL := hide (limb_any a2 n2 c2 rs 0 w1 ha2.sl ha2.len)
    rw [nm_one16 hn2 (by have := unhide g65; omega)] at CL
    clear hb ha hn CD HX HZ HZ0 ln HBA XA ha2 hn2
    go_wp2_with fail
    refine (unhide CL).mono ?_
    rintro e w2 ⟨rfl, rfl⟩
    go_wp2_with fail
    refine (unhide CI _).mono ?_
    rintro e w3 ⟨rfl, hb⟩
    replace HB := hide (below_on (unhide HB) hb)
    replace X0 := hide (cell_later hb (unhide X0))
    replace HX1 := hide ((unhide HX1).later hb)
    have L1 := (unhide H1).len
    have lv := unhide HV
    have lt := unhide LT
    have ld := unhide LD
    have lp := unhide LP
    have AD : st D ++ st T = st (D ++ T) := st_add D T
    have y1 : ¬ (9223372036854775807 < (st D).size + (st T).size) := by rw [st_size, st_size]; omega
    have LL : (D ++ T).length = D.length + T.length := List.length_append
    generalize D ++ T = T2 at *
    have L2 : T.length < T2.length ∧ T2.length ≤ 1000 := by omega
    have HL2 := hide L2
    clear hb CI CL lv lt ld lp L1 LL L2
    go_wp2
    go_roundw
    case rel => exact ⟨a1, n1, c1, qs, Q, T2, rfl, rfl, n11, HX1, HZ1, H1, X0, HB⟩
    case measure => have := unhide HL2; simp only [szOf, st_size]; omega
/-- What BigText tells. -/
def btV (g : Bool) (xs : List Int) : ByteArray := if goodB g xs = true then st (txV g (val xs).toNat) else st []
theorem nm_of16 {xs : List Int} (h : okL xs) (t : trim xs = xs) : Nm xs (((val xs).toNat : Nat) : Int) := ⟨h, t, by have := val_nonneg h; omega⟩
theorem dd_big16 {xs : List Int} (h : okL xs) (l : xs.length ≤ 40) : (Lib.decDigits (val xs).toNat).length ≤ 1000 := by
  have h1 := val_lt h
  have h2 : 65536 ^ xs.length ≤ 65536 ^ 40 := Nat.pow_le_pow_right (by omega) l
  have e : ((65536 ^ xs.length : Nat) : Int) = 65536 ^ xs.length := by simp
  have h3 : (val xs).toNat < 65536 ^ 40 := by omega
  have h4 : 65536 ^ 40 < 10 ^ (199 + 1) := by decide
  have := dd_len 199 (val xs).toNat (Nat.lt_trans h3 h4)
  omega
end Go.Proofs.YtdgonpbponnnaaaGreatDoor
