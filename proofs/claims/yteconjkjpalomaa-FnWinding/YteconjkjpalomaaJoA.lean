/- Ways with corners in fractions: how often they go round a point; triangles; outermost corners: plain mathematics. No condition beyond those typed. -/
import Derived.Test.YteconjkjpalomaaAid
namespace Go.Proofs.Yteconjkjpalomaa.Jor
set_option linter.unusedVariables false
set_option maxRecDepth 100000
set_option linter.unusedSimpArgs false

abbrev Q2 := Rat × Rat
/-- Twice the area of three points. -/
def jc (a b c : Q2) : Rat := (b.1 - a.1) * (c.2 - a.2) - (b.2 - a.2) * (c.1 - a.1)
def lerp (a b : Q2) (t : Rat) : Q2 := (a.1 + t * (b.1 - a.1), a.2 + t * (b.2 - a.2))
/-- A point on a segment. -/
def OnJ (a b x : Q2) : Prop := ∃ t : Rat, 0 ≤ t ∧ t ≤ 1 ∧ x = lerp a b t
/-- Two segments have a point in common. -/
def MeetJ (a b c d : Q2) : Prop := ∃ x, OnJ a b x ∧ OnJ c d x
/-- How a segment goes round a point. -/
def wT (u v q : Q2) : Int := (if u.2 ≤ q.2 ∧ q.2 < v.2 ∧ 0 < jc u v q then 1 else 0) - (if v.2 ≤ q.2 ∧ q.2 < u.2 ∧ jc u v q < 0 then 1 else 0)
theorem mpos {x y : Rat} (h : 0 < x) (k : 0 < y) : 0 < x * y := Rat.mul_pos h k
theorem mnn {x y : Rat} (h : 0 ≤ x) (k : 0 ≤ y) : 0 ≤ x * y := Rat.mul_nonneg h k
theorem mnp {x y : Rat} (h : 0 ≤ x) (k : y ≤ 0) : x * y ≤ 0 := by have := mnn h (show 0 ≤ -y by grind); grind
theorem mpn {x y : Rat} (h : 0 < x) (k : y < 0) : x * y < 0 := by have := mpos h (show 0 < -y by grind); grind
/-- Where a product's sign tells a factor's. -/
theorem pos_of {x y : Rat} (h : 0 < x) (k : 0 < x * y) : 0 < y := by
  rcases (Rat.le_total : y ≤ 0 ∨ 0 ≤ y) with g | g
  · have := mnp (x := x) (by grind) g; grind
  · rcases Rat.le_iff_lt_or_eq.1 g with g | g
    · exact g
    · rw [← g] at k; grind
theorem nn_of {x y : Rat} (h : 0 < x) (k : 0 ≤ x * y) : 0 ≤ y := by
  rcases (Rat.le_total : 0 ≤ y ∨ y ≤ 0) with g | g
  · exact g
  · rcases Rat.le_iff_lt_or_eq.1 g with g | g
    · have := mpn h g; grind
    · grind
theorem np_of {x y : Rat} (h : 0 < x) (k : x * y ≤ 0) : y ≤ 0 := by
  have := nn_of (x := x) (y := -y) h (by grind); grind
theorem neg_of {x y : Rat} (h : 0 < x) (k : x * y < 0) : y < 0 := by
  have := pos_of (x := x) (y := -y) h (by grind); grind
theorem jc_back (a b c : Q2) : jc b a c = -jc a b c := by unfold jc; grind
theorem jc_rot (a b c : Q2) : jc b c a = jc a b c := by unfold jc; grind
theorem jc_lerp (a b u v : Q2) (t : Rat) : jc a b (lerp u v t) = (1 - t) * jc a b u + t * jc a b v := by unfold jc lerp; grind
theorem div_01 {x y : Rat} (h : 0 ≤ x) (k : x ≤ y) (p : 0 < y) : 0 ≤ x / y ∧ x / y ≤ 1 := by
  have i := Rat.inv_pos.2 p
  have e : y * y⁻¹ = 1 := Rat.mul_inv_cancel _ (by grind)
  rw [Rat.div_def]
  have a := mnn h (show 0 ≤ y⁻¹ by grind)
  have b := mnn (show 0 ≤ y - x by grind) (show 0 ≤ y⁻¹ by grind)
  grind
theorem meet_pos {u v q r : Q2} (h1 : 0 ≤ jc q r u) (h2 : jc q r v ≤ 0) (h3 : jc u v q ≤ 0) (h4 : 0 ≤ jc u v r) (h5 : 0 < jc q r u - jc q r v) : MeetJ u v q r := by
  have e : jc u v r - jc u v q = jc q r u - jc q r v := by unfold jc; grind
  have d1 := div_01 h1 (show jc q r u ≤ jc q r u - jc q r v by grind) h5
  have d2 := div_01 (show 0 ≤ -jc u v q by grind) (show -jc u v q ≤ jc q r u - jc q r v by grind) h5
  have i : (jc q r u - jc q r v) * (jc q r u - jc q r v)⁻¹ = 1 := Rat.mul_inv_cancel _ (by grind)
  refine ⟨lerp u v (jc q r u / (jc q r u - jc q r v)), ⟨_, d1.1, d1.2, rfl⟩, ⟨_, d2.1, d2.2, ?_⟩⟩
  rw [Rat.div_def, Rat.div_def]
  generalize hI : (jc q r u - jc q r v)⁻¹ = I at *
  unfold lerp
  unfold jc at *
  apply Prod.ext <;> simp only <;> grind
theorem meet_swap {u v q r : Q2} (h : MeetJ v u q r) : MeetJ u v q r := by
  obtain ⟨x, ⟨t, t0, t1, e⟩, h2⟩ := h
  exact ⟨x, ⟨1 - t, by grind, by grind, by rw [e]; unfold lerp; apply Prod.ext <;> simp only <;> grind⟩, h2⟩
theorem meet_neg {u v q r : Q2} (h1 : jc q r u ≤ 0) (h2 : 0 ≤ jc q r v) (h3 : 0 ≤ jc u v q) (h4 : jc u v r ≤ 0) (h5 : jc q r u - jc q r v < 0) : MeetJ u v q r :=
  meet_swap (meet_pos h2 h1 (by rw [jc_back]; grind) (by rw [jc_back]; grind) (by grind))
theorem wT_back (u v q : Q2) : wT u v q + wT v u q = 0 := by
  unfold wT
  rw [jc_back u v q]
  grind
theorem hi1 (u v q r : Q2) : (v.2 - q.2) * jc q r u + (q.2 - u.2) * jc q r v = -((r.2 - q.2) * jc u v q) := by unfold jc; grind
theorem hi2 (u v q r : Q2) : (v.2 - r.2) * jc q r u + (r.2 - u.2) * jc q r v = -((r.2 - q.2) * jc u v r) := by unfold jc; grind
theorem hi3 (u v q r : Q2) : jc u v q - jc u v r = jc q r v - jc q r u := by unfold jc; grind
/-- Right of the segment from q up to r. -/
def phi (q r u : Q2) : Int := if q.2 < u.2 ∧ u.2 ≤ r.2 ∧ jc q r u < 0 then 1 else 0
theorem edge_up {u v q r : Q2} (hq : q.2 ≤ r.2) (hu : u.2 ≤ v.2) (h : ¬ MeetJ u v q r) : wT u v q - wT u v r = phi q r v - phi q r u := by
  have n1 : ¬ (0 ≤ jc q r u ∧ jc q r v ≤ 0 ∧ jc u v q ≤ 0 ∧ 0 ≤ jc u v r ∧ 0 < jc q r u - jc q r v) := fun ⟨a, b, c, d, e⟩ => h (meet_pos a b c d e)
  have n2 : ¬ (jc q r u ≤ 0 ∧ 0 ≤ jc q r v ∧ 0 ≤ jc u v q ∧ jc u v r ≤ 0 ∧ jc q r u - jc q r v < 0) := fun ⟨a, b, c, d, e⟩ => h (meet_neg a b c d e)
  have e1 := hi1 u v q r
  have e2 := hi2 u v q r
  have e3 := hi3 u v q r
  have z : q.2 = r.2 → jc q r u = (r.1 - q.1) * (u.2 - q.2) ∧ jc q r v = (r.1 - q.1) * (v.2 - q.2) := by intro e; unfold jc; grind
  unfold wT phi
  generalize jc q r u = α at *
  generalize jc q r v = β at *
  generalize jc u v q = γ at *
  generalize jc u v r = δ at *
  generalize r.1 - q.1 = X at *
  generalize q.2 = y at *
  generalize r.2 = s at *
  generalize u.2 = a at *
  generalize v.2 = b at *
  clear h
  by_cases c1 : a ≤ y
  · by_cases c2 : b ≤ y
    · grind
    · by_cases c3 : b ≤ s
      · -- below, mid
        have hs : 0 < s - y := by grind
        have k : (0 < γ) ↔ (β < 0) := by
          constructor
          · intro g
            have p := mpos hs g
            false_or_by_contra
            rename_i hb
            have q1 := mnn (show 0 ≤ y - a by grind) (show 0 ≤ β by grind)
            have ha : α < 0 := neg_of (x := b - y) (by grind) (by grind)
            have q2 := mnn (show 0 ≤ s - b by grind) (show 0 ≤ -α by grind)
            have q3 := mnn (show 0 ≤ s - a by grind) (show 0 ≤ β by grind)
            have hd : δ ≤ 0 := np_of hs (by grind)
            exact n2 ⟨by grind, by grind, by grind, by grind, by grind⟩
          · intro g
            false_or_by_contra
            rename_i hg
            have p := mnn (show 0 ≤ s - y by grind) (show 0 ≤ -γ by grind)
            have q1 := mnn (show 0 ≤ y - a by grind) (show 0 ≤ -β by grind)
            have ha : 0 ≤ α := nn_of (x := b - y) (by grind) (by grind)
            have q2 := mnn (show 0 ≤ s - b by grind) ha
            have q3 := mpos (show 0 < s - a by grind) (show 0 < -β by grind)
            have hd : 0 < δ := pos_of hs (by grind)
            exact n1 ⟨by grind, by grind, by grind, by grind, by grind⟩
        clear n1 n2 e1 e2 e3 z
        grind
      · -- below, above
        have k : (0 < γ) ↔ (0 < δ) := by
          have key : α - β ≠ 0 → (0 < γ ↔ 0 < δ) := by
            intro hne
            by_cases hys : y = s
            · obtain ⟨z1, z2⟩ := z hys
              constructor
              · intro g
                false_or_by_contra
                rename_i hd
                have : 0 < X * (b - a) := by grind
                have hx : 0 < X := pos_of (x := b - a) (by grind) (by grind)
                have := mnn (show 0 ≤ X by grind) (show 0 ≤ y - a by grind)
                have := mnn (show 0 ≤ X by grind) (show 0 ≤ b - y by grind)
                exact n2 ⟨by grind, by grind, by grind, by grind, by grind⟩
              · intro g
                false_or_by_contra
                rename_i hd
                have : X * (b - a) < 0 := by grind
                have hx : X < 0 := neg_of (x := b - a) (by grind) (by grind)
                have := mnn (show 0 ≤ -X by grind) (show 0 ≤ y - a by grind)
                have := mnn (show 0 ≤ -X by grind) (show 0 ≤ b - y by grind)
                exact n1 ⟨by grind, by grind, by grind, by grind, by grind⟩
            · have hs : 0 < s - y := by grind
              constructor
              · intro g
                false_or_by_contra
                rename_i hd
                have p1 := mpos hs g
                have p2 := mnn (show 0 ≤ s - y by grind) (show 0 ≤ -δ by grind)
                have ha : α ≤ 0 := by
                  false_or_by_contra
                  have := mpos (show 0 < b - y by grind) (show 0 < α by grind)
                  have := mnn (show 0 ≤ y - a by grind) (show 0 ≤ β by grind)
                  grind
                have hb : 0 ≤ β := by
                  false_or_by_contra
                  have := mpos (show 0 < b - s by grind) (show 0 < -α by grind)
                  have := mnn (show 0 ≤ s - a by grind) (show 0 ≤ -β by grind)
                  grind
                exact n2 ⟨by grind, by grind, by grind, by grind, by grind⟩
              · intro g
                false_or_by_contra
                rename_i hd
                have p1 := mpos hs g
                have p2 := mnn (show 0 ≤ s - y by grind) (show 0 ≤ -γ by grind)
                have ha : 0 ≤ α := by
                  false_or_by_contra
                  have := mpos (show 0 < b - y by grind) (show 0 < -α by grind)
                  have := mnn (show 0 ≤ y - a by grind) (show 0 ≤ -β by grind)
                  grind
                have hb : β ≤ 0 := by
                  false_or_by_contra
                  have := mpos (show 0 < b - s by grind) (show 0 < α by grind)
                  have := mnn (show 0 ≤ s - a by grind) (show 0 ≤ β by grind)
                  grind
                exact n1 ⟨by grind, by grind, by grind, by grind, by grind⟩
          by_cases hne : α - β = 0
          · have : γ = δ := by grind
            rw [this]
          · exact key hne
        clear n1 n2 e1 e2 e3 z
        grind
  · by_cases c2 : a ≤ s
    · have hs : 0 < s - y := by grind
      by_cases c3 : b ≤ s
      · -- mid, mid
        have k : (α < 0) ↔ (β < 0) := by
          constructor
          · intro g
            false_or_by_contra
            rename_i hb
            have q1 := mpos (show 0 < b - y by grind) (show 0 < -α by grind)
            have q2 := mnn (show 0 ≤ a - y by grind) (show 0 ≤ β by grind)
            have hg : 0 < γ := pos_of hs (by grind)
            have q3 := mnn (show 0 ≤ s - b by grind) (show 0 ≤ -α by grind)
            have q4 := mnn (show 0 ≤ s - a by grind) (show 0 ≤ β by grind)
            have hd : δ ≤ 0 := np_of hs (by grind)
            exact n2 ⟨by grind, by grind, by grind, by grind, by grind⟩
          · intro g
            false_or_by_contra
            rename_i hb
            have q1 := mnn (show 0 ≤ b - y by grind) (show 0 ≤ α by grind)
            have q2 := mpos (show 0 < a - y by grind) (show 0 < -β by grind)
            have hg : γ < 0 := neg_of hs (by grind)
            have q3 := mnn (show 0 ≤ s - b by grind) (show 0 ≤ α by grind)
            have q4 := mnn (show 0 ≤ s - a by grind) (show 0 ≤ -β by grind)
            have hd : 0 ≤ δ := nn_of hs (by grind)
            exact n1 ⟨by grind, by grind, by grind, by grind, by grind⟩
        clear n1 n2 e1 e2 e3 z
        grind
      · -- mid, above
        have k : (0 < δ) ↔ (α < 0) := by
          constructor
          · intro g
            false_or_by_contra
            rename_i ha
            have p := mpos hs g
            have q1 := mnn (show 0 ≤ b - s by grind) (show 0 ≤ α by grind)
            have hb : β < 0 := by
              false_or_by_contra
              have := mnn (show 0 ≤ s - a by grind) (show 0 ≤ β by grind)
              grind
            have q2 := mnn (show 0 ≤ b - y by grind) (show 0 ≤ α by grind)
            have q3 := mpos (show 0 < a - y by grind) (show 0 < -β by grind)
            have hg : γ < 0 := neg_of hs (by grind)
            exact n1 ⟨by grind, by grind, by grind, by grind, by grind⟩
          · intro g
            false_or_by_contra
            rename_i ha
            have p := mnn (show 0 ≤ s - y by grind) (show 0 ≤ -δ by grind)
            have q1 := mpos (show 0 < b - s by grind) (show 0 < -α by grind)
            have hb : 0 < β := by
              false_or_by_contra
              have := mnn (show 0 ≤ s - a by grind) (show 0 ≤ -β by grind)
              grind
            have q2 := mpos (show 0 < b - y by grind) (show 0 < -α by grind)
            have q3 := mpos (show 0 < a - y by grind) hb
            have hg : 0 < γ := pos_of hs (by grind)
            exact n2 ⟨by grind, by grind, by grind, by grind, by grind⟩
        clear n1 n2 e1 e2 e3 z
        grind
    · grind
theorem edge_any {u v q r : Q2} (hq : q.2 ≤ r.2) (h : ¬ MeetJ u v q r) : wT u v q - wT u v r = phi q r v - phi q r u := by
  rcases (Rat.le_total : u.2 ≤ v.2 ∨ v.2 ≤ u.2) with k | k
  · exact edge_up hq k h
  · have := edge_up (u := v) (v := u) hq k (fun m => h (meet_swap m))
    have := wT_back u v q
    have := wT_back u v r
    omega
/-- The segments along a list. -/
def pe : Q2 → List Q2 → List (Q2 × Q2)
  | _, [] => []
  | a, b :: l => (a, b) :: pe b l
/-- The segments of a way round. -/
def eds : List Q2 → List (Q2 × Q2)
  | [] => []
  | a :: l => pe a (l ++ [a])
def wsum (q : Q2) (l : List (Q2 × Q2)) : Int := (l.map (fun e => wT e.1 e.2 q)).sum
/-- How often a way goes round a point. -/
def wn (P : List Q2) (q : Q2) : Int := wsum q (eds P)
theorem pe_app (a : Q2) (l : List Q2) (b : Q2) (m : List Q2) : pe a (l ++ b :: m) = pe a (l ++ [b]) ++ pe b m := by
  induction l generalizing a with
  | nil => rfl
  | cons c l ih => simp only [List.cons_append, pe, ih]
theorem pe_mem {a : Q2} {l : List Q2} {e : Q2 × Q2} (h : e ∈ pe a l) : e.1 ∈ a :: l ∧ e.2 ∈ l := by
  induction l generalizing a with
  | nil => simp [pe] at h
  | cons b l ih =>
    simp only [pe, List.mem_cons] at h
    rcases h with rfl | h
    · simp
    · have := ih h
      exact ⟨List.mem_cons_of_mem _ this.1, List.mem_cons_of_mem _ this.2⟩
theorem ed_mem {P : List Q2} {e : Q2 × Q2} (h : e ∈ eds P) : e.1 ∈ P ∧ e.2 ∈ P := by
  cases P with
  | nil => simp [eds] at h
  | cons a l =>
    have := pe_mem h
    simp only [List.mem_cons, List.mem_append] at this ⊢
    grind
theorem wsum_app (q : Q2) (l m : List (Q2 × Q2)) : wsum q (l ++ m) = wsum q l + wsum q m := by simp [wsum]
theorem wsum_cons (q : Q2) (e : Q2 × Q2) (l : List (Q2 × Q2)) : wsum q (e :: l) = wT e.1 e.2 q + wsum q l := by simp [wsum]
theorem wsum_nil (q : Q2) : wsum q [] = 0 := rfl
theorem tele (f : Q2 → Int) (q r : Q2) : ∀ (a : Q2) (l : List Q2) (b : Q2), (∀ e ∈ pe a (l ++ [b]), wT e.1 e.2 q - wT e.1 e.2 r = f e.2 - f e.1) → wsum q (pe a (l ++ [b])) - wsum r (pe a (l ++ [b])) = f b - f a
  | a, [], b, h => by
    have := h (a, b) (by simp [pe])
    simp only [List.nil_append, pe, wsum_cons, wsum_nil] at this ⊢
    omega
  | a, c :: l, b, h => by
    have h0 := h (a, c) (by simp [pe])
    have ih := tele f q r c l b (fun e he => h e (by simp only [List.cons_append, pe, List.mem_cons]; exact .inr he))
    simp only [List.cons_append, pe, wsum_cons] at h0 ih ⊢
    omega
/-- Where no segment is met, the number stays. -/
theorem wn_const {P : List Q2} {q r : Q2} (h : ∀ e ∈ eds P, ¬ MeetJ e.1 e.2 q r) : wn P q = wn P r := by
  cases P with
  | nil => rfl
  | cons a l =>
    show wsum q (pe a (l ++ [a])) = wsum r (pe a (l ++ [a]))
    rcases (Rat.le_total : q.2 ≤ r.2 ∨ r.2 ≤ q.2) with k | k
    · have := tele (phi q r) q r a l a (fun e he => edge_any k (h e he))
      omega
    · have := tele (phi r q) r q a l a (fun e he => edge_any k (fun ⟨x, m1, t, t0, t1, m2⟩ => h e he ⟨x, m1, 1 - t, by grind, by grind, by rw [m2]; unfold lerp; apply Prod.ext <;> simp only <;> grind⟩))
      omega
def fl (α β : Rat) (p : Q2) : Rat := α * p.1 + β * p.2
theorem sep_edge {α β : Rat} {u v q : Q2} (hu : fl α β q < fl α β u) (hv : fl α β q < fl α β v) : wT u v q = if 0 < α then (if q.2 < v.2 then 1 else 0) - (if q.2 < u.2 then 1 else 0) else 0 := by
  have e : (q.2 - u.2) * (fl α β v - fl α β q) + (v.2 - q.2) * (fl α β u - fl α β q) = α * jc u v q := by unfold fl jc; grind
  unfold wT
  by_cases c1 : u.2 ≤ q.2
  · by_cases c2 : q.2 < v.2
    · have p1 := mnn (show 0 ≤ q.2 - u.2 by grind) (show 0 ≤ fl α β v - fl α β q by grind)
      have p2 := mpos (show 0 < v.2 - q.2 by grind) (show 0 < fl α β u - fl α β q by grind)
      have hp : 0 < α * jc u v q := by grind
      have k : 0 < α ↔ 0 < jc u v q := ⟨fun h => pos_of h hp, fun h => pos_of h (by grind)⟩
      grind
    · grind
  · by_cases c2 : v.2 ≤ q.2
    · have p1 := mpos (show 0 < u.2 - q.2 by grind) (show 0 < fl α β v - fl α β q by grind)
      have p2 := mnn (show 0 ≤ q.2 - v.2 by grind) (show 0 ≤ fl α β u - fl α β q by grind)
      have hp : α * jc u v q < 0 := by grind
      have k : 0 < α ↔ jc u v q < 0 := ⟨fun h => neg_of h hp, fun h => pos_of (x := -jc u v q) (by grind) (by grind)⟩
      grind
    · grind
theorem tele0 (f : Q2 → Int) (q : Q2) : ∀ (a : Q2) (l : List Q2) (b : Q2), (∀ e ∈ pe a (l ++ [b]), wT e.1 e.2 q = f e.2 - f e.1) → wsum q (pe a (l ++ [b])) = f b - f a
  | a, [], b, h => by
    have := h (a, b) (by simp [pe])
    simp only [List.nil_append, pe, wsum_cons, wsum_nil] at this ⊢
    omega
  | a, c :: l, b, h => by
    have h0 := h (a, c) (by simp [pe])
    have ih := tele0 f q c l b (fun e he => h e (by simp only [List.cons_append, pe, List.mem_cons]; exact .inr he))
    simp only [List.cons_append, pe, wsum_cons] at h0 ih ⊢
    omega
/-- A way doesn't go round a point that lies apart from it. -/
theorem wn_sep {α β : Rat} {P : List Q2} {q : Q2} (h : ∀ p ∈ P, fl α β q < fl α β p) : wn P q = 0 := by
  cases P with
  | nil => rfl
  | cons a l =>
    have := tele0 (fun p => if 0 < α then (if q.2 < p.2 then 1 else 0) else 0) q a l a (fun e he => by
      have m := ed_mem (P := a :: l) he
      have := sep_edge (h _ m.1) (h _ m.2)
      rw [this]
      by_cases c : 0 < α <;> simp [c])
    have e : wn (a :: l) q = wsum q (pe a (l ++ [a])) := rfl
    rw [e, this]
    omega
theorem wn_tri (a b c q : Q2) : wn [a, b, c] q = wT a b q + wT b c q + wT c a q := by
  simp [wn, eds, pe, wsum]
  omega
theorem jc_three (a b c q : Q2) : jc a b q + jc b c q + jc c a q = jc a b c := by unfold jc; grind
theorem jc_y (a b c q : Q2) : jc b c q * (a.2 - q.2) + jc c a q * (b.2 - q.2) + jc a b q * (c.2 - q.2) = 0 := by unfold jc; grind
/-- Once round what is within a triangle. -/
theorem tri_in {a b c q : Q2} (h1 : 0 < jc a b q) (h2 : 0 < jc b c q) (h3 : 0 < jc c a q) : wn [a, b, c] q = 1 := by
  rw [wn_tri]
  have e := jc_y a b c q
  have hs := jc_three a b c q
  have n1 : ¬ (q.2 < a.2 ∧ q.2 < b.2 ∧ q.2 < c.2) := fun ⟨x, y, z⟩ => by
    have := mpos h2 (show 0 < a.2 - q.2 by grind)
    have := mpos h3 (show 0 < b.2 - q.2 by grind)
    have := mpos h1 (show 0 < c.2 - q.2 by grind)
    grind
  have n2 : ¬ (a.2 ≤ q.2 ∧ b.2 ≤ q.2 ∧ c.2 ≤ q.2) := fun ⟨x, y, z⟩ => by
    have m1 := mnn (Rat.le_of_lt h2) (show 0 ≤ q.2 - a.2 by grind)
    have m2 := mnn (Rat.le_of_lt h3) (show 0 ≤ q.2 - b.2 by grind)
    have m3 := mnn (Rat.le_of_lt h1) (show 0 ≤ q.2 - c.2 by grind)
    have z1 : q.2 - a.2 = 0 := by
      have := np_of h2 (show jc b c q * (q.2 - a.2) ≤ 0 by grind)
      grind
    have z2 : q.2 - b.2 = 0 := by
      have := np_of h3 (show jc c a q * (q.2 - b.2) ≤ 0 by grind)
      grind
    have : jc a b q = 0 := by unfold jc; grind
    grind
  unfold wT
  grind
theorem tri_off1 {a b c q : Q2} (h : 0 < jc a b c) (h1 : jc a b q < 0) : wn [a, b, c] q = 0 := by
  have e : ∀ p, fl (-(b.2 - a.2)) (b.1 - a.1) p - fl (-(b.2 - a.2)) (b.1 - a.1) q = jc a b p - jc a b q := fun p => by unfold fl jc; grind
  apply wn_sep (α := -(b.2 - a.2)) (β := b.1 - a.1)
  intro p hp
  have hz : jc a b a = 0 := by unfold jc; grind
  have hz2 : jc a b b = 0 := by unfold jc; grind
  have := e p
  simp only [List.mem_cons, List.not_mem_nil, or_false] at hp
  rcases hp with rfl | rfl | rfl <;> grind
theorem wn_tri_rot (a b c q : Q2) : wn [b, c, a] q = wn [a, b, c] q := by rw [wn_tri, wn_tri]; omega
theorem tri_out {a b c q : Q2} (h : 0 < jc a b c) (h1 : jc a b q < 0 ∨ jc b c q < 0 ∨ jc c a q < 0) : wn [a, b, c] q = 0 := by
  rcases h1 with k | k | k
  · exact tri_off1 h k
  · rw [← wn_tri_rot]; exact tri_off1 (by rw [jc_rot]; exact h) k
  · rw [← wn_tri_rot, ← wn_tri_rot]; exact tri_off1 (by rw [jc_rot, jc_rot]; exact h) k
/-- The same way, begun elsewhere. -/
structure Same (P P' : List Q2) : Prop where
  mem : ∀ p, p ∈ P' ↔ p ∈ P
  ed : ∀ e, e ∈ eds P' ↔ e ∈ eds P
  wn : ∀ q, wn P' q = wn P q
  len : P'.length = P.length
  nd : P'.Nodup ↔ P.Nodup
theorem eds_rot (a : Q2) (s : List Q2) (b : Q2) (t : List Q2) : eds (a :: (s ++ b :: t)) = pe a (s ++ [b]) ++ pe b (t ++ [a]) ∧ eds (b :: (t ++ a :: s)) = pe b (t ++ [a]) ++ pe a (s ++ [b]) := by
  constructor
  · show pe a ((s ++ b :: t) ++ [a]) = _
    rw [List.append_assoc, List.cons_append, pe_app]
  · show pe b ((t ++ a :: s) ++ [b]) = _
    rw [List.append_assoc, List.cons_append, pe_app]
theorem rot_to {P : List Q2} {b : Q2} (h : b ∈ P) : ∃ l, Same P (b :: l) := by
  obtain ⟨s, t, rfl⟩ := List.append_of_mem h
  cases s with
  | nil => exact ⟨t, ⟨fun _ => Iff.rfl, fun _ => Iff.rfl, fun _ => rfl, rfl, Iff.rfl⟩⟩
  | cons a s =>
    refine ⟨t ++ a :: s, ?_, ?_, ?_, ?_, ?_⟩
    · intro p
      simp only [List.mem_cons, List.mem_append, List.cons_append]
      grind
    · intro e
      rw [(eds_rot a s b t).2, List.cons_append, (eds_rot a s b t).1, List.mem_append, List.mem_append]
      exact Or.comm
    · intro q
      unfold wn
      rw [(eds_rot a s b t).2, List.cons_append, (eds_rot a s b t).1, wsum_app, wsum_app]
      omega
    · simp only [List.length_cons, List.length_append]
      omega
    · have : (b :: (t ++ a :: s)).Perm (a :: s ++ b :: t) := by
        have := List.perm_append_comm (l₁ := b :: t) (l₂ := a :: s)
        simpa using this
      exact this.nodup_iff
def rv : List Q2 → List Q2
  | [] => []
  | a :: l => a :: l.reverse
theorem pe_rev : ∀ (a : Q2) (l : List Q2) (b : Q2), pe b (l.reverse ++ [a]) = ((pe a (l ++ [b])).map (fun e => (e.2, e.1))).reverse
  | a, [], b => rfl
  | a, c :: l, b => by
    rw [List.reverse_cons, List.append_assoc, List.singleton_append, pe_app, pe_rev c l b]
    simp [pe]
theorem eds_rev (P : List Q2) : eds (rv P) = ((eds P).map (fun e => (e.2, e.1))).reverse := by
  cases P with
  | nil => rfl
  | cons a l => exact pe_rev a l a
theorem ed_rev {P : List Q2} {u v : Q2} : (u, v) ∈ eds (rv P) ↔ (v, u) ∈ eds P := by
  rw [eds_rev]
  rw [List.mem_reverse, List.mem_map]
  constructor
  · rintro ⟨e, h, he⟩
    have h1 : e.2 = u := congrArg Prod.fst he
    have h2 : e.1 = v := congrArg Prod.snd he
    rw [← h1, ← h2]; exact h
  · intro h; exact ⟨(v, u), h, rfl⟩
theorem wsum_rev (q : Q2) : ∀ l : List (Q2 × Q2), wsum q ((l.map (fun e => (e.2, e.1))).reverse) = -wsum q l
  | [] => rfl
  | e :: l => by
    rw [List.map_cons, List.reverse_cons, wsum_app, wsum_rev q l, wsum_cons, wsum_cons, wsum_nil]
    have := wT_back e.1 e.2 q
    simp only
    omega
theorem wn_rev (P : List Q2) (q : Q2) : wn (rv P) q = -wn P q := by unfold wn; rw [eds_rev, wsum_rev]
theorem mem_rv {P : List Q2} {p : Q2} : p ∈ rv P ↔ p ∈ P := by cases P <;> simp [rv]
theorem len_rv (P : List Q2) : (rv P).length = P.length := by cases P <;> simp [rv]
theorem rv_rv (P : List Q2) : rv (rv P) = P := by cases P <;> simp [rv]
theorem nd_rv {P : List Q2} (h : P.Nodup) : (rv P).Nodup := by
  cases P with
  | nil => exact h
  | cons a l =>
    simp only [rv, List.nodup_cons, List.mem_reverse] at h ⊢
    exact ⟨h.1, (List.reverse_perm l).nodup_iff.2 h.2⟩
theorem on_swap {a b x : Q2} (h : OnJ a b x) : OnJ b a x := by
  obtain ⟨t, t0, t1, e⟩ := h
  exact ⟨1 - t, by grind, by grind, by rw [e]; unfold lerp; apply Prod.ext <;> simp only <;> grind⟩
theorem on_fst (a b : Q2) : OnJ a b a := ⟨0, by grind, by grind, by unfold lerp; apply Prod.ext <;> simp only <;> grind⟩
theorem on_snd (a b : Q2) : OnJ a b b := ⟨1, by grind, by grind, by unfold lerp; apply Prod.ext <;> simp only <;> grind⟩
/-- A simple way. -/
structure SimJ (P : List Q2) : Prop where
  n3 : 3 ≤ P.length
  nd : P.Nodup
  cr : ∀ e ∈ eds P, ∀ e' ∈ eds P, e ≠ e' → ∀ x, OnJ e.1 e.2 x → OnJ e'.1 e'.2 x → (x = e.1 ∨ x = e.2) ∧ (x = e'.1 ∨ x = e'.2)
theorem SimJ.same {P P' : List Q2} (h : SimJ P) (s : Same P P') : SimJ P' :=
  ⟨by rw [s.len]; exact h.n3, s.nd.2 h.nd, fun e he e' he' => h.cr e ((s.ed e).1 he) e' ((s.ed e').1 he')⟩
theorem SimJ.rev {P : List Q2} (h : SimJ P) : SimJ (rv P) := by
  refine ⟨by rw [len_rv]; exact h.n3, nd_rv h.nd, ?_⟩
  rintro ⟨u, v⟩ he ⟨u', v'⟩ he' hne x hx hx'
  have := h.cr (v, u) (ed_rev.1 he) (v', u') (ed_rev.1 he') (by intro e; apply hne; simp only [Prod.mk.injEq] at e ⊢; exact ⟨e.2, e.1⟩) x (on_swap hx) (on_swap hx')
  simp only at this ⊢
  exact ⟨this.1.symm, this.2.symm⟩
theorem out_ed {P : List Q2} {x : Q2} (h : x ∈ P) : ∃ y, (x, y) ∈ eds P := by
  obtain ⟨l, s⟩ := rot_to h
  cases l with
  | nil => exact ⟨x, (s.ed _).1 (by simp [eds, pe])⟩
  | cons y l => exact ⟨y, (s.ed _).1 (by simp [eds, pe])⟩
/-- A corner on a segment is its end. -/
theorem SimJ.corner {P : List Q2} (h : SimJ P) {x : Q2} {e : Q2 × Q2} (hx : x ∈ P) (he : e ∈ eds P) (ho : OnJ e.1 e.2 x) : x = e.1 ∨ x = e.2 := by
  obtain ⟨y, hy⟩ := out_ed hx
  by_cases c : e = (x, y)
  · exact .inl (by rw [c])
  · exact (h.cr e he (x, y) hy c x ho (on_fst x y)).1
/-- Off a way. -/
def Off (P : List Q2) (q : Q2) : Prop := ∀ e ∈ eds P, ¬ OnJ e.1 e.2 q
theorem Off.same {P P' : List Q2} {q : Q2} (h : Off P q) (s : Same P P') : Off P' q := fun e he => h e ((s.ed e).1 he)
theorem Off.rev {P : List Q2} {q : Q2} (h : Off P q) : Off (rv P) q := fun ⟨u, v⟩ he ho => h (v, u) (ed_rev.1 he) (on_swap ho)
/-- On a segment, by signs. -/
theorem on_iff {u v x : Q2} : OnJ u v x ↔ jc u v x = 0 ∧ (u.1 ≤ x.1 ∧ x.1 ≤ v.1 ∨ v.1 ≤ x.1 ∧ x.1 ≤ u.1) ∧ (u.2 ≤ x.2 ∧ x.2 ≤ v.2 ∨ v.2 ≤ x.2 ∧ x.2 ≤ u.2) := by
  constructor
  · rintro ⟨t, t0, t1, rfl⟩
    have k : ∀ a b : Rat, (a ≤ a + t * (b - a) ∧ a + t * (b - a) ≤ b) ∨ (b ≤ a + t * (b - a) ∧ a + t * (b - a) ≤ a) := by
      intro a b
      rcases (Rat.le_total : a ≤ b ∨ b ≤ a) with h | h
      · have := mnn t0 (show 0 ≤ b - a by grind)
        have := mnn (show 0 ≤ 1 - t by grind) (show 0 ≤ b - a by grind)
        exact .inl (by grind)
      · have := mnn t0 (show 0 ≤ a - b by grind)
        have := mnn (show 0 ≤ 1 - t by grind) (show 0 ≤ a - b by grind)
        exact .inr (by grind)
    exact ⟨by unfold jc lerp; grind, k u.1 v.1, k u.2 v.2⟩
  · rintro ⟨h0, hx, hy⟩
    by_cases c1 : v.1 - u.1 = 0
    · by_cases c2 : v.2 - u.2 = 0
      · exact ⟨0, by grind, by grind, by unfold lerp; apply Prod.ext <;> simp only <;> grind⟩
      · have i : (v.2 - u.2) * (v.2 - u.2)⁻¹ = 1 := Rat.mul_inv_cancel _ c2
        refine ⟨(x.2 - u.2) / (v.2 - u.2), ?_⟩
        have d : 0 ≤ (x.2 - u.2) / (v.2 - u.2) ∧ (x.2 - u.2) / (v.2 - u.2) ≤ 1 := by
          rcases hy with hy | hy
          · exact div_01 (by grind) (by grind) (by grind)
          · have := div_01 (show 0 ≤ u.2 - x.2 by grind) (show u.2 - x.2 ≤ u.2 - v.2 by grind) (by grind)
            have e : (u.2 - x.2) / (u.2 - v.2) = (x.2 - u.2) / (v.2 - u.2) := by
              have i2 : (u.2 - v.2) * (u.2 - v.2)⁻¹ = 1 := Rat.mul_inv_cancel _ (by grind)
              rw [Rat.div_def, Rat.div_def]
              grind
            rw [← e]; exact this
        refine ⟨d.1, d.2, ?_⟩
        rw [Rat.div_def]
        unfold lerp
        apply Prod.ext <;> simp only <;> grind
    · have i : (v.1 - u.1) * (v.1 - u.1)⁻¹ = 1 := Rat.mul_inv_cancel _ c1
      refine ⟨(x.1 - u.1) / (v.1 - u.1), ?_⟩
      have d : 0 ≤ (x.1 - u.1) / (v.1 - u.1) ∧ (x.1 - u.1) / (v.1 - u.1) ≤ 1 := by
        rcases hx with hx | hx
        · exact div_01 (by grind) (by grind) (by grind)
        · have := div_01 (show 0 ≤ u.1 - x.1 by grind) (show u.1 - x.1 ≤ u.1 - v.1 by grind) (by grind)
          have e : (u.1 - x.1) / (u.1 - v.1) = (x.1 - u.1) / (v.1 - u.1) := by
            have i2 : (u.1 - v.1) * (u.1 - v.1)⁻¹ = 1 := Rat.mul_inv_cancel _ (by grind)
            rw [Rat.div_def, Rat.div_def]
            grind
          rw [← e]; exact this
      refine ⟨d.1, d.2, ?_⟩
      rw [Rat.div_def]
      unfold jc at h0
      unfold lerp
      apply Prod.ext <;> simp only <;> grind
/-- Near a point. -/
structure Nr (ε : Rat) (m x : Q2) : Prop where
  a : m.1 - ε ≤ x.1
  b : x.1 ≤ m.1 + ε
  c : m.2 - ε ≤ x.2
  d : x.2 ≤ m.2 + ε
theorem mabs {A d ε : Rat} (h1 : -ε ≤ d) (h2 : d ≤ ε) : ∃ A', A ≤ A' ∧ -A ≤ A' ∧ A * d ≤ A' * ε ∧ -(A * d) ≤ A' * ε := by
  rcases (Rat.le_total : 0 ≤ A ∨ A ≤ 0) with h | h
  · have := mnn h (show 0 ≤ ε - d by grind)
    have := mnn h (show 0 ≤ ε + d by grind)
    exact ⟨A, by grind, by grind, by grind, by grind⟩
  · have := mnn (show 0 ≤ -A by grind) (show 0 ≤ ε - d by grind)
    have := mnn (show 0 ≤ -A by grind) (show 0 ≤ ε + d by grind)
    exact ⟨-A, by grind, by grind, by grind, by grind⟩
def ab (A : Rat) : Rat := if 0 ≤ A then A else -A
theorem ab_nn (A : Rat) : 0 ≤ ab A := by unfold ab; grind
theorem ab_le (A : Rat) : A ≤ ab A ∧ -A ≤ ab A := by unfold ab; grind
theorem ab_mul {A d ε : Rat} (h1 : -ε ≤ d) (h2 : d ≤ ε) : A * d ≤ ab A * ε ∧ -(A * d) ≤ ab A * ε := by
  unfold ab
  by_cases h : 0 ≤ A
  · rw [if_pos h]
    have := mnn h (show 0 ≤ ε - d by grind)
    have := mnn h (show 0 ≤ ε + d by grind)
    grind
  · rw [if_neg h]
    have := mnn (show 0 ≤ -A by grind) (show 0 ≤ ε - d by grind)
    have := mnn (show 0 ≤ -A by grind) (show 0 ≤ ε + d by grind)
    grind
theorem near1 {u v m : Q2} (h : ¬ OnJ u v m) : ∃ ε : Rat, 0 < ε ∧ ∀ x, Nr ε m x → ¬ OnJ u v x := by
  have h' : ¬ (jc u v m = 0 ∧ (u.1 ≤ m.1 ∧ m.1 ≤ v.1 ∨ v.1 ≤ m.1 ∧ m.1 ≤ u.1) ∧ (u.2 ≤ m.2 ∧ m.2 ≤ v.2 ∨ v.2 ≤ m.2 ∧ m.2 ≤ u.2)) := fun k => h (on_iff.2 k)
  have box : ∀ (p a b c : Rat), ¬ (a ≤ p ∧ p ≤ b ∨ b ≤ p ∧ p ≤ a) → ∃ ε : Rat, 0 < ε ∧ ∀ x, p - ε ≤ x → x ≤ p + ε → ¬ (a ≤ x ∧ x ≤ b ∨ b ≤ x ∧ x ≤ a) := by
    intro p a b c hn
    by_cases h1 : p < a ∧ p < b
    · rcases (Rat.le_total : a ≤ b ∨ b ≤ a) with k | k
      · exact ⟨(a - p) / 2, by grind, fun x _ _ => by grind⟩
      · exact ⟨(b - p) / 2, by grind, fun x _ _ => by grind⟩
    · have h2 : a < p ∧ b < p := by grind
      rcases (Rat.le_total : a ≤ b ∨ b ≤ a) with k | k
      · exact ⟨(p - b) / 2, by grind, fun x _ _ => by grind⟩
      · exact ⟨(p - a) / 2, by grind, fun x _ _ => by grind⟩
  by_cases c0 : jc u v m = 0
  · by_cases c1 : (u.1 ≤ m.1 ∧ m.1 ≤ v.1 ∨ v.1 ≤ m.1 ∧ m.1 ≤ u.1)
    · obtain ⟨ε, e0, e1⟩ := box m.2 u.2 v.2 0 (fun k => h' ⟨c0, c1, k⟩)
      exact ⟨ε, e0, fun x n o => e1 x.2 n.c n.d (on_iff.1 o).2.2⟩
    · obtain ⟨ε, e0, e1⟩ := box m.1 u.1 v.1 0 c1
      exact ⟨ε, e0, fun x n o => e1 x.1 n.a n.b (on_iff.1 o).2.1⟩
  · obtain ⟨D, hD⟩ : ∃ D, D = ab (v.1 - u.1) + ab (v.2 - u.2) + 1 := ⟨_, rfl⟩
    have D1 : 1 ≤ D := by have := ab_nn (v.1 - u.1); have := ab_nn (v.2 - u.2); grind
    have i : D * D⁻¹ = 1 := Rat.mul_inv_cancel _ (by grind)
    have ip := Rat.inv_pos.2 (show 0 < D by grind)
    have J0 : 0 < ab (jc u v m) := by unfold ab; grind
    refine ⟨ab (jc u v m) * D⁻¹, mpos J0 ip, fun x n o => ?_⟩
    have e := (on_iff.1 o).1
    have k : jc u v x - jc u v m = (v.1 - u.1) * (x.2 - m.2) - (v.2 - u.2) * (x.1 - m.1) := by unfold jc; grind
    generalize hE : ab (jc u v m) * D⁻¹ = E at *
    have E0 : 0 < E := by rw [← hE]; exact mpos J0 ip
    have t1 := ab_mul (A := v.1 - u.1) (d := x.2 - m.2) (ε := E) (by have := n.c; grind) (by have := n.d; grind)
    have t2 := ab_mul (A := v.2 - u.2) (d := x.1 - m.1) (ε := E) (by have := n.a; grind) (by have := n.b; grind)
    have DE : D * E = ab (jc u v m) := by rw [← hE]; grind
    have j := ab_le (jc u v m)
    have j2 : ab (jc u v m) = jc u v m ∨ ab (jc u v m) = -jc u v m := by unfold ab; grind
    have DE' : ab (v.1 - u.1) * E + ab (v.2 - u.2) * E + E = ab (jc u v m) := by rw [← DE, hD]; grind
    clear hD DE hE i ip D1
    generalize (v.1 - u.1) * (x.2 - m.2) = X at *
    generalize (v.2 - u.2) * (x.1 - m.1) = Y at *
    generalize ab (v.1 - u.1) * E = A at *
    generalize ab (v.2 - u.2) * E = B at *
    generalize ab (jc u v m) = J at *
    generalize jc u v m = M at *
    generalize jc u v x = N at *
    clear h' box h n o
    rcases j2 with j2 | j2 <;> grind
theorem near_all {m : Q2} : ∀ E : List (Q2 × Q2), (∀ e ∈ E, ¬ OnJ e.1 e.2 m) → ∃ ε : Rat, 0 < ε ∧ ∀ x, Nr ε m x → ∀ e ∈ E, ¬ OnJ e.1 e.2 x
  | [], _ => ⟨1, by grind, fun _ _ _ h => by simp at h⟩
  | e :: E, h => by
    obtain ⟨ε1, p1, h1⟩ := near1 (h e (by simp))
    obtain ⟨ε2, p2, h2⟩ := near_all E (fun e he => h e (by simp [he]))
    rcases (Rat.le_total : ε1 ≤ ε2 ∨ ε2 ≤ ε1) with k | k
    · refine ⟨ε1, p1, fun x n e' he' => ?_⟩
      rcases List.mem_cons.1 he' with rfl | he'
      · exact h1 x n
      · exact h2 x ⟨by have := n.a; grind, by have := n.b; grind, by have := n.c; grind, by have := n.d; grind⟩ e' he'
    · refine ⟨ε2, p2, fun x n e' he' => ?_⟩
      rcases List.mem_cons.1 he' with rfl | he'
      · exact h1 x ⟨by have := n.a; grind, by have := n.b; grind, by have := n.c; grind, by have := n.d; grind⟩
      · exact h2 x n e' he'
/-- A small step: δ times d stays near, for each d that is no greater than K. -/
theorem near_step {ε K : Rat} (hε : 0 < ε) (hK : 0 ≤ K) : ∃ δ : Rat, 0 < δ ∧ δ ≤ 1 ∧ ∀ (m d : Q2), -K ≤ d.1 → d.1 ≤ K → -K ≤ d.2 → d.2 ≤ K → ∀ s, -δ ≤ s → s ≤ δ → Nr ε m (m.1 + s * d.1, m.2 + s * d.2) := by
  have key : ∃ δ : Rat, 0 < δ ∧ δ ≤ 1 ∧ δ * K ≤ ε := by
    have i : (K + 1) * (K + 1)⁻¹ = 1 := Rat.mul_inv_cancel _ (by grind)
    have ip := Rat.inv_pos.2 (show 0 < K + 1 by grind)
    have q := mpos hε ip
    have e1 : ε * (K + 1)⁻¹ * (K + 1) = ε := by grind
    rcases (Rat.le_total : ε * (K + 1)⁻¹ ≤ 1 ∨ 1 ≤ ε * (K + 1)⁻¹) with k | k
    · exact ⟨ε * (K + 1)⁻¹, q, k, by grind⟩
    · have := mnn (show 0 ≤ ε * (K + 1)⁻¹ - 1 by grind) (show 0 ≤ K + 1 by grind)
      exact ⟨1, by grind, by grind, by grind⟩
  obtain ⟨δ, d0, d1, dk⟩ := key
  refine ⟨δ, d0, d1, fun m d a1 a2 b1 b2 s s1 s2 => ?_⟩
  have A : ∀ z, -K ≤ z → z ≤ K → -ε ≤ s * z ∧ s * z ≤ ε := by
    intro z z1 z2
    have t := ab_mul (A := z) (d := s) (ε := δ) s1 s2
    have : ab z ≤ K := by unfold ab; grind
    have := mnn (show 0 ≤ δ by grind) (show 0 ≤ K - ab z by grind)
    grind
  have x := A d.1 a1 a2
  have y := A d.2 b1 b2
  exact ⟨by simp only; grind, by simp only; grind, by simp only; grind, by simp only; grind⟩
/-- Within a triangle that turns left, or on it. -/
structure InC (a b c x : Q2) : Prop where
  p : 0 ≤ jc a b x
  q : 0 ≤ jc b c x
  r : 0 ≤ jc c a x
theorem lin2 {x y t : Rat} (t0 : 0 ≤ t) (t1 : t ≤ 1) (hx : 0 ≤ x) (hy : 0 ≤ y) : 0 ≤ (1 - t) * x + t * y := by
  have := mnn (show 0 ≤ 1 - t by grind) hx
  have := mnn t0 hy
  grind
theorem lin_le {x y z t : Rat} (t0 : 0 ≤ t) (t1 : t ≤ 1) (hx : z ≤ x) (hy : z ≤ y) : z ≤ (1 - t) * x + t * y := by
  have := mnn (show 0 ≤ 1 - t by grind) (show 0 ≤ x - z by grind)
  have := mnn t0 (show 0 ≤ y - z by grind)
  grind
theorem lin_lt {x y z t : Rat} (t0 : 0 ≤ t) (t1 : t ≤ 1) (hx : z < x) (hy : z < y) : z < (1 - t) * x + t * y := by
  rcases (Rat.le_total : x ≤ y ∨ y ≤ x) with k | k
  · have := lin_le (x := x) (y := y) (z := x) t0 t1 (by grind) k; grind
  · have := lin_le (x := x) (y := y) (z := y) t0 t1 k (by grind); grind
theorem InC.lerp {a b c x y : Q2} {t : Rat} (h : InC a b c x) (k : InC a b c y) (t0 : 0 ≤ t) (t1 : t ≤ 1) : InC a b c (lerp x y t) :=
  ⟨by rw [jc_lerp]; exact lin2 t0 t1 h.p k.p, by rw [jc_lerp]; exact lin2 t0 t1 h.q k.q, by rw [jc_lerp]; exact lin2 t0 t1 h.r k.r⟩
theorem jc_aa (a b : Q2) : jc a b a = 0 := by unfold jc; grind
theorem jc_ab (a b : Q2) : jc a b b = 0 := by unfold jc; grind
theorem inC_a {a b c : Q2} (h : 0 < jc a b c) : InC a b c a := ⟨by rw [jc_aa]; grind, by rw [jc_rot]; grind, by rw [jc_ab]; grind⟩
theorem inC_b {a b c : Q2} (h : 0 < jc a b c) : InC a b c b := ⟨by rw [jc_ab]; grind, by rw [jc_aa]; grind, by rw [jc_rot, jc_rot]; grind⟩
theorem inC_c {a b c : Q2} (h : 0 < jc a b c) : InC a b c c := ⟨by grind, by rw [jc_ab]; grind, by rw [jc_aa]; grind⟩
theorem on_ac {a b c x : Q2} (h : 0 < jc a b c) (o : OnJ a c x) : InC a b c x ∧ jc c a x = 0 := by
  obtain ⟨t, t0, t1, rfl⟩ := o
  exact ⟨(inC_a h).lerp (inC_c h) t0 t1, by rw [jc_lerp, jc_ab, jc_aa]; grind⟩
theorem on_ab {a b c y : Q2} (h : 0 < jc a b c) (h0 : jc a b y = 0) (h1 : 0 ≤ jc b c y) (h2 : 0 ≤ jc c a y) : OnJ a b y := by
  have s := jc_three a b c y
  have d := div_01 h2 (show jc c a y ≤ jc a b c by grind) h
  refine ⟨jc c a y / jc a b c, d.1, d.2, ?_⟩
  have i : jc a b c * (jc a b c)⁻¹ = 1 := Rat.mul_inv_cancel _ (by grind)
  rw [Rat.div_def]
  have e1 : jc b c y * (a.1 - y.1) + jc c a y * (b.1 - y.1) + jc a b y * (c.1 - y.1) = 0 := by unfold jc; grind
  have e2 := jc_y a b c y
  generalize (jc a b c)⁻¹ = I at *
  generalize jc a b c = J at *
  generalize jc b c y = B at *
  generalize jc c a y = C at *
  unfold lerp
  apply Prod.ext <;> simp only <;> grind
theorem on_bc {a b c y : Q2} (h : 0 < jc a b c) (h0 : jc b c y = 0) (h1 : 0 ≤ jc a b y) (h2 : 0 ≤ jc c a y) : OnJ b c y :=
  on_ab (c := a) (by rw [jc_rot]; exact h) h0 h2 h1
theorem on_ca {a b c y : Q2} (h : 0 < jc a b c) (h0 : jc c a y = 0) (h1 : 0 ≤ jc a b y) (h2 : 0 ≤ jc b c y) : OnJ c a y :=
  on_ab (c := b) (by rw [jc_rot, jc_rot]; exact h) h0 h1 h2
theorem root01 {p p' : Rat} (h : 0 ≤ p) (k : p' < 0) : ∃ t, 0 ≤ t ∧ t ≤ 1 ∧ (1 - t) * p + t * p' = 0 := by
  have d := div_01 h (show p ≤ p - p' by grind) (by grind)
  have i : (p - p') * (p - p')⁻¹ = 1 := Rat.mul_inv_cancel _ (by grind)
  refine ⟨p / (p - p'), d.1, d.2, ?_⟩
  rw [Rat.div_def]
  grind
theorem before {r r' t s : Rat} (hr : 0 ≤ r) (hs : (1 - s) * r + s * r' = 0) (hts : t ≤ s) (h : r' < 0) : 0 ≤ (1 - t) * r + t * r' := by
  have := mnn (show 0 ≤ s - t by grind) (show 0 ≤ r - r' by grind)
  grind
/-- Out of a triangle one comes by one of its sides. -/
theorem leave {a b c x w : Q2} (h : 0 < jc a b c) (hx : InC a b c x) (hw : 0 ≤ jc c a w) (hn : ¬ InC a b c w) : ∃ t, 0 ≤ t ∧ t ≤ 1 ∧ (OnJ a b (lerp x w t) ∨ OnJ b c (lerp x w t)) := by
  have side1 : ∀ t, 0 ≤ t → t ≤ 1 → (1 - t) * jc a b x + t * jc a b w = 0 → 0 ≤ (1 - t) * jc b c x + t * jc b c w → OnJ a b (lerp x w t) := fun t t0 t1 e1 e2 =>
    on_ab h (by rw [jc_lerp]; exact e1) (by rw [jc_lerp]; exact e2) (by rw [jc_lerp]; exact lin2 t0 t1 hx.r hw)
  have side2 : ∀ t, 0 ≤ t → t ≤ 1 → (1 - t) * jc b c x + t * jc b c w = 0 → 0 ≤ (1 - t) * jc a b x + t * jc a b w → OnJ b c (lerp x w t) := fun t t0 t1 e1 e2 =>
    on_bc h (by rw [jc_lerp]; exact e1) (by rw [jc_lerp]; exact e2) (by rw [jc_lerp]; exact lin2 t0 t1 hx.r hw)
  by_cases c1 : jc a b w < 0
  · obtain ⟨t1, a1, b1, e1⟩ := root01 hx.p c1
    by_cases c2 : jc b c w < 0
    · obtain ⟨t2, a2, b2, e2⟩ := root01 hx.q c2
      rcases (Rat.le_total : t1 ≤ t2 ∨ t2 ≤ t1) with k | k
      · exact ⟨t1, a1, b1, .inl (side1 t1 a1 b1 e1 (before hx.q e2 k c2))⟩
      · exact ⟨t2, a2, b2, .inr (side2 t2 a2 b2 e2 (before hx.p e1 k c1))⟩
    · exact ⟨t1, a1, b1, .inl (side1 t1 a1 b1 e1 (lin2 a1 b1 hx.q (by grind)))⟩
  · by_cases c2 : jc b c w < 0
    · obtain ⟨t2, a2, b2, e2⟩ := root01 hx.q c2
      exact ⟨t2, a2, b2, .inr (side2 t2 a2 b2 e2 (lin2 a2 b2 hx.p (by grind)))⟩
    · exact absurd ⟨by grind, by grind, hw⟩ hn
theorem on_on {u v x w : Q2} {t : Rat} (hx : OnJ u v x) (hw : OnJ u v w) (t0 : 0 ≤ t) (t1 : t ≤ 1) : OnJ u v (lerp x w t) := by
  obtain ⟨s, s0, s1, rfl⟩ := hx
  obtain ⟨r, r0, r1, rfl⟩ := hw
  refine ⟨(1 - t) * s + t * r, lin2 t0 t1 s0 r0, ?_, ?_⟩
  · have := lin2 t0 t1 (show 0 ≤ 1 - s by grind) (show 0 ≤ 1 - r by grind); grind
  · unfold lerp; apply Prod.ext <;> simp only <;> grind
/-- The segments of a way with one corner first. -/
theorem eds_at (b c : Q2) (mid : List Q2) (a : Q2) : eds (b :: c :: (mid ++ [a])) = (b, c) :: (pe c (mid ++ [a]) ++ [(a, b)]) := by
  show pe b ((c :: (mid ++ [a])) ++ [b]) = _
  rw [List.cons_append, pe, List.append_assoc, List.singleton_append, pe_app]
  rfl
theorem pe_ends {c : Q2} {mid : List Q2} {a : Q2} {e : Q2 × Q2} (h : e ∈ pe c (mid ++ [a])) : e.1 ∈ c :: mid ∧ e.2 ∈ mid ++ [a] := by
  induction mid generalizing c with
  | nil => simp [pe] at h; subst h; simp
  | cons m mid ih =>
    simp only [List.cons_append, pe, List.mem_cons] at h
    rcases h with rfl | h
    · simp
    · have := ih h
      exact ⟨List.mem_cons_of_mem _ this.1, List.mem_cons_of_mem _ this.2⟩
theorem nd_at {b c : Q2} {mid : List Q2} {a : Q2} (h : (b :: c :: (mid ++ [a])).Nodup) : b ≠ c ∧ b ∉ mid ∧ b ≠ a ∧ c ∉ mid ∧ c ≠ a ∧ a ∉ mid ∧ mid.Nodup := by
  simp only [List.nodup_cons, List.nodup_append, List.mem_cons, List.mem_append, List.mem_nil_iff, or_false, not_or] at h
  obtain ⟨⟨h1, h2, h3⟩, ⟨h4, h5⟩, h6, h7, h8⟩ := h
  exact ⟨h1, h2, h3, h4, h5, fun k => h8 a k a rfl rfl, h6⟩
/-- Nothing of what is left reaches into an empty corner. -/
theorem cut_free {b c : Q2} {mid : List Q2} {a : Q2} (S : SimJ (b :: c :: (mid ++ [a]))) (h : 0 < jc a b c) (hm : mid ≠ []) (he : ∀ p ∈ mid, ¬ InC a b c p) :
    ∀ e ∈ pe c (mid ++ [a]), ∀ x, OnJ e.1 e.2 x → InC a b c x → x = a ∨ x = c := by
  rintro ⟨u, v⟩ hp x hx hi
  obtain ⟨n1, n2, n3, n4, n5, n6, n7⟩ := nd_at S.nd
  have ends := pe_ends hp
  simp only at ends hx
  have uE : u = c ∨ u ∈ mid := List.mem_cons.1 ends.1
  have vE : v ∈ mid ∨ v = a := by have := List.mem_append.1 ends.2; simpa using this
  have ub : u ≠ b := fun k => by rw [k] at uE; exact uE.elim n1 n2
  have vb : v ≠ b := fun k => by rw [k] at vE; exact vE.elim n2 n3
  have ua : u ≠ a := fun k => by rw [k] at uE; exact uE.elim (fun h => n5 h.symm) n6
  have vc : v ≠ c := fun k => by rw [k] at vE; exact vE.elim n4 n5
  have E : (u, v) ∈ eds (b :: c :: (mid ++ [a])) := by rw [eds_at]; simp [hp]
  have E1 : (a, b) ∈ eds (b :: c :: (mid ++ [a])) := by rw [eds_at]; simp
  have E2 : (b, c) ∈ eds (b :: c :: (mid ++ [a])) := by rw [eds_at]; simp
  have onab : ∀ y, OnJ u v y → OnJ a b y → y = a ∧ v = a := fun y h1 h2 => by
    have := S.cr (u, v) E (a, b) E1 (by intro e; simp only [Prod.mk.injEq] at e; exact vb e.2) y h1 h2
    simp only at this
    grind
  have onbc : ∀ y, OnJ u v y → OnJ b c y → y = c ∧ u = c := fun y h1 h2 => by
    have := S.cr (u, v) E (b, c) E2 (by intro e; simp only [Prod.mk.injEq] at e; exact ub e.1) y h1 h2
    simp only at this
    grind
  false_or_by_contra
  rename_i hne
  have xa : x ≠ a := fun k => hne (.inl k)
  have xc : x ≠ c := fun k => hne (.inr k)
  have uv : u ≠ v := by
    rintro rfl
    rcases uE with k | k
    · exact vc k
    · obtain ⟨s, s0, s1, rfl⟩ := hx
      exact he u k (by have : lerp u u s = u := by (unfold lerp; apply Prod.ext <;> simp only <;> grind)
                       rw [this] at hi; exact hi)
  -- no end is beyond ab or bc
  have noU : 0 ≤ jc c a u → InC a b c u := fun hu => by
    false_or_by_contra
    rename_i hn
    obtain ⟨t, t0, t1, k | k⟩ := leave h hi hu hn
    · obtain ⟨k1, k2⟩ := onab _ (on_on hx (on_fst u v) t0 t1) k
      subst k2
      obtain ⟨s, s0, s1, rfl⟩ := hx
      have e : lerp (lerp u v s) u t = lerp u v (s * (1 - t)) := by unfold lerp; apply Prod.ext <;> simp only <;> grind
      rw [e] at k1
      have x1 : (s * (1 - t) - 1) * (v.1 - u.1) = 0 := by have := congrArg Prod.fst k1; unfold lerp at this; simp only at this; grind
      have x2 : (s * (1 - t) - 1) * (v.2 - u.2) = 0 := by have := congrArg Prod.snd k1; unfold lerp at this; simp only at this; grind
      have st : s * (1 - t) = 1 := by
        false_or_by_contra
        rename_i hst
        apply uv
        have i : (s * (1 - t) - 1) * (s * (1 - t) - 1)⁻¹ = 1 := Rat.mul_inv_cancel _ (by grind)
        apply Prod.ext <;> grind
      have s1' : s = 1 := by
        have := mnn s0 t0
        grind
      apply xa
      rw [s1']; unfold lerp; apply Prod.ext <;> simp only <;> grind
    · obtain ⟨k1, k2⟩ := onbc _ (on_on hx (on_fst u v) t0 t1) k
      subst k2
      exact hn (inC_c h)
  have noV : 0 ≤ jc c a v → InC a b c v := fun hu => by
    false_or_by_contra
    rename_i hn
    obtain ⟨t, t0, t1, k | k⟩ := leave h hi hu hn
    · obtain ⟨k1, k2⟩ := onab _ (on_on hx (on_snd u v) t0 t1) k
      subst k2
      exact hn (inC_a h)
    · obtain ⟨k1, k2⟩ := onbc _ (on_on hx (on_snd u v) t0 t1) k
      subst k2
      obtain ⟨s, s0, s1, rfl⟩ := hx
      have e : lerp (lerp u v s) v t = lerp u v (s + t * (1 - s)) := by unfold lerp; apply Prod.ext <;> simp only <;> grind
      rw [e] at k1
      have x1 : (s + t * (1 - s)) * (v.1 - u.1) = 0 := by have := congrArg Prod.fst k1; unfold lerp at this; simp only at this; grind
      have x2 : (s + t * (1 - s)) * (v.2 - u.2) = 0 := by have := congrArg Prod.snd k1; unfold lerp at this; simp only at this; grind
      have st : s + t * (1 - s) = 0 := by
        false_or_by_contra
        rename_i hst
        apply uv
        have i : (s + t * (1 - s)) * (s + t * (1 - s))⁻¹ = 1 := Rat.mul_inv_cancel _ (by grind)
        apply Prod.ext <;> grind
      have s1' : s = 0 := by
        have := mnn t0 (show 0 ≤ 1 - s by grind)
        grind
      apply xc
      rw [s1']; unfold lerp; apply Prod.ext <;> simp only <;> grind
  have U : jc c a u < 0 ∨ u = c := by
    by_cases k : jc c a u < 0
    · exact .inl k
    · rcases uE with k2 | k2
      · exact .inr k2
      · exact absurd (noU (by grind)) (he u k2)
  have V : jc c a v < 0 ∨ v = a := by
    by_cases k : jc c a v < 0
    · exact .inl k
    · rcases vE with k2 | k2
      · exact absurd (noV (by grind)) (he v k2)
      · exact .inr k2
  obtain ⟨s, s0, s1, rfl⟩ := hx
  have g := hi.r
  rw [jc_lerp] at g
  rcases U with k1 | k1 <;> rcases V with k2 | k2
  · have := lin_lt (z := 0) s0 s1 (show 0 < -jc c a u by grind) (show 0 < -jc c a v by grind); grind
  · rw [k2, jc_ab] at g
    have : s = 1 := by
      false_or_by_contra
      have := mpos (show 0 < 1 - s by grind) (show 0 < -jc c a u by grind); grind
    apply xa
    rw [this, k2]; unfold lerp; apply Prod.ext <;> simp only <;> grind
  · rw [k1, jc_aa] at g
    have : s = 0 := by
      false_or_by_contra
      have := mpos (show 0 < s by grind) (show 0 < -jc c a v by grind); grind
    apply xc
    rw [this, k1]; unfold lerp; apply Prod.ext <;> simp only <;> grind
  · subst k1 k2
    cases mid with
    | nil => exact hm rfl
    | cons m mid =>
      simp only [List.cons_append, pe, List.mem_cons, Prod.mk.injEq, true_and] at hp
      rcases hp with k | k
      · exact n6 (by rw [k]; simp)
      · have := (pe_ends k).1
        exact n4 this
theorem eds_cut (c : Q2) (mid : List Q2) (a : Q2) : eds (c :: (mid ++ [a])) = pe c (mid ++ [a]) ++ [(a, c)] := by
  show pe c ((mid ++ [a]) ++ [c]) = _
  rw [List.append_assoc, List.singleton_append, pe_app]
  rfl
theorem wn_cut (b c : Q2) (mid : List Q2) (a q : Q2) : wn (b :: c :: (mid ++ [a])) q = wn (c :: (mid ++ [a])) q + wn [a, b, c] q := by
  have := wT_back a c q
  rw [wn_tri]
  unfold wn
  rw [eds_at, eds_cut, wsum_cons, wsum_app, wsum_app, wsum_cons, wsum_cons, wsum_nil]
  simp only
  omega
/-- What is left when an empty corner is cut off is simple. -/
theorem cut_simple {b c : Q2} {mid : List Q2} {a : Q2} (S : SimJ (b :: c :: (mid ++ [a]))) (h : 0 < jc a b c) (hm : mid ≠ []) (he : ∀ p ∈ mid, ¬ InC a b c p) : SimJ (c :: (mid ++ [a])) := by
  have fr := cut_free S h hm he
  obtain ⟨n1, n2, n3, n4, n5, n6, n7⟩ := nd_at S.nd
  have old : ∀ e ∈ pe c (mid ++ [a]), e ∈ eds (b :: c :: (mid ++ [a])) := fun e he => by rw [eds_at]; simp [he]
  refine ⟨?_, (List.nodup_cons.1 S.nd).2, ?_⟩
  · have := List.length_pos_iff.2 hm
    simp only [List.length_cons, List.length_append, List.length_nil]
    omega
  · have two : ∀ e ∈ pe c (mid ++ [a]), ∀ x, OnJ e.1 e.2 x → OnJ a c x → (x = e.1 ∨ x = e.2) ∧ (x = a ∨ x = c) := fun e h1 x h2 h3 => by
      have k := fr e h1 x h2 (on_ac h h3).1
      refine ⟨S.corner ?_ (old e h1) h2, k⟩
      rcases k with rfl | rfl <;> simp
    intro e h1 e' h2 hne x ho ho'
    rw [eds_cut, List.mem_append, List.mem_singleton] at h1 h2
    rcases h1 with h1 | rfl <;> rcases h2 with h2 | rfl
    · exact S.cr e (old e h1) e' (old e' h2) hne x ho ho'
    · exact two e h1 x ho ho'
    · exact (two e' h2 x ho' ho).symm
    · exact absurd rfl hne
/-- Within a triangle, on none of its sides. -/
structure InO (a b c x : Q2) : Prop where
  p : 0 < jc a b x
  q : 0 < jc b c x
  r : 0 < jc c a x
theorem InO.c {a b c x : Q2} (h : InO a b c x) : InC a b c x := ⟨Rat.le_of_lt h.p, Rat.le_of_lt h.q, Rat.le_of_lt h.r⟩
theorem pos_lin {x y t : Rat} (t0 : 0 ≤ t) (t1 : t ≤ 1) (hx : 0 < x) (hy : 0 < y) : 0 < (1 - t) * x + t * y := lin_lt t0 t1 hx hy
theorem InO.lerp {a b c x y : Q2} {t : Rat} (h : InO a b c x) (k : InO a b c y) (t0 : 0 ≤ t) (t1 : t ≤ 1) : InO a b c (Jor.lerp x y t) :=
  ⟨by rw [jc_lerp]; exact pos_lin t0 t1 h.p k.p, by rw [jc_lerp]; exact pos_lin t0 t1 h.q k.q, by rw [jc_lerp]; exact pos_lin t0 t1 h.r k.r⟩
/-- Cutting off an empty corner: once round more, or all the other way round. -/
theorem cut_round {b c : Q2} {mid : List Q2} {a : Q2} (S : SimJ (b :: c :: (mid ++ [a]))) (h : 0 < jc a b c) (hm : mid ≠ []) (he : ∀ p ∈ mid, ¬ InC a b c p) {σ : Int} (hσ : σ = 1 ∨ σ = -1)
    (J : ∀ q, Off (c :: (mid ++ [a])) q → wn (c :: (mid ++ [a])) q = 0 ∨ wn (c :: (mid ++ [a])) q = σ) :
    (σ = 1 ∧ (∀ q, Off (b :: c :: (mid ++ [a])) q → wn (b :: c :: (mid ++ [a])) q = 0 ∨ wn (b :: c :: (mid ++ [a])) q = 1) ∧ (∀ q, Off (b :: c :: (mid ++ [a])) q → InC a b c q → wn (b :: c :: (mid ++ [a])) q = 1)) ∨
    (σ = -1 ∧ ∀ q, Off (b :: c :: (mid ++ [a])) q → wn (b :: c :: (mid ++ [a])) q = 0 ∨ wn (b :: c :: (mid ++ [a])) q = -1) := by
  have fr := cut_free S h hm he
  obtain ⟨n1, n2, n3, n4, n5, n6, n7⟩ := nd_at S.nd
  have W := wn_cut b c mid a
  have E1 : (a, b) ∈ eds (b :: c :: (mid ++ [a])) := by rw [eds_at]; simp
  have E2 : (b, c) ∈ eds (b :: c :: (mid ++ [a])) := by rw [eds_at]; simp
  have cell : ∀ e, e ∈ eds (b :: c :: (mid ++ [a])) → e = (b, c) ∨ e ∈ pe c (mid ++ [a]) ∨ e = (a, b) := fun e k => by rw [eds_at] at k; simpa using k
  have offP' : ∀ q, Off (b :: c :: (mid ++ [a])) q → ¬ OnJ a c q → Off (c :: (mid ++ [a])) q := fun q o k e h1 => by
    rw [eds_cut, List.mem_append, List.mem_singleton] at h1
    rcases h1 with h1 | rfl
    · exact o e (by rw [eds_at]; simp [h1])
    · exact k
  -- one number in the open triangle
  have con : ∀ q r, InO a b c q → InO a b c r → wn (c :: (mid ++ [a])) q = wn (c :: (mid ++ [a])) r := fun q r iq ir => by
    apply wn_const
    rintro e h1 ⟨x, o1, t, t0, t1, rfl⟩
    have ix := iq.lerp ir t0 t1
    rw [eds_cut, List.mem_append, List.mem_singleton] at h1
    have z := ix.r
    rcases h1 with h1 | rfl
    · rcases fr e h1 _ o1 ix.c with k | k
      · rw [k, jc_ab] at z; grind
      · rw [k, jc_aa] at z; grind
    · rw [(on_ac h o1).2] at z; grind
  -- the middle of the cut
  obtain ⟨m, hmd⟩ : ∃ m, m = lerp a c (1 / 2) := ⟨_, rfl⟩
  have mo : OnJ a c m := ⟨1 / 2, by grind, by grind, hmd⟩
  have m1 : jc a b m = jc a b c / 2 := by rw [hmd, jc_lerp, jc_aa]; grind
  have m2 : jc b c m = jc a b c / 2 := by rw [hmd, jc_lerp, jc_ab, jc_rot]; grind
  have m3 : jc c a m = 0 := (on_ac h mo).2
  have ma : m ≠ a := fun k => by rw [k, jc_aa] at m1; grind
  have mc : m ≠ c := fun k => by rw [k, jc_ab] at m2; grind
  have moff : Off (b :: c :: (mid ++ [a])) m := fun e h1 o => by
    rcases cell e h1 with rfl | k | rfl
    · have := (on_iff.1 o).1; simp only at this; grind
    · rcases fr e k m o (on_ac h mo).1 with k | k
      · exact ma k
      · exact mc k
    · have := (on_iff.1 o).1; simp only at this; grind
  obtain ⟨ε, e0, e1⟩ := near_all _ moff
  obtain ⟨δ, d0, d1, dn⟩ := near_step (K := ab (b.1 - m.1) + ab (b.2 - m.2)) e0 (by have := ab_nn (b.1 - m.1); have := ab_nn (b.2 - m.2); grind)
  have box := dn m (b.1 - m.1, b.2 - m.2) (by have := ab_le (b.1 - m.1); have := ab_nn (b.2 - m.2); simp only; grind) (by have := ab_le (b.1 - m.1); have := ab_nn (b.2 - m.2); simp only; grind) (by have := ab_le (b.2 - m.2); have := ab_nn (b.1 - m.1); simp only; grind) (by have := ab_le (b.2 - m.2); have := ab_nn (b.1 - m.1); simp only; grind)
  have pt : ∀ s, (m.1 + s * (b.1 - m.1), m.2 + s * (b.2 - m.2)) = lerp m b s := fun s => rfl
  simp only [pt] at box
  have J1 : ∀ s, jc a b (lerp m b s) = (1 - s) * (jc a b c / 2) := fun s => by rw [jc_lerp, m1, jc_ab]; grind
  have J2 : ∀ s, jc b c (lerp m b s) = (1 - s) * (jc a b c / 2) := fun s => by rw [jc_lerp, m2, jc_aa]; grind
  have J3 : ∀ s, jc c a (lerp m b s) = s * jc a b c := fun s => by rw [jc_lerp, m3, jc_rot, jc_rot]; grind
  obtain ⟨q0, hq0⟩ : ∃ q0, q0 = lerp m b (δ / 2) := ⟨_, rfl⟩
  obtain ⟨r0, hr0⟩ : ∃ r0, r0 = lerp m b (-(δ / 2)) := ⟨_, rfl⟩
  have iq : InO a b c q0 := by
    rw [hq0]
    exact ⟨by rw [J1]; exact mpos (by grind) (by grind), by rw [J2]; exact mpos (by grind) (by grind), by rw [J3]; exact mpos (by grind) h⟩
  have orr : jc c a r0 < 0 := by
    rw [hr0, J3]
    have := mpos (show 0 < δ / 2 by grind) h
    grind
  have oq : Off (b :: c :: (mid ++ [a])) q0 := fun e k => e1 _ (by rw [hq0]; exact box _ (by grind) (by grind)) e k
  have orf : Off (b :: c :: (mid ++ [a])) r0 := fun e k => e1 _ (by rw [hr0]; exact box _ (by grind) (by grind)) e k
  have same : wn (b :: c :: (mid ++ [a])) q0 = wn (b :: c :: (mid ++ [a])) r0 := by
    apply wn_const
    rintro e h1 ⟨x, o1, t, t0, t1, rfl⟩
    have ee : lerp q0 r0 t = lerp m b (δ / 2 - t * δ) := by rw [hq0, hr0]; unfold lerp; apply Prod.ext <;> simp only <;> grind
    rw [ee] at o1
    have u1 := mnn t0 (show 0 ≤ δ by grind)
    have u2 := mnn (show 0 ≤ 1 - t by grind) (show 0 ≤ δ by grind)
    exact e1 _ (box _ (by grind) (by grind)) e h1 o1
  have tq : wn [a, b, c] q0 = 1 := tri_in iq.p iq.q iq.r
  have tr : wn [a, b, c] r0 = 0 := tri_out h (.inr (.inr orr))
  have Jq := J q0 (offP' q0 oq (fun k => by have := (on_ac h k).2; have := iq.r; grind))
  have Jr := J r0 (offP' r0 orf (fun k => by have := (on_ac h k).2; grind))
  have Wq := W q0
  have Wr := W r0
  -- the numbers of P
  have inside : ∀ q, Off (b :: c :: (mid ++ [a])) q → InC a b c q → wn (b :: c :: (mid ++ [a])) q = wn (c :: (mid ++ [a])) q0 + 1 := fun q o iC => by
    have p1 : 0 < jc a b q := by
      false_or_by_contra
      exact o (a, b) E1 (on_ab h (by have := iC.p; grind) iC.q iC.r)
    have p2 : 0 < jc b c q := by
      false_or_by_contra
      exact o (b, c) E2 (on_bc h (by have := iC.q; grind) iC.p iC.r)
    by_cases p3 : 0 < jc c a q
    · rw [W q, tri_in p1 p2 p3, con q q0 ⟨p1, p2, p3⟩ iq]
    · have qa : q ≠ a := fun k => o (a, b) E1 (by rw [k]; exact on_fst a b)
      have qc : q ≠ c := fun k => o (b, c) E2 (by rw [k]; exact on_snd b c)
      have st : wn (b :: c :: (mid ++ [a])) q = wn (b :: c :: (mid ++ [a])) q0 := by
        apply wn_const
        rintro e h1 ⟨x, o1, t, t0, t1, rfl⟩
        have ix := iC.lerp iq.c t0 t1
        have y1 : 0 < jc a b (lerp q q0 t) := by rw [jc_lerp]; exact pos_lin t0 t1 p1 iq.p
        have y2 : 0 < jc b c (lerp q q0 t) := by rw [jc_lerp]; exact pos_lin t0 t1 p2 iq.q
        rcases cell e h1 with rfl | k | rfl
        · have := (on_iff.1 o1).1; simp only at this; grind
        · rcases fr e k _ o1 ix with k | k
          · rw [k, jc_aa] at y1; grind
          · rw [k, jc_ab] at y2; grind
        · have := (on_iff.1 o1).1; simp only at this; grind
      rw [st, Wq, tq]
  have outside : ∀ q, Off (b :: c :: (mid ++ [a])) q → ¬ InC a b c q → wn (b :: c :: (mid ++ [a])) q = 0 ∨ wn (b :: c :: (mid ++ [a])) q = σ := fun q o iC => by
    have t : wn [a, b, c] q = 0 := by
      apply tri_out h
      false_or_by_contra
      exact iC ⟨by grind, by grind, by grind⟩
    rw [W q, t]
    have := J q (offP' q o (fun k => iC (on_ac h k).1))
    omega
  rcases hσ with rfl | rfl
  · left
    have z : wn (c :: (mid ++ [a])) q0 = 0 := by omega
    refine ⟨rfl, fun q o => ?_, fun q o iC => by rw [inside q o iC]; omega⟩
    by_cases iC : InC a b c q
    · right; rw [inside q o iC]; omega
    · exact outside q o iC
  · right
    have z : wn (c :: (mid ++ [a])) q0 = -1 := by omega
    refine ⟨rfl, fun q o => ?_⟩
    by_cases iC : InC a b c q
    · left; rw [inside q o iC]; omega
    · exact outside q o iC
theorem fl_lerp (α β : Rat) (u v : Q2) (t : Rat) : fl α β (lerp u v t) = (1 - t) * fl α β u + t * fl α β v := by unfold fl lerp; grind
theorem gap (f : Q2 → Rat) (z : Rat) : ∀ l : List Q2, (∀ p ∈ l, z < f p) → ∃ η : Rat, 0 < η ∧ ∀ p ∈ l, z + η ≤ f p
  | [], _ => ⟨1, by grind, fun _ h => by simp at h⟩
  | a :: l, h => by
    obtain ⟨η, h1, h2⟩ := gap f z l (fun p hp => h p (by simp [hp]))
    have ha := h a (by simp)
    rcases (Rat.le_total : η ≤ f a - z ∨ f a - z ≤ η) with k | k
    · refine ⟨η, h1, fun p hp => ?_⟩
      rcases List.mem_cons.1 hp with rfl | hp
      · grind
      · exact h2 p hp
    · refine ⟨f a - z, by grind, fun p hp => ?_⟩
      rcases List.mem_cons.1 hp with rfl | hp
      · grind
      · have := h2 p hp; grind
/-- An outermost corner turns. -/
theorem ext_turn {b c : Q2} {mid : List Q2} {a : Q2} (S : SimJ (b :: c :: (mid ++ [a]))) {α β : Rat} (hf : ∀ p ∈ c :: (mid ++ [a]), fl α β b < fl α β p) : jc a b c ≠ 0 := by
  intro h0
  obtain ⟨n1, n2, n3, n4, n5, n6, n7⟩ := nd_at S.nd
  have fa := hf a (by simp)
  have fc := hf c (by simp)
  have E1 : (a, b) ∈ eds (b :: c :: (mid ++ [a])) := by rw [eds_at]; simp
  have E2 : (b, c) ∈ eds (b :: c :: (mid ++ [a])) := by rw [eds_at]; simp
  have key : ∀ u v : Q2, jc u b v = 0 → fl α β b < fl α β u → fl α β u ≤ fl α β v → OnJ b v u := by
    intro u v z h1 h2
    have d := div_01 (show 0 ≤ fl α β u - fl α β b by grind) (show fl α β u - fl α β b ≤ fl α β v - fl α β b by grind) (by grind)
    refine ⟨_, d.1, d.2, ?_⟩
    have i : (fl α β v - fl α β b) * (fl α β v - fl α β b)⁻¹ = 1 := Rat.mul_inv_cancel _ (by grind)
    have x1 : (u.1 - b.1) * (fl α β v - fl α β b) = (v.1 - b.1) * (fl α β u - fl α β b) := by unfold fl; unfold jc at z; grind
    have x2 : (u.2 - b.2) * (fl α β v - fl α β b) = (v.2 - b.2) * (fl α β u - fl α β b) := by unfold fl; unfold jc at z; grind
    rw [Rat.div_def]
    generalize (fl α β v - fl α β b)⁻¹ = I at *
    generalize fl α β v - fl α β b = V at *
    generalize fl α β u - fl α β b = U at *
    unfold lerp
    apply Prod.ext <;> simp only <;> grind
  rcases (Rat.le_total : fl α β a ≤ fl α β c ∨ fl α β c ≤ fl α β a) with k | k
  · rcases S.corner (x := a) (by simp) E2 (key a c h0 fa k) with k | k
    · exact n3 k.symm
    · exact n5 k.symm
  · rcases S.corner (x := c) (by simp) E1 (on_swap (key c a (by unfold jc at h0 ⊢; grind) fc k)) with k | k
    · exact n5 k
    · exact n1 k.symm
/-- Beside an outermost corner that turns left there is a point that the way goes round once. -/
theorem ext_one {b c : Q2} {mid : List Q2} {a : Q2} (h : 0 < jc a b c) {α β : Rat} (hf : ∀ p ∈ c :: (mid ++ [a]), fl α β b < fl α β p) : ∃ q, Off (b :: c :: (mid ++ [a])) q ∧ wn (b :: c :: (mid ++ [a])) q = 1 := by
  have fa := hf a (by simp)
  have fc := hf c (by simp)
  obtain ⟨η, e0, e1⟩ := gap (fl α β) (fl α β b) _ hf
  obtain ⟨D, hD⟩ : ∃ D, D = (fl α β a - fl α β b) + (fl α β c - fl α β b) := ⟨_, rfl⟩
  have key : ∃ s : Rat, 0 < s ∧ s ≤ 1 / 3 ∧ s * D < η := by
    have D0 : 0 < D := by grind
    have i : D * D⁻¹ = 1 := Rat.mul_inv_cancel _ (by grind)
    have ip := Rat.inv_pos.2 D0
    have q := mpos (show 0 < η / 2 by grind) ip
    rcases (Rat.le_total : η / 2 * D⁻¹ ≤ 1 / 3 ∨ 1 / 3 ≤ η / 2 * D⁻¹) with k | k
    · have e2 : η / 2 * D⁻¹ * D = η / 2 := by rw [Rat.mul_assoc, Rat.mul_comm D⁻¹ D, i, Rat.mul_one]
      exact ⟨η / 2 * D⁻¹, q, k, by rw [e2]; clear hf e1 hD; grind⟩
    · have e2 : η / 2 * D⁻¹ * D = η / 2 := by rw [Rat.mul_assoc, Rat.mul_comm D⁻¹ D, i, Rat.mul_one]
      clear hf e1 hD
      have := mnn (show 0 ≤ η / 2 * D⁻¹ - 1 / 3 by grind) (show 0 ≤ D by grind)
      exact ⟨1 / 3, by grind, by grind, by grind⟩
  obtain ⟨s, s0, s1, s2⟩ := key
  obtain ⟨q, hq⟩ : ∃ q : Q2, q = (b.1 + s * (a.1 - b.1) + s * (c.1 - b.1), b.2 + s * (a.2 - b.2) + s * (c.2 - b.2)) := ⟨_, rfl⟩
  have j1 : jc a b q = s * jc a b c := by rw [hq]; unfold jc; grind
  have j2 : jc b c q = s * jc a b c := by rw [hq]; unfold jc; grind
  have j3 : jc c a q = (1 - 2 * s) * jc a b c := by rw [hq]; unfold jc; grind
  have p1 : 0 < jc a b q := by rw [j1]; exact mpos s0 h
  have p2 : 0 < jc b c q := by rw [j2]; exact mpos s0 h
  have p3 : 0 < jc c a q := by rw [j3]; exact mpos (by grind) h
  have fq : fl α β q = fl α β b + s * D := by rw [hq, hD]; unfold fl; grind
  have lo : ∀ p ∈ c :: (mid ++ [a]), fl α β q < fl α β p := fun p hp => by have := e1 p hp; grind
  refine ⟨q, fun e he o => ?_, ?_⟩
  · rw [eds_at] at he
    simp only [List.mem_cons, List.mem_append, List.not_mem_nil, or_false] at he
    rcases he with rfl | he | rfl
    · have := (on_iff.1 o).1; simp only at this; grind
    · have m := pe_ends he
      have l1 := lo e.1 (by have := m.1; simp only [List.mem_cons, List.mem_append] at this ⊢; grind)
      have l2 := lo e.2 (by have := m.2; simp only [List.mem_cons, List.mem_append] at this ⊢; grind)
      obtain ⟨t, t0, t1, k⟩ := o
      have := lin_lt t0 t1 l1 l2
      rw [← fl_lerp, ← k] at this
      grind
    · have := (on_iff.1 o).1; simp only at this; grind
  · rw [wn_cut, tri_in p1 p2 p3, wn_sep lo]
    rfl
theorem arg_max (f : Q2 → Rat) : ∀ l : List Q2, l ≠ [] → ∃ z ∈ l, ∀ p ∈ l, f p ≤ f z
  | [], h => absurd rfl h
  | [a], _ => ⟨a, by simp, fun p hp => by simp at hp; rw [hp]; grind⟩
  | a :: b :: l, _ => by
    obtain ⟨z, h1, h2⟩ := arg_max f (b :: l) (by simp)
    rcases (Rat.le_total : f a ≤ f z ∨ f z ≤ f a) with k | k
    · refine ⟨z, List.mem_cons_of_mem _ h1, fun p hp => ?_⟩
      rcases List.mem_cons.1 hp with rfl | hp
      · exact k
      · exact h2 p hp
    · refine ⟨a, by simp, fun p hp => ?_⟩
      rcases List.mem_cons.1 hp with rfl | hp
      · grind
      · have := h2 p hp; grind
theorem arg_maxP (f : Q2 → Rat) (p : Q2 → Prop) (l : List Q2) (h : ∃ x ∈ l, p x) : ∃ z ∈ l, p z ∧ ∀ x ∈ l, p x → f x ≤ f z := by
  classical
  obtain ⟨x, hx, px⟩ := h
  obtain ⟨z, h1, h2⟩ := arg_max f (l.filter (fun x => decide (p x))) (by intro e; have : x ∈ l.filter (fun x => decide (p x)) := by simp [hx, px]
                                                                         rw [e] at this; simp at this)
  have := List.mem_filter.1 h1
  exact ⟨z, this.1, of_decide_eq_true this.2, fun y hy py => h2 y (List.mem_filter.2 ⟨hy, decide_eq_true py⟩)⟩
/-- From a corner to the corner in its triangle that is farthest off the third side nothing is met. -/
theorem diag_free {b c : Q2} {mid : List Q2} {a z : Q2} (S : SimJ (b :: c :: (mid ++ [a]))) (h : 0 < jc a b c) (hz : z ∈ mid) (iz : InC a b c z) (hmax : ∀ p ∈ mid, InC a b c p → jc c a p ≤ jc c a z) :
    0 < jc a b z ∧ 0 < jc b c z ∧ ∀ e ∈ eds (b :: c :: (mid ++ [a])), ∀ x, OnJ e.1 e.2 x → OnJ b z x → x = b ∨ x = z := by
  obtain ⟨n1, n2, n3, n4, n5, n6, n7⟩ := nd_at S.nd
  have E1 : (a, b) ∈ eds (b :: c :: (mid ++ [a])) := by rw [eds_at]; simp
  have E2 : (b, c) ∈ eds (b :: c :: (mid ++ [a])) := by rw [eds_at]; simp
  have za : z ≠ a := fun k => n6 (k ▸ hz)
  have zb : z ≠ b := fun k => n2 (k ▸ hz)
  have zc : z ≠ c := fun k => n4 (k ▸ hz)
  have zP : z ∈ b :: c :: (mid ++ [a]) := by simp [hz]
  have z1 : 0 < jc a b z := by
    false_or_by_contra
    rcases S.corner zP E1 (on_ab h (by have := iz.p; grind) iz.q iz.r) with k | k
    · exact za k
    · exact zb k
  have z2 : 0 < jc b c z := by
    false_or_by_contra
    rcases S.corner zP E2 (on_bc h (by have := iz.q; grind) iz.p iz.r) with k | k
    · exact zb k
    · exact zc k
  have hs := jc_three a b c z
  refine ⟨z1, z2, ?_⟩
  rintro e he x ho ⟨t, t0, t1, rfl⟩
  have tb : t = 0 → lerp b z t = b := fun k => by rw [k]; unfold lerp; apply Prod.ext <;> simp only <;> grind
  have tz : t = 1 → lerp b z t = z := fun k => by rw [k]; unfold lerp; apply Prod.ext <;> simp only <;> grind
  have he' := he
  rw [eds_at] at he
  simp only [List.mem_cons, List.mem_append, List.not_mem_nil, or_false] at he
  rcases he with rfl | he | rfl
  · left
    apply tb
    have k := (on_iff.1 ho).1
    simp only at k
    rw [jc_lerp, jc_aa] at k
    false_or_by_contra
    have := mpos (show 0 < t by grind) z2
    grind
  · obtain ⟨u, v⟩ := e
    have ends := pe_ends he
    simp only at ends ho
    have uE : u = c ∨ u ∈ mid := List.mem_cons.1 ends.1
    have vE : v ∈ mid ∨ v = a := by have := List.mem_append.1 ends.2; simpa using this
    have ub : u ≠ b := fun k => by rw [k] at uE; exact uE.elim n1 n2
    have vb : v ≠ b := fun k => by rw [k] at vE; exact vE.elim n2 n3
    by_cases t0' : t = 0
    · exact .inl (tb t0')
    · by_cases t1' : t = 1
      · exact .inr (tz t1')
      · exfalso
        have ix : InC a b c (lerp b z t) := (inC_b h).lerp iz t0 t1
        have gx : jc c a z < jc c a (lerp b z t) := by
          have eb : jc c a b = jc a b c := by unfold jc; grind
          rw [jc_lerp, eb]
          have := mpos (show 0 < 1 - t by grind) (show 0 < jc a b c - jc c a z by grind)
          grind
        have gz := iz.r
        have far : ∀ w, OnJ u v w → (w = c ∨ w = a ∨ w ∈ mid) → jc c a (lerp b z t) ≤ jc c a w → False := fun w ow wE gw => by
          have nw : ¬ InC a b c w := fun k => by
            rcases wE with rfl | rfl | k2
            · rw [jc_aa] at gw; grind
            · rw [jc_ab] at gw; grind
            · have := hmax w k2 k; grind
          obtain ⟨s, s0, s1, k⟩ := leave h ix (by grind) nw
          have oy := on_on ho ow s0 s1
          have gy : jc c a z < jc c a (lerp (lerp b z t) w s) := by rw [jc_lerp]; exact lin_lt s0 s1 gx (by grind)
          rcases k with k | k
          · have := S.cr (u, v) he' (a, b) E1 (by intro e; simp only [Prod.mk.injEq] at e; exact vb e.2) _ oy k
            simp only at this
            rcases this.2 with k2 | k2
            · rw [k2, jc_ab] at gy; grind
            · rw [k2] at this; grind
          · have := S.cr (u, v) he' (b, c) E2 (by intro e; simp only [Prod.mk.injEq] at e; exact ub e.1) _ oy k
            simp only at this
            rcases this.2 with k2 | k2
            · rw [k2] at this; grind
            · rw [k2, jc_aa] at gy; grind
        obtain ⟨s, s0, s1, k⟩ := ho
        have gl : jc c a (lerp b z t) = (1 - s) * jc c a u + s * jc c a v := by rw [k, jc_lerp]
        by_cases c1 : jc c a (lerp b z t) ≤ jc c a u
        · exact far u (on_fst u v) (by rcases uE with k | k; exact .inl k; exact .inr (.inr k)) c1
        · by_cases c2 : jc c a (lerp b z t) ≤ jc c a v
          · exact far v (on_snd u v) (by rcases vE with k | k; exact .inr (.inr k); exact .inr (.inl k)) c2
          · have := lin_lt s0 s1 (show -jc c a (lerp b z t) < -jc c a u by grind) (show -jc c a (lerp b z t) < -jc c a v by grind)
            grind
  · left
    apply tb
    have k := (on_iff.1 ho).1
    simp only at k
    rw [jc_lerp, jc_ab] at k
    false_or_by_contra
    have := mpos (show 0 < t by grind) z1
    grind
theorem ab_bd (x y z w t : Rat) (t0 : 0 ≤ t) (t1 : t ≤ 1) : -(ab x + ab y + ab z + ab w) ≤ (1 - t) * x + t * y ∧ (1 - t) * x + t * y ≤ ab x + ab y + ab z + ab w := by
  have a1 := ab_le x
  have a2 := ab_le y
  have n1 := ab_nn x
  have n2 := ab_nn y
  have n3 := ab_nn z
  have n4 := ab_nn w
  have m1 := mnn (show 0 ≤ 1 - t by grind) (show 0 ≤ ab x - x by grind)
  have m2 := mnn (show 0 ≤ 1 - t by grind) (show 0 ≤ ab x + x by grind)
  have m3 := mnn t0 (show 0 ≤ ab y - y by grind)
  have m4 := mnn t0 (show 0 ≤ ab y + y by grind)
  have m5 := mnn t0 n1
  have m6 := mnn (show 0 ≤ 1 - t by grind) n2
  grind
/-- Beside an outermost corner, behind one of its segments, nothing is gone round. -/
theorem beside {Q : List Q2} {b z y k : Q2} {s α β : Rat} (hE : ∀ e ∈ eds Q, e = (b, z) ∨ e = (z, b) ∨ e = (b, y) ∨ e = (y, b) ∨ ¬ OnJ e.1 e.2 b)
    (hf : ∀ p ∈ Q, fl α β b ≤ fl α β p) (fy : fl α β b < fl α β y) (s1 : 0 < s * jc b z k) (s2 : s * jc b z y < 0)
    (hk : ∀ e ∈ eds Q, ∀ x, OnJ e.1 e.2 x → OnJ b k x → x = b) : wn Q k = 0 := by
  classical
  obtain ⟨ε, e0, e1⟩ := near_all (m := b) ((eds Q).filter (fun e => decide (¬ OnJ e.1 e.2 b))) (fun e he => of_decide_eq_true (List.mem_filter.1 he).2)
  have e1' : ∀ x, Nr ε b x → ∀ e ∈ eds Q, ¬ OnJ e.1 e.2 b → ¬ OnJ e.1 e.2 x := fun x n e he ne => e1 x n e (List.mem_filter.2 ⟨he, decide_eq_true ne⟩)
  obtain ⟨K, hK⟩ : ∃ K, K = ab (k.1 - b.1) + ab (b.1 - y.1) + ab (k.2 - b.2) + ab (b.2 - y.2) := ⟨_, rfl⟩
  have K0 : 0 ≤ K := by have := ab_nn (k.1 - b.1); have := ab_nn (b.1 - y.1); have := ab_nn (k.2 - b.2); have := ab_nn (b.2 - y.2); grind
  obtain ⟨δ, d0, d1, dn⟩ := near_step (K := K) e0 K0
  obtain ⟨k', hk'⟩ : ∃ k' : Q2, k' = (b.1 + δ * (k.1 - b.1), b.2 + δ * (k.2 - b.2)) := ⟨_, rfl⟩
  obtain ⟨b', hb'⟩ : ∃ b' : Q2, b' = (b.1 + δ * (b.1 - y.1), b.2 + δ * (b.2 - y.2)) := ⟨_, rfl⟩
  have seg : ∀ t, 0 ≤ t → t ≤ 1 → Nr ε b (lerp k' b' t) := fun t t0 t1 => by
    have x1 := ab_bd (k.1 - b.1) (b.1 - y.1) (k.2 - b.2) (b.2 - y.2) t t0 t1
    have x2 := ab_bd (k.2 - b.2) (b.2 - y.2) (k.1 - b.1) (b.1 - y.1) t t0 t1
    have := dn b ((1 - t) * (k.1 - b.1) + t * (b.1 - y.1), (1 - t) * (k.2 - b.2) + t * (b.2 - y.2)) (by simp only; grind) (by simp only; grind) (by simp only; grind) (by simp only; grind) δ (by grind) (by grind)
    have e : lerp k' b' t = (b.1 + δ * ((1 - t) * (k.1 - b.1) + t * (b.1 - y.1)), b.2 + δ * ((1 - t) * (k.2 - b.2) + t * (b.2 - y.2))) := by
      rw [hk', hb']; unfold lerp; apply Prod.ext <;> simp only <;> grind
    rw [e]; exact this
  have sg : ∀ t, 0 ≤ t → t ≤ 1 → 0 < s * jc b z (lerp k' b' t) := fun t t0 t1 => by
    have e : s * jc b z (lerp k' b' t) = δ * ((1 - t) * (s * jc b z k) + t * (-(s * jc b z y))) := by
      rw [hk', hb']; unfold lerp jc; grind
    rw [e]
    exact mpos d0 (pos_lin t0 t1 s1 (by grind))
  have A : wn Q k' = wn Q b' := by
    apply wn_const
    rintro e he ⟨x, o, t, t0, t1, rfl⟩
    have p := sg t t0 t1
    rcases hE e he with rfl | rfl | rfl | rfl | k5
    · rw [(on_iff.1 o).1] at p; grind
    · have z1 : jc b z (lerp k' b' t) = 0 := (on_iff.1 (on_swap o)).1
      rw [z1] at p; grind
    · obtain ⟨r, r0, r1, k6⟩ := o
      rw [k6, jc_lerp, jc_aa] at p
      have := mnn r0 (show 0 ≤ -(s * jc b z y) by grind)
      grind
    · obtain ⟨r, r0, r1, k6⟩ := on_swap o
      rw [k6, jc_lerp, jc_aa] at p
      have := mnn r0 (show 0 ≤ -(s * jc b z y) by grind)
      grind
    · exact e1' _ (seg t t0 t1) e he k5 o
  have B : wn Q b' = 0 := by
    apply wn_sep (α := α) (β := β)
    intro p hp
    have := hf p hp
    have e : fl α β b' = fl α β b - δ * (fl α β y - fl α β b) := by rw [hb']; unfold fl; grind
    have := mpos d0 (show 0 < fl α β y - fl α β b by grind)
    grind
  have C : wn Q k' = wn Q k := by
    apply wn_const
    rintro e he ⟨x, o, t, t0, t1, rfl⟩
    have u := lin2 t0 t1 (show 0 ≤ δ by grind) (show (0 : Rat) ≤ 1 by grind)
    have u2 : (1 - t) * δ + t * 1 ≤ 1 := by have := mnn (show 0 ≤ 1 - t by grind) (show 0 ≤ 1 - δ by grind); grind
    have u3 : 0 < (1 - t) * δ + t * 1 := lin_lt t0 t1 d0 (by grind)
    have e2 : lerp k' k t = lerp b k ((1 - t) * δ + t * 1) := by rw [hk']; unfold lerp; apply Prod.ext <;> simp only <;> grind
    have := hk e he _ o ⟨_, u, u2, e2⟩
    rw [e2] at this
    have z1 : jc b z (lerp b k ((1 - t) * δ + t * 1)) = 0 := by rw [this, jc_aa]
    rw [jc_lerp, jc_aa] at z1
    have p := mpos u3 s1
    have q : ((1 - t) * δ + t * 1) * (s * jc b z k) = s * ((1 - ((1 - t) * δ + t * 1)) * 0 + ((1 - t) * δ + t * 1) * jc b z k) := by generalize jc b z k = J; grind
    rw [z1] at q
    rw [q] at p
    exact absurd p (by grind)
  omega
theorem apart {P : List Q2} (S : SimJ P) {e e' : Q2 × Q2} (he : e ∈ eds P) (he' : e' ∈ eds P) (h1 : e.1 ≠ e'.1) (h2 : e.1 ≠ e'.2) (h3 : e.2 ≠ e'.1) (h4 : e.2 ≠ e'.2) : ¬ MeetJ e'.1 e'.2 e.1 e.2 := by
  rintro ⟨x, o, o'⟩
  have := S.cr e he e' he' (by intro k; rw [k] at h1; exact h1 rfl) x o' o
  grind
theorem apart_diag {P : List Q2} {b z : Q2} (S : SimJ P) (df : ∀ e ∈ eds P, ∀ x, OnJ e.1 e.2 x → OnJ b z x → x = b ∨ x = z) (hb : b ∈ P) (hz : z ∈ P) {e : Q2 × Q2} (he : e ∈ eds P) (h1 : e.1 ≠ b) (h2 : e.1 ≠ z) (h3 : e.2 ≠ b) (h4 : e.2 ≠ z) : ¬ MeetJ b z e.1 e.2 := by
  rintro ⟨x, o, o'⟩
  rcases df e he x o' o with rfl | rfl
  · have := S.corner hb he o'; grind
  · have := S.corner hz he o'; grind
theorem chain_last {Q : List Q2} : ∀ (l : List Q2) (h a : Q2), (∀ e ∈ pe h (l ++ [a]), ∀ e' ∈ eds Q, ¬ MeetJ e'.1 e'.2 e.1 e.2) → wn Q a = 0 → ∀ p ∈ h :: (l ++ [a]), wn Q p = 0
  | [], h, a, H, ha, p, hp => by
    have k : wn Q h = wn Q a := wn_const (fun e' he' => H (h, a) (by simp [pe]) e' he')
    simp at hp
    rcases hp with rfl | rfl
    · omega
    · exact ha
  | c :: l, h, a, H, ha, p, hp => by
    have ih := chain_last l c a (fun e he => H e (by simp only [List.cons_append, pe, List.mem_cons]; exact .inr he)) ha
    have k : wn Q h = wn Q c := wn_const (fun e' he' => H (h, c) (by simp [pe]) e' he')
    rcases List.mem_cons.1 hp with rfl | hp
    · rw [k]; exact ih c (by simp)
    · exact ih p hp
theorem chain_first {Q : List Q2} : ∀ (l : List Q2) (h : Q2), (∀ e ∈ pe h l, ∀ e' ∈ eds Q, ¬ MeetJ e'.1 e'.2 e.1 e.2) → wn Q h = 0 → ∀ p ∈ h :: l, wn Q p = 0
  | [], h, H, ha, p, hp => by simp at hp; rw [hp]; exact ha
  | c :: l, h, H, ha, p, hp => by
    have k : wn Q h = wn Q c := wn_const (fun e' he' => H (h, c) (by simp [pe]) e' he')
    have ih := chain_first l c (fun e he => H e (by simp only [pe, List.mem_cons]; exact .inr he)) (by omega)
    rcases List.mem_cons.1 hp with rfl | hp
    · exact ha
    · exact ih p hp
/-- An ear of a way that turns left. -/
structure EarP (P : List Q2) (a b c : Q2) : Prop where
  e1 : (a, b) ∈ eds P
  e2 : (b, c) ∈ eds P
  pos : 0 < jc a b c
  emp : ∀ p ∈ P, p ≠ a → p ≠ b → p ≠ c → ¬ InC a b c p
/-- Two ears that are not next to each other. -/
def Two (P : List Q2) : Prop := ∃ a b c a' b' c', EarP P a b c ∧ EarP P a' b' c' ∧ b ≠ b' ∧ (b, b') ∉ eds P ∧ (b', b) ∉ eds P
/-- Once round what is within, no time round what isn't; ears. -/
structure Pos (P : List Q2) : Prop where
  num : ∀ q, Off P q → wn P q = 0 ∨ wn P q = 1
  two : 4 ≤ P.length → Two P
  tri : P.length = 3 → ∀ x y w, (x, y) ∈ eds P → (y, w) ∈ eds P → 0 < jc x y w
theorem EarP.same {P P' : List Q2} {a b c : Q2} (s : Same P P') (h : EarP P a b c) : EarP P' a b c :=
  ⟨(s.ed _).2 h.e1, (s.ed _).2 h.e2, h.pos, fun p hp => h.emp p ((s.mem p).1 hp)⟩
theorem Same.symm {P P' : List Q2} (s : Same P P') : Same P' P := ⟨fun p => (s.mem p).symm, fun e => (s.ed e).symm, fun q => (s.wn q).symm, s.len.symm, s.nd.symm⟩
theorem Pos.same {P P' : List Q2} (s : Same P P') (h : Pos P) : Pos P' := by
  refine ⟨fun q o => ?_, fun l => ?_, fun l x y w h1 h2 => h.tri (by rw [← s.len]; exact l) x y w ((s.ed _).1 h1) ((s.ed _).1 h2)⟩
  · rw [s.wn]; exact h.num q (o.same s.symm)
  · obtain ⟨a, b, c, a', b', c', h1, h2, h3, h4, h5⟩ := h.two (by rw [← s.len]; exact l)
    exact ⟨a, b, c, a', b', c', h1.same s, h2.same s, h3, fun k => h4 ((s.ed _).1 k), fun k => h5 ((s.ed _).1 k)⟩
theorem Same.rv {P P' : List Q2} (s : Same P P') : Same (rv P) (rv P') :=
  ⟨fun p => by rw [mem_rv, mem_rv]; exact s.mem p, fun ⟨u, v⟩ => by rw [ed_rev, ed_rev]; exact s.ed _, fun q => by rw [wn_rev, wn_rev, s.wn], by rw [len_rv, len_rv]; exact s.len,
   ⟨fun k => nd_rv (s.nd.1 (by have := nd_rv k; rwa [rv_rv] at this)), fun k => nd_rv (s.nd.2 (by have := nd_rv k; rwa [rv_rv] at this))⟩⟩
/-- A way with a given corner first. -/
theorem ear_form {P : List Q2} (S : SimJ P) {a b c : Q2} (h1 : (a, b) ∈ eds P) (h2 : (b, c) ∈ eds P) : ∃ mid, Same P (b :: c :: (mid ++ [a])) := by
  obtain ⟨l, s⟩ := rot_to (ed_mem h2).1
  have n3 := (S.same s).n3
  match l, s with
  | [], s => simp at n3
  | [x], s => simp at n3
  | c' :: x :: l, s =>
    obtain ⟨mid, a', e⟩ : ∃ mid a', x :: l = mid ++ [a'] := ⟨(x :: l).dropLast, (x :: l).getLast (by simp), (List.dropLast_concat_getLast (by simp)).symm⟩
    rw [e] at s
    obtain ⟨n1, n2, n3, n4, n5, n6, n7⟩ := nd_at (S.same s).nd
    have g1 := (s.ed _).2 h1
    have g2 := (s.ed _).2 h2
    rw [eds_at] at g1 g2
    simp only [List.mem_cons, List.mem_append, List.not_mem_nil, or_false, Prod.mk.injEq] at g1 g2
    have ec : c = c' := by
      rcases g2 with k | k | k
      · exact k.2
      · have := List.mem_cons.1 (pe_ends k).1
        exact absurd this (fun k => k.elim n1 n2)
      · exact absurd k.1 n3
    have ea : a = a' := by
      rcases g1 with k | k | k
      · exact absurd k.2 n1
      · have := List.mem_append.1 (pe_ends k).2
        exact absurd this (fun k => k.elim n2 (fun h => n3 (List.mem_singleton.1 h)))
      · exact k.1
    subst ec ea
    exact ⟨mid, s⟩
theorem len3 : ∀ Q : List Q2, Q.length = 3 → ∃ x y w, Q = [x, y, w]
  | [], h => by simp at h
  | [_], h => by simp at h
  | [_, _], h => by simp at h
  | [x, y, w], _ => ⟨x, y, w, rfl⟩
  | _ :: _ :: _ :: _ :: _, h => by simp at h
theorem fl_in {x e y p : Q2} (h : 0 < jc x e y) (i : InC x e y p) {α β z : Rat} (h1 : z < fl α β x) (h2 : z < fl α β e) (h3 : z < fl α β y) : z < fl α β p := by
  have s := jc_three x e y p
  have k : jc x e y * fl α β p = jc e y p * fl α β x + jc y x p * fl α β e + jc x e p * fl α β y := by unfold jc fl; grind
  have m1 := mnn i.q (show 0 ≤ fl α β x - z by grind)
  have m2 := mnn i.r (show 0 ≤ fl α β e - z by grind)
  have m3 := mnn i.p (show 0 ≤ fl α β y - z by grind)
  have e1 : jc x e y * (fl α β p - z) = jc e y p * (fl α β x - z) + jc y x p * (fl α β e - z) + jc x e p * (fl α β y - z) := by
    generalize jc x e y = J at *; generalize jc e y p = A at *; generalize jc y x p = B at *; generalize jc x e p = C at *
    generalize fl α β p = F at *; generalize fl α β x = X at *; generalize fl α β e = E at *; generalize fl α β y = Y at *
    subst s; grind
  have nn : 0 ≤ fl α β p - z := nn_of h (by rw [e1]; grind)
  false_or_by_contra
  have z0 : fl α β p - z = 0 := by grind
  rw [z0] at e1
  have q1 : jc e y p = 0 := by
    have := np_of (x := fl α β x - z) (y := jc e y p) (by grind) (by grind)
    have := i.q; grind
  have q2 : jc y x p = 0 := by
    have := np_of (x := fl α β e - z) (y := jc y x p) (by grind) (by grind)
    have := i.r; grind
  have q3 : jc x e p = 0 := by
    have := np_of (x := fl α β y - z) (y := jc x e p) (by grind) (by grind)
    have := i.p; grind
  grind
/-- In a triangle that is a whole way. -/
theorem tri_num {a b c q : Q2} (h : 0 < jc a b c) (o1 : ¬ OnJ a b q) (o2 : ¬ OnJ b c q) (o3 : ¬ OnJ c a q) : (InC a b c q → wn [a, b, c] q = 1) ∧ (¬ InC a b c q → wn [a, b, c] q = 0) := by
  constructor
  · intro i
    refine tri_in ?_ ?_ ?_
    · false_or_by_contra; exact o1 (on_ab h (by have := i.p; grind) i.q i.r)
    · false_or_by_contra; exact o2 (on_bc h (by have := i.q; grind) i.p i.r)
    · false_or_by_contra; exact o3 (on_ca h (by have := i.r; grind) i.p i.q)
  · intro i
    apply tri_out h
    false_or_by_contra
    exact i ⟨by grind, by grind, by grind⟩
/-- A part's ear, away from the cut, is an ear of the whole. -/
theorem part_ear {P Q : List Q2} {b z : Q2} (SQ : SimJ Q) (JQ : Pos Q) (one : ∃ q, Off Q q ∧ wn Q q = 1)
    (IH : ∀ R : List Q2, R.length < Q.length → SimJ R → ∃ σ : Int, (σ = 1 ∨ σ = -1) ∧ ∀ q, Off R q → wn R q = 0 ∨ wn R q = σ)
    (hE : ∀ e ∈ eds Q, e ∈ eds P ∨ e = (z, b) ∨ e = (b, z)) (zb : (z, b) ∈ eds Q ∨ (b, z) ∈ eds Q)
    (hout : ∀ p ∈ P, p ∉ Q → Off Q p ∧ wn Q p = 0) : ∃ u e v, e ∈ Q ∧ e ≠ b ∧ e ≠ z ∧ EarP P u e v := by
  have keep : ∀ u e v, e ≠ b → e ≠ z → EarP Q u e v → (∀ p, Off Q p → InC u e v p → wn Q p = 1) → ∃ u e v, e ∈ Q ∧ e ≠ b ∧ e ≠ z ∧ EarP P u e v := fun u e v nb nz E W => by
    refine ⟨u, e, v, (ed_mem E.e2).1, nb, nz, ?_, ?_, E.pos, ?_⟩
    · rcases hE _ E.e1 with k | k | k
      · exact k
      · simp only [Prod.mk.injEq] at k; exact absurd k.2 nb
      · simp only [Prod.mk.injEq] at k; exact absurd k.2 nz
    · rcases hE _ E.e2 with k | k | k
      · exact k
      · simp only [Prod.mk.injEq] at k; exact absurd k.1 nz
      · simp only [Prod.mk.injEq] at k; exact absurd k.1 nb
    · intro p hp n1 n2 n3 i
      by_cases hq : p ∈ Q
      · exact E.emp p hq n1 n2 n3 i
      · have h := hout p hp hq
        have := W p h.1 i
        omega
  have n3 := SQ.n3
  by_cases n4 : 4 ≤ Q.length
  · have fin : ∀ u e v, e ≠ b → e ≠ z → EarP Q u e v → ∃ u e v, e ∈ Q ∧ e ≠ b ∧ e ≠ z ∧ EarP P u e v := fun u e v nb nz E => by
      refine keep u e v nb nz E ?_
      obtain ⟨mid, s⟩ := ear_form SQ E.e1 E.e2
      have S' := SQ.same s
      have hm : mid ≠ [] := by
        rintro rfl
        have := s.len
        simp at this
        omega
      obtain ⟨m1, m2, m3, m4, m5, m6, m7⟩ := nd_at S'.nd
      have he : ∀ p ∈ mid, ¬ InC u e v p := fun p hp => E.emp p ((s.mem p).1 (by simp [hp])) (fun k => m6 (k ▸ hp)) (fun k => m2 (k ▸ hp)) (fun k => m4 (k ▸ hp))
      obtain ⟨σ, hσ, J⟩ := IH (v :: (mid ++ [u])) (by have := s.len; simp only [List.length_cons] at this ⊢; omega) (cut_simple S' E.pos hm he)
      rcases cut_round S' E.pos hm he hσ J with ⟨_, _, A⟩ | ⟨_, B⟩
      · intro p o i
        rw [← s.wn]
        exact A p (o.same s) i
      · obtain ⟨q, oq, wq⟩ := one
        have := B q (oq.same s)
        rw [s.wn] at this
        omega
    obtain ⟨a1, b1, c1, a2, b2, c2, E1, E2, hne, h4, h5⟩ := JQ.two n4
    by_cases k1 : b1 = b ∨ b1 = z
    · by_cases k2 : b2 = b ∨ b2 = z
      · exfalso
        rcases k1 with rfl | rfl <;> rcases k2 with rfl | rfl
        · exact hne rfl
        · rcases zb with k | k; exact h5 k; exact h4 k
        · rcases zb with k | k; exact h4 k; exact h5 k
        · exact hne rfl
      · exact fin a2 b2 c2 (fun k => k2 (.inl k)) (fun k => k2 (.inr k)) E2
    · exact fin a1 b1 c1 (fun k => k1 (.inl k)) (fun k => k1 (.inr k)) E1
  · obtain ⟨x, y, w, rfl⟩ := len3 Q (by omega)
    have T := JQ.tri rfl
    have nd := SQ.nd
    simp only [List.nodup_cons, List.mem_cons, List.not_mem_nil, or_false, not_or] at nd
    obtain ⟨⟨xy, xw⟩, yw, _⟩ := nd
    have ed : eds [x, y, w] = [(x, y), (y, w), (w, x)] := rfl
    have go : ∀ u e v, e ≠ b → e ≠ z → (u, e) ∈ eds [x, y, w] → (e, v) ∈ eds [x, y, w] → (∀ p ∈ [x, y, w], p = u ∨ p = e ∨ p = v) → (∀ q, wn [u, e, v] q = wn [x, y, w] q) → (v, u) ∈ eds [x, y, w] → ∃ u e v, e ∈ [x, y, w] ∧ e ≠ b ∧ e ≠ z ∧ EarP P u e v := fun u e v nb nz h1 h2 h3 h4 h5 => by
      refine keep u e v nb nz ⟨h1, h2, T _ _ _ h1 h2, fun p hp n1 n2 n3 => ?_⟩ (fun p o i => ?_)
      · rcases h3 p hp with k | k | k
        · exact absurd k n1
        · exact absurd k n2
        · exact absurd k n3
      · rw [← h4]
        exact (tri_num (T _ _ _ h1 h2) (o _ h1) (o _ h2) (o _ h5)).1 i
    have third : (z = x ∧ b = y ∨ z = y ∧ b = x) ∨ (z = y ∧ b = w ∨ z = w ∧ b = y) ∨ (z = w ∧ b = x ∨ z = x ∧ b = w) := by
      rw [ed] at zb
      simp only [List.mem_cons, List.not_mem_nil, or_false, Prod.mk.injEq] at zb
      grind
    rcases third with k | k | k
    · exact go y w x (by grind) (by grind) (by rw [ed]; simp) (by rw [ed]; simp) (fun p hp => by simp at hp; grind) (fun q => by rw [wn_tri, wn_tri]; omega) (by rw [ed]; simp)
    · exact go w x y (by grind) (by grind) (by rw [ed]; simp) (by rw [ed]; simp) (fun p hp => by simp at hp; grind) (fun q => by rw [wn_tri, wn_tri]; omega) (by rw [ed]; simp)
    · exact go x y w (by grind) (by grind) (by rw [ed]; simp) (by rw [ed]; simp) (fun p hp => by simp at hp; grind) (fun q => rfl) (by rw [ed]; simp)
end Go.Proofs.Yteconjkjpalomaa.Jor
