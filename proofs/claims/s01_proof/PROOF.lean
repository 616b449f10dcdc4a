import PyProof.Rows.All
import Wide.All
import OpenK.AllK
import Wide.FinOn
import PyProof.EqAt
import PyProof.EqKinds
import PyProof.TupleCall
import KE.BitLaws
import KE.OsGo
import Open.SpecLaws
import PyProof.EnumMake
import PyProof.ExcAttrAll.ValueError
import PyProof.ExcBaseAll.ValueError
import PyProof.ExcClass3
import PyProof.ExcInit
import PyProof.InstStoreFacts
import PyProof.Ns1
import PyProof.PassesOwn
import PyProof.Rows.CallKwBuiltin
import PyProof.RulesAs
import PyProof.StationsW
import PySem.Challenge.RW_surebounds_s01_answers
set_option Elab.async false
set_option linter.all false
set_option maxRecDepth 100000
section
namespace SbNet
open FtNet
/-- numbers that keep to all rows -/
def Sat (l : List Bound) (x : Nat → Int) : Prop := ∀ r, r ∈ l → x r.b - x r.a ≤ r.w
def Le (f : Far) (v : Int) : Prop := ∃ u, f = some u ∧ u ≤ v
def Ge (f : Far) (v : Int) : Prop := ∀ u, f = some u → v ≤ u
theorem Le.mono {f : Far} {u v : Int} (h : Le f u) (e : u ≤ v) : Le f v := by
  obtain ⟨z, h1, h2⟩ := h
  exact ⟨z, h1, by omega⟩
theorem Le.some_ {f : Far} {u : Int} (h : Le f u) : ∃ z, f = some z := by
  obtain ⟨z, h1, _⟩ := h
  exact ⟨z, h1⟩
theorem le_lesser_l {f g : Far} {v : Int} (h : Le f v) : Le (lesser f g) v := by
  obtain ⟨u, rfl, h2⟩ := h
  cases g with
  | none => exact ⟨u, rfl, h2⟩
  | some y => exact ⟨min u y, rfl, by omega⟩
theorem le_lesser_r {f g : Far} {v : Int} (h : Le g v) : Le (lesser f g) v := by
  obtain ⟨u, rfl, h2⟩ := h
  cases f with
  | none => exact ⟨u, rfl, h2⟩
  | some y => exact ⟨min y u, rfl, by omega⟩
theorem ge_lesser {f g : Far} {v : Int} (h1 : Ge f v) (h2 : Ge g v) : Ge (lesser f g) v := by
  intro u e
  cases f with
  | none =>
    cases g with
    | none => simp [lesser] at e
    | some y =>
      have := h2 y rfl
      simp [lesser] at e
      omega
  | some x =>
    have hx := h1 x rfl
    cases g with
    | none =>
      simp [lesser] at e
      omega
    | some y =>
      have := h2 y rfl
      simp [lesser] at e
      omega
theorem lesser_cases {f g : Far} {v : Int} (h : lesser f g = some v) : f = some v ∨ g = some v := by
  cases f with
  | none => exact .inr h
  | some x =>
    cases g with
    | none => exact .inl h
    | some y =>
      simp [lesser] at h
      by_cases c : x ≤ y
      · left
        rw [← h, Int.min_eq_left c]
      · right
        rw [← h, Int.min_eq_right (by omega)]
theorem plus_some {f g : Far} {v : Int} (h : plus f g = some v) : ∃ x y, f = some x ∧ g = some y ∧ v = x + y := by
  cases f with
  | none => simp [plus] at h
  | some x =>
    cases g with
    | none => simp [plus] at h
    | some y =>
      simp [plus] at h
      exact ⟨x, y, rfl, rfl, h.symm⟩
theorem le_plus {f g : Far} {u v : Int} (h1 : Le f u) (h2 : Le g v) : Le (plus f g) (u + v) := by
  obtain ⟨x, rfl, hx⟩ := h1
  obtain ⟨y, rfl, hy⟩ := h2
  exact ⟨x + y, rfl, by omega⟩
/-! the table -/
theorem ix_div {n a b : Nat} (hb : b < n) : (a * n + b) / n = a := by
  have : 0 < n := by omega
  rw [Nat.mul_comm, Nat.mul_add_div this, Nat.div_eq_of_lt hb]
  rfl
theorem ix_mod {n a b : Nat} (hb : b < n) : (a * n + b) % n = b := by
  rw [Nat.mul_comm, Nat.mul_add_mod, Nat.mod_eq_of_lt hb]
theorem ix_lt {n a b : Nat} (ha : a < n) (hb : b < n) : a * n + b < n * n := by
  have : (a + 1) * n ≤ n * n := Nat.mul_le_mul_right n ha
  rw [Nat.add_mul] at this
  omega
theorem ix_inj {n a b c d : Nat} (hb : b < n) (hd : d < n) (h : a * n + b = c * n + d) : a = c ∧ b = d := by
  have e1 := ix_div (a := a) hb
  have e2 := ix_mod (a := a) hb
  rw [h, ix_div hd] at e1
  rw [h, ix_mod hd] at e2
  exact ⟨e1.symm, e2.symm⟩
theorem at_map {n a b : Nat} (ha : a < n) (hb : b < n) (f : Nat → Far) : Table.at_ ((Array.range (n * n)).map f) n a b = f (a * n + b) := by
  unfold Table.at_
  have h := ix_lt ha hb
  rw [Array.getD_eq_getD_getElem?, Array.getElem?_map, Array.getElem?_range, if_pos h]
  rfl
theorem at_over {n a b k : Nat} (ha : a < n) (hb : b < n) (t : Table) : Table.at_ (over n t k) n a b = lesser (Table.at_ t n a b) (plus (Table.at_ t n a k) (Table.at_ t n k b)) := by
  unfold over
  rw [at_map ha hb]
  simp only [ix_div hb, ix_mod hb]
structure Fst (n : Nat) (l : List Bound) (t : Table) : Prop where
  size : t.size = n * n
  diag : ∀ a, a < n → Le (Table.at_ t n a a) 0
  row : ∀ r, r ∈ l → Le (Table.at_ t n r.a r.b) r.w
def Above (n : Nat) (t : Table) (x : Nat → Int) : Prop := ∀ a b, a < n → b < n → Ge (Table.at_ t n a b) (x b - x a)
def put1 (n : Nat) (t : Table) (x : Bound) : Table := t.setIfInBounds (x.a * n + x.b) (lesser (Table.at_ t n x.a x.b) (some x.w))
theorem at_put1 {n a b : Nat} {t : Table} {x : Bound} (hs : t.size = n * n) (ha : a < n) (hb : b < n) (hxb : x.b < n) :
    Table.at_ (put1 n t x) n a b = if a = x.a ∧ b = x.b then lesser (Table.at_ t n x.a x.b) (some x.w) else Table.at_ t n a b := by
  have h := ix_lt ha hb
  show (put1 n t x).getD (a * n + b) none = _
  unfold put1
  rw [Array.getD_eq_getD_getElem?, Array.getElem?_setIfInBounds]
  by_cases c : a = x.a ∧ b = x.b
  · obtain ⟨rfl, rfl⟩ := c
    rw [if_pos rfl, if_pos (by rw [hs]; exact h), if_pos ⟨rfl, rfl⟩]
    rfl
  · rw [if_neg c, if_neg, ← Array.getD_eq_getD_getElem?]
    · rfl
    · intro e
      obtain ⟨e1, e2⟩ := ix_inj hxb hb e
      exact c ⟨e1.symm, e2.symm⟩
theorem put1_size {n : Nat} {t : Table} {x : Bound} : (put1 n t x).size = t.size := by
  unfold put1
  exact Array.size_setIfInBounds
theorem fold_first {n : Nat} : ∀ (l done : List Bound) (t : Table), (∀ r, r ∈ l → r.a < n ∧ r.b < n) → (∀ r, r ∈ done → r.a < n ∧ r.b < n) → Fst n done t → Fst n (done ++ l) (l.foldl (put1 n) t)
  | [], done, t, _, _, h => by simpa using h
  | x :: l, done, t, hl, hd, h => by
    have hx := hl x (List.mem_cons_self ..)
    have h1 : Fst n (done ++ [x]) (put1 n t x) := by
      refine ⟨by rw [put1_size]; exact h.size, fun a ha => ?_, fun r hr => ?_⟩
      · rw [at_put1 h.size ha ha hx.2]
        split
        · rename_i c
          rw [← c.1, ← c.2]
          exact le_lesser_l (h.diag a ha)
        · exact h.diag a ha
      · rcases List.mem_append.mp hr with hr | hr
        · have hb := hd r hr
          rw [at_put1 h.size hb.1 hb.2 hx.2]
          split
          · rename_i c
            rw [← c.1, ← c.2]
            exact le_lesser_l (h.row r hr)
          · exact h.row r hr
        · have e : r = x := by simpa using hr
          subst e
          rw [at_put1 h.size hx.1 hx.2 hx.2, if_pos ⟨rfl, rfl⟩]
          exact le_lesser_r ⟨_, rfl, Int.le_refl _⟩
    have h2 := fold_first l (done ++ [x]) (put1 n t x) (fun r hr => hl r (List.mem_cons_of_mem _ hr)) (fun r hr => by
      rcases List.mem_append.mp hr with hr | hr
      · exact hd r hr
      · have e : r = x := by simpa using hr
        subst e
        exact hx) h1
    rw [List.foldl_cons]
    simpa using h2
theorem first_fst {n : Nat} {l : List Bound} (hl : ∀ r, r ∈ l → r.a < n ∧ r.b < n) : Fst n l (FtNet.first n l) := by
  have h := fold_first l [] ((Array.range (n * n)).map fun (k : Nat) => if k / n = k % n then some 0 else none) hl (by simp) ⟨by simp, fun a ha => by
    rw [at_map ha ha, ix_div ha, ix_mod ha, if_pos rfl]
    exact ⟨0, rfl, Int.le_refl _⟩, by simp⟩
  rw [List.nil_append] at h
  exact h
theorem fold_above {n : Nat} {x : Nat → Int} : ∀ (l : List Bound) (t : Table), t.size = n * n → (∀ r, r ∈ l → r.a < n ∧ r.b < n) → Sat l x → Above n t x → Above n (l.foldl (put1 n) t) x
  | [], t, _, _, _, h => h
  | y :: l, t, hs, hl, hx, h => by
    have hy := hl y (List.mem_cons_self ..)
    rw [List.foldl_cons]
    refine fold_above l (put1 n t y) (by rw [put1_size]; exact hs) (fun r hr => hl r (List.mem_cons_of_mem _ hr)) (fun r hr => hx r (List.mem_cons_of_mem _ hr)) fun a b ha hb => ?_
    rw [at_put1 hs ha hb hy.2]
    split
    · rename_i c
      rw [← c.1, ← c.2]
      refine ge_lesser (h a b ha hb) fun u e => ?_
      have := hx y (List.mem_cons_self ..)
      cases e
      rw [c.1, c.2]
      exact this
    · exact h a b ha hb
theorem first_above {n : Nat} {l : List Bound} {x : Nat → Int} (hl : ∀ r, r ∈ l → r.a < n ∧ r.b < n) (hx : Sat l x) : Above n (FtNet.first n l) x := by
  refine fold_above l _ (by simp) hl hx fun a b ha hb => ?_
  rw [at_map ha hb, ix_div hb, ix_mod hb]
  intro u e
  split at e
  · rename_i c
    subst c
    cases e
    omega
  · cases e
theorem over_above {n k : Nat} {t : Table} {x : Nat → Int} (hk : k < n) (h : Above n t x) : Above n (over n t k) x := by
  intro a b ha hb
  rw [at_over ha hb]
  refine ge_lesser (h a b ha hb) fun u e => ?_
  obtain ⟨y, z, e1, e2, rfl⟩ := plus_some e
  have h1 := h a k ha hk y e1
  have h2 := h k b hk hb z e2
  omega
def upTo (n : Nat) (t : Table) (k : Nat) : Table := (List.range k).foldl (over n) t
theorem upTo_succ {n k : Nat} {t : Table} : upTo n t (k + 1) = over n (upTo n t k) k := by
  unfold upTo
  rw [List.range_succ, List.foldl_append]
  rfl
theorem closed_eq (n : Nat) (l : List Bound) : closed n l = upTo n (FtNet.first n l) n := rfl
theorem upTo_above {n : Nat} {t : Table} {x : Nat → Int} (h : Above n t x) : ∀ k, k ≤ n → Above n (upTo n t k) x
  | 0, _ => h
  | k + 1, hk => by
    rw [upTo_succ]
    exact over_above (by omega) (upTo_above h k (by omega))
theorem over_le {n k a b : Nat} {t : Table} {v : Int} (ha : a < n) (hb : b < n) (h : Le (Table.at_ t n a b) v) : Le (Table.at_ (over n t k) n a b) v := by
  rw [at_over ha hb]
  exact le_lesser_l h
theorem upTo_le {n a b : Nat} {t : Table} {v : Int} (ha : a < n) (hb : b < n) (j : Nat) (h : Le (Table.at_ (upTo n t j) n a b) v) : ∀ d, Le (Table.at_ (upTo n t (j + d)) n a b) v
  | 0 => h
  | d + 1 => by
    rw [← Nat.add_assoc, upTo_succ]
    exact over_le ha hb (upTo_le ha hb j h d)
/-- no number is above itself -/
def Diag (n : Nat) (t : Table) : Prop := ∀ a, a < n → Ge (Table.at_ t n a a) 0
theorem none_false {n : Nat} {t : Table} : none_ n t = false ↔ Diag n t := by
  unfold none_ Diag
  rw [List.any_eq_false]
  constructor
  · intro h a ha u e
    have := h a (List.mem_range.mpr ha)
    rw [e] at this
    simp at this
    omega
  · intro h a ha
    have := h a (List.mem_range.mp ha)
    split
    · rename_i u e
      have := this u e
      simp
      omega
    · simp
theorem diag_back {n : Nat} {t : Table} (h : Diag n (upTo n t n)) {k : Nat} (hk : k ≤ n) : Diag n (upTo n t k) := by
  intro a ha u e
  obtain ⟨z, e2, h2⟩ := upTo_le ha ha k ⟨u, e, Int.le_refl _⟩ (n - k)
  rw [show k + (n - k) = n by omega] at e2
  have := h a ha z e2
  omega
/-- ways over numbers below k are no shorter than what is told -/
def Tri (n : Nat) (t : Table) (k : Nat) : Prop := ∀ m, m < k → ∀ i j, i < n → j < n → ∀ u v, Table.at_ t n i m = some u → Table.at_ t n m j = some v → Le (Table.at_ t n i j) (u + v)
theorem tri_step {n k : Nat} {t : Table} (hk : k < n) (hd : Diag n t) (h : Tri n t k) : Tri n (over n t k) (k + 1) := by
  intro m hm i j hi hj u v hu hv
  have hmn : m < n := by omega
  rw [at_over hi hmn] at hu
  rw [at_over hmn hj] at hv
  rw [at_over hi hj]
  by_cases c : m = k
  · subst c
    -- the ends at k itself
    have gu : Le (Table.at_ t n i m) u := by
      rcases lesser_cases hu with e | e
      · exact ⟨u, e, Int.le_refl _⟩
      · obtain ⟨x, y, e1, e2, rfl⟩ := plus_some e
        have := hd m hmn y e2
        exact ⟨x, e1, by omega⟩
    have gv : Le (Table.at_ t n m j) v := by
      rcases lesser_cases hv with e | e
      · exact ⟨v, e, Int.le_refl _⟩
      · obtain ⟨x, y, e1, e2, rfl⟩ := plus_some e
        have := hd m hmn x e1
        exact ⟨y, e2, by omega⟩
    exact le_lesser_r (le_plus gu gv)
  · have hmk : m < k := by omega
    rcases lesser_cases hu with e1 | e1
    · rcases lesser_cases hv with e2 | e2
      · exact le_lesser_l (h m hmk i j hi hj u v e1 e2)
      · obtain ⟨x, y, f1, f2, rfl⟩ := plus_some e2
        obtain ⟨z, g1, g2⟩ := h m hmk i k hi hk u x e1 f1
        exact le_lesser_r ((le_plus ⟨z, g1, g2⟩ ⟨y, f2, Int.le_refl _⟩).mono (by omega))
    · obtain ⟨x, y, f1, f2, rfl⟩ := plus_some e1
      rcases lesser_cases hv with e2 | e2
      · obtain ⟨z, g1, g2⟩ := h m hmk k j hk hj y v f2 e2
        exact le_lesser_r ((le_plus ⟨x, f1, Int.le_refl _⟩ ⟨z, g1, g2⟩).mono (by omega))
      · obtain ⟨x', y', f1', f2', rfl⟩ := plus_some e2
        obtain ⟨z, g1, g2⟩ := h m hmk k k hk hk y x' f2 f1'
        have := hd k hk z g1
        exact le_lesser_r ((le_plus ⟨x, f1, Int.le_refl _⟩ ⟨y', f2', Int.le_refl _⟩).mono (by omega))
theorem tri_upTo {n : Nat} {t : Table} (hd : Diag n (upTo n t n)) : ∀ k, k ≤ n → Tri n (upTo n t k) k
  | 0, _ => fun m hm => absurd hm (by omega)
  | k + 1, hk => by
    rw [upTo_succ]
    exact tri_step (by omega) (diag_back hd (by omega)) (tri_upTo hd k (by omega))
/-! what a closed table tells -/
section
variable {n : Nat} {l : List Bound} (hl : ∀ r, r ∈ l → r.a < n ∧ r.b < n)
include hl
theorem closed_above {x : Nat → Int} (hx : Sat l x) : Above n (closed n l) x := by
  rw [closed_eq]
  exact upTo_above (first_above hl hx) n (Nat.le_refl _)
theorem closed_row {r : Bound} (hr : r ∈ l) : Le (Table.at_ (closed n l) n r.a r.b) r.w := by
  rw [closed_eq]
  have h := upTo_le (hl r hr).1 (hl r hr).2 0 (t := FtNet.first n l) ((first_fst hl).row r hr) n
  simpa using h
theorem closed_diag {a : Nat} (ha : a < n) : Le (Table.at_ (closed n l) n a a) 0 := by
  rw [closed_eq]
  have h := upTo_le ha ha 0 (t := FtNet.first n l) ((first_fst hl).diag a ha) n
  simpa using h
theorem closed_tri (hd : none_ n (closed n l) = false) : Tri n (closed n l) n := by
  rw [closed_eq] at *
  exact tri_upTo (none_false.mp hd) n (Nat.le_refl _)
theorem none_true_not {x : Nat → Int} (hd : none_ n (closed n l) = true) (hx : Sat l x) : False := by
  unfold none_ at hd
  obtain ⟨a, ha, h⟩ := List.any_eq_true.mp hd
  split at h
  · rename_i u e
    have := closed_above hl hx a a (List.mem_range.mp ha) (List.mem_range.mp ha) u e
    simp at h
    omega
  · cases h
end
inductive Reach (l : List Bound) (s : Nat) : Nat → Prop where
  | refl : Reach l s s
  | step {r : Bound} : Reach l s r.a → r ∈ l → Reach l s r.b
theorem Reach.trans {l : List Bound} {a b c : Nat} (h1 : Reach l a b) (h2 : Reach l b c) : Reach l a c := by
  induction h2 with
  | refl => exact h1
  | step _ hr ih => exact .step ih hr
theorem Reach.one {l : List Bound} {a b : Nat} {w : Int} (h : (⟨a, b, w⟩ : Bound) ∈ l) : Reach l a b := .step (r := ⟨a, b, w⟩) .refl h
theorem Reach.mono {l l' : List Bound} {a b : Nat} (h : ∀ r, r ∈ l → r ∈ l') (h1 : Reach l a b) : Reach l' a b := by
  induction h1 with
  | refl => exact .refl
  | step _ hr ih => exact .step ih (h _ hr)
section
variable {n : Nat} {l : List Bound} (hl : ∀ r, r ∈ l → r.a < n ∧ r.b < n) (hd : none_ n (closed n l) = false)
include hl hd
theorem closed_some {s t : Nat} (hs : s < n) (h : Reach l s t) : t < n ∧ ∃ v, Table.at_ (closed n l) n s t = some v := by
  induction h with
  | refl => exact ⟨hs, (closed_diag hl hs).some_⟩
  | step _ hr ih =>
    rename_i r _
    have hb := (hl r hr).2
    obtain ⟨ha, u, hu⟩ := ih
    obtain ⟨z, hz⟩ := (closed_row hl hr).some_
    exact ⟨hb, (closed_tri hl hd r.a ha s r.b hs hb u z hu hz).some_⟩
def dist (n : Nat) (l : List Bound) (s t : Nat) : Int := (Table.at_ (closed n l) n s t).getD 0
theorem dist_some {s t : Nat} (hs : s < n) (h : Reach l s t) : Table.at_ (closed n l) n s t = some (dist n l s t) := by
  obtain ⟨_, v, hv⟩ := closed_some hl hd hs h
  unfold dist
  rw [hv]
  rfl
theorem dist_self {s : Nat} (hs : s < n) : dist n l s s = 0 := by
  obtain ⟨u, hu, h1⟩ := closed_diag hl hs
  have h2 := none_false.mp hd s hs u hu
  unfold dist
  rw [hu]
  show u = 0
  omega
theorem dist_sat {s : Nat} (hs : s < n) (hR : ∀ t, t < n → Reach l s t) : Sat l (dist n l s) := by
  intro r hr
  have ⟨ha, hb⟩ := hl r hr
  have e1 := dist_some hl hd hs (hR _ ha)
  have e2 := dist_some hl hd hs (hR _ hb)
  obtain ⟨z, hz, h1⟩ := closed_row hl hr
  obtain ⟨y, hy, h2⟩ := closed_tri hl hd r.a ha s r.b hs hb _ z e1 hz
  rw [e2] at hy
  cases hy
  omega
theorem dist_most {s t : Nat} (hs : s < n) (h : Reach l s t) {x : Nat → Int} (hx : Sat l x) : x t - x s ≤ dist n l s t :=
  closed_above hl hx s t hs (closed_some hl hd hs h).1 _ (dist_some hl hd hs h)
end
/-! ### rows gone through, round by round, from one start -/
abbrev Hts := List (Option Int)
def lower1 (st : Hts × Bool) (r : Bound) : Hts × Bool :=
  match st.1.getD r.a none with
  | none => st
  | some u => match st.1.getD r.b none with
    | none => (st.1.set r.b (some (u + r.w)), true)
    | some v => if u + r.w < v then (st.1.set r.b (some (u + r.w)), true) else st
def lowerOnce (rows : List Bound) (h : Hts) : Hts × Bool := rows.foldl lower1 (h, false)
def rounds (rows : List Bound) : Nat → Hts → Option Hts
  | 0, _ => none
  | k + 1, h => if (lowerOnce rows h).2 = true then rounds rows k (lowerOnce rows h).1 else some (lowerOnce rows h).1
def begin_ (n s : Nat) : Hts := (List.replicate n none).set s (some 0)
def mostAbove (rows : List Bound) (n s : Nat) : Option Hts := rounds rows n (begin_ n s)
theorem lower1_len (st : Hts × Bool) (r : Bound) : (lower1 st r).1.length = st.1.length := by
  unfold lower1
  split
  · rfl
  · split
    · simp
    · split
      · simp
      · rfl
theorem fold_len : ∀ (rows : List Bound) (st : Hts × Bool), (rows.foldl lower1 st).1.length = st.1.length
  | [], _ => rfl
  | r :: rows, st => by rw [List.foldl_cons, fold_len rows, lower1_len]
theorem getD_set {h : Hts} {i j : Nat} {v : Option Int} (hi : i < h.length) : (h.set i v).getD j none = if j = i then v else h.getD j none := by
  rw [List.getD_eq_getElem?_getD, List.getD_eq_getElem?_getD, List.getElem?_set]
  by_cases c : i = j
  · subst c
    rw [if_pos rfl, if_pos hi, if_pos rfl]
    rfl
  · rw [if_neg c, if_neg (fun e => c e.symm)]
theorem lower1_mono {st : Hts × Bool} {r : Bound} {j : Nat} {v : Int} (hb : r.b < st.1.length) (h : Le (st.1.getD j none) v) : Le ((lower1 st r).1.getD j none) v := by
  unfold lower1
  split
  · exact h
  · rename_i u hu
    split
    · rename_i hv
      show Le ((st.1.set r.b (some (u + r.w))).getD j none) v
      rw [getD_set hb]
      split
      · rename_i c
        subst c
        rw [hv] at h
        obtain ⟨_, e, _⟩ := h
        cases e
      · exact h
    · rename_i y hy
      split
      · rename_i c2
        show Le ((st.1.set r.b (some (u + r.w))).getD j none) v
        rw [getD_set hb]
        split
        · rename_i c
          subst c
          rw [hy] at h
          obtain ⟨z, e, h2⟩ := h
          cases e
          exact ⟨_, rfl, by omega⟩
        · exact h
      · exact h
theorem lower1_row {st : Hts × Bool} {r : Bound} {u : Int} (hb : r.b < st.1.length) (h : Le (st.1.getD r.a none) u) : Le ((lower1 st r).1.getD r.b none) (u + r.w) := by
  obtain ⟨z, hz, h1⟩ := h
  unfold lower1
  rw [hz]
  show Le (Prod.fst (match st.1.getD r.b none with
    | none => (st.1.set r.b (some (z + r.w)), true)
    | some v => if z + r.w < v then (st.1.set r.b (some (z + r.w)), true) else st) |>.getD r.b none) (u + r.w)
  split
  · show Le ((st.1.set r.b (some (z + r.w))).getD r.b none) (u + r.w)
    rw [getD_set hb, if_pos rfl]
    exact ⟨_, rfl, by omega⟩
  · rename_i v hv
    split
    · show Le ((st.1.set r.b (some (z + r.w))).getD r.b none) (u + r.w)
      rw [getD_set hb, if_pos rfl]
      exact ⟨_, rfl, by omega⟩
    · exact ⟨v, hv, by omega⟩
theorem lower1_ge {st : Hts × Bool} {r : Bound} {x : Nat → Int} {s : Nat} (hb : r.b < st.1.length) (hx : x r.b - x r.a ≤ r.w) (h : ∀ j, Ge (st.1.getD j none) (x j - x s)) (j : Nat) : Ge ((lower1 st r).1.getD j none) (x j - x s) := by
  unfold lower1
  split
  · exact h j
  · rename_i u hu
    have h1 := h r.a u hu
    have key : Ge ((st.1.set r.b (some (u + r.w))).getD j none) (x j - x s) := by
      rw [getD_set hb]
      split
      · rename_i c
        subst c
        intro z e
        cases e
        omega
      · exact h j
    split
    · exact key
    · split
      · exact key
      · exact h j
theorem fold_mono {j : Nat} {v : Int} : ∀ (rows : List Bound) (st : Hts × Bool), (∀ r, r ∈ rows → r.b < st.1.length) → Le (st.1.getD j none) v → Le ((rows.foldl lower1 st).1.getD j none) v
  | [], _, _, h => h
  | r :: rows, st, hl, h => by
    rw [List.foldl_cons]
    exact fold_mono rows _ (fun q hq => by rw [lower1_len]; exact hl q (List.mem_cons_of_mem _ hq)) (lower1_mono (hl r (List.mem_cons_self ..)) h)
theorem fold_row {r : Bound} {u : Int} : ∀ (rows : List Bound) (st : Hts × Bool), (∀ r, r ∈ rows → r.b < st.1.length) → r ∈ rows → Le (st.1.getD r.a none) u → Le ((rows.foldl lower1 st).1.getD r.b none) (u + r.w)
  | q :: rows, st, hl, hr, h => by
    rw [List.foldl_cons]
    have hl' : ∀ p, p ∈ rows → p.b < (lower1 st q).1.length := fun p hp => by rw [lower1_len]; exact hl p (List.mem_cons_of_mem _ hp)
    rcases List.mem_cons.mp hr with e | hr
    · subst e
      exact fold_mono rows _ hl' (lower1_row (hl r (List.mem_cons_self ..)) h)
    · exact fold_row rows _ hl' hr (lower1_mono (hl q (List.mem_cons_self ..)) h)
theorem fold_ge {x : Nat → Int} {s : Nat} : ∀ (rows : List Bound) (st : Hts × Bool), (∀ r, r ∈ rows → r.b < st.1.length) → Sat rows x → (∀ j, Ge (st.1.getD j none) (x j - x s)) → ∀ j, Ge ((rows.foldl lower1 st).1.getD j none) (x j - x s)
  | [], _, _, _, h => h
  | r :: rows, st, hl, hx, h => by
    rw [List.foldl_cons]
    exact fold_ge rows _ (fun q hq => by rw [lower1_len]; exact hl q (List.mem_cons_of_mem _ hq)) (fun q hq => hx q (List.mem_cons_of_mem _ hq)) (lower1_ge (hl r (List.mem_cons_self ..)) (hx r (List.mem_cons_self ..)) h)
/-- a row says nothing new -/
def Kept (h : Hts) (r : Bound) : Prop := ∀ u, h.getD r.a none = some u → Le (h.getD r.b none) (u + r.w)
theorem lower1_kept {st : Hts × Bool} {r : Bound} (h : Kept st.1 r) : lower1 st r = st := by
  unfold lower1
  split
  · rfl
  · rename_i u hu
    obtain ⟨v, hv, h1⟩ := h u hu
    rw [hv]
    show (if u + r.w < v then _ else _) = _
    rw [if_neg (by omega)]
theorem fold_kept : ∀ (rows : List Bound) (st : Hts × Bool), (∀ r, r ∈ rows → Kept st.1 r) → rows.foldl lower1 st = st
  | [], _, _ => rfl
  | r :: rows, st, h => by
    rw [List.foldl_cons, lower1_kept (h r (List.mem_cons_self ..))]
    exact fold_kept rows st fun q hq => h q (List.mem_cons_of_mem _ hq)
theorem lower1_flag (st : Hts × Bool) (r : Bound) : (lower1 st r = st ∧ Kept st.1 r) ∨ (lower1 st r).2 = true := by
  unfold lower1
  split
  · rename_i hu
    exact .inl ⟨rfl, fun u e => by rw [hu] at e; cases e⟩
  · rename_i u hu
    split
    · exact .inr rfl
    · rename_i v hv
      split
      · exact .inr rfl
      · exact .inl ⟨rfl, fun z e => by
          rw [hu] at e
          cases e
          exact ⟨v, hv, by omega⟩⟩
theorem fold_flag_true : ∀ (rows : List Bound) (st : Hts × Bool), st.2 = true → (rows.foldl lower1 st).2 = true
  | [], _, h => h
  | r :: rows, st, h => by
    rw [List.foldl_cons]
    refine fold_flag_true rows _ ?_
    rcases lower1_flag st r with ⟨e, _⟩ | e
    · rw [e]; exact h
    · exact e
theorem fold_flag : ∀ (rows : List Bound) (st : Hts × Bool), (rows.foldl lower1 st).2 = false → rows.foldl lower1 st = st ∧ ∀ r, r ∈ rows → Kept st.1 r
  | [], _, _ => ⟨rfl, fun _ h => nomatch h⟩
  | r :: rows, st, h => by
    rw [List.foldl_cons] at h ⊢
    rcases lower1_flag st r with ⟨e, k⟩ | e
    · rw [e] at h ⊢
      obtain ⟨e2, k2⟩ := fold_flag rows st h
      exact ⟨e2, fun q hq => by
        rcases List.mem_cons.mp hq with c | c
        · subst c; exact k
        · exact k2 q c⟩
    · rw [fold_flag_true rows _ e] at h
      cases h
/-- how many numbers are as low as they get -/
def low (d : Nat → Int) (h : Hts) (v : Nat) : Bool := match h.getD v none with
  | none => false
  | some u => decide (u ≤ d v)
theorem low_iff {d : Nat → Int} {h : Hts} {v : Nat} : low d h v = true ↔ Le (h.getD v none) (d v) := by
  unfold low
  split
  · rename_i e
    rw [e]
    exact ⟨fun h => (nomatch h), fun ⟨_, h, _⟩ => (nomatch h)⟩
  · rename_i u e
    rw [e]
    exact ⟨fun h => ⟨u, rfl, by simpa using h⟩, fun ⟨z, h, h2⟩ => by cases h; simpa using h2⟩
theorem count_le {p q : Nat → Bool} : ∀ (l : List Nat), (∀ v, v ∈ l → p v = true → q v = true) → l.countP p ≤ l.countP q
  | [], _ => Nat.le_refl _
  | a :: l, h => by
    have ih := count_le l fun v hv => h v (List.mem_cons_of_mem _ hv)
    rw [List.countP_cons, List.countP_cons]
    by_cases c : p a = true
    · rw [if_pos c, if_pos (h a (List.mem_cons_self ..) c)]
      omega
    · rw [if_neg c]
      omega
theorem count_lt {p q : Nat → Bool} : ∀ (l : List Nat), (∀ v, v ∈ l → p v = true → q v = true) → ∀ v, v ∈ l → p v = false → q v = true → l.countP p < l.countP q
  | a :: l, h, v, hv, hp, hq => by
    have ih := count_le l fun v hv => h v (List.mem_cons_of_mem _ hv)
    rw [List.countP_cons, List.countP_cons]
    rcases List.mem_cons.mp hv with e | hv
    · subst e
      rw [if_neg (by rw [hp]; decide), if_pos hq]
      omega
    · have := count_lt l (fun v hv => h v (List.mem_cons_of_mem _ hv)) v hv hp hq
      by_cases c : p a = true
      · rw [if_pos c, if_pos (h a (List.mem_cons_self ..) c)]
        omega
      · rw [if_neg c]
        omega
theorem count_all {p : Nat → Bool} {n : Nat} (h : n ≤ (List.range n).countP p) : ∀ v, v < n → p v = true := by
  intro v hv
  have e : (List.range n).countP p = (List.range n).length := by
    have := List.countP_le_length (p := p) (l := List.range n)
    rw [List.length_range] at this ⊢
    omega
  exact List.countP_eq_length.mp e v (List.mem_range.mpr hv)
section
variable {n s : Nat} {rows : List Bound} {d : Nat → Int} (hl : ∀ r, r ∈ rows → r.a < n ∧ r.b < n) (hs : s < n)
  (hd : Sat rows d) (h0 : d s = 0) (hm : ∀ x, Sat rows x → ∀ t, t < n → x t - x s ≤ d t)
include hl hs hd h0 hm
/-- some number that isn't yet lowest gets so in the next round -/
theorem progress {h : Hts} (hlen : h.length = n) (hss : Le (h.getD s none) 0) (hv : ¬ ∀ v, v < n → low d h v = true) :
    ∃ r, r ∈ rows ∧ low d h r.a = true ∧ low d h r.b = false ∧ d r.a + r.w ≤ d r.b := by
  apply Classical.byContradiction
  intro hno
  obtain ⟨v, hvn, hvl⟩ : ∃ v, v < n ∧ low d h v = false := by
    apply Classical.byContradiction
    intro hc
    apply hv
    intro v hvn
    cases e : low d h v with
    | true => rfl
    | false => exact absurd ⟨v, hvn, e⟩ hc
  have hx : Sat rows (fun v => if low d h v = true then d v else d v + 1) := by
    intro r hr
    have h1 := hd r hr
    show (if low d h r.b = true then d r.b else d r.b + 1) - (if low d h r.a = true then d r.a else d r.a + 1) ≤ r.w
    cases ea : low d h r.a with
    | true =>
      cases eb : low d h r.b with
      | true => simpa using h1
      | false =>
        have : ¬ d r.a + r.w ≤ d r.b := fun c => hno ⟨r, hr, ea, eb, c⟩
        simp
        omega
    | false =>
      cases eb : low d h r.b with
      | true => simp; omega
      | false => simp; omega
  have h2 := hm _ hx v hvn
  have hsl : low d h s = true := low_iff.mpr (by rw [h0]; exact hss)
  simp [hvl, hsl] at h2
  omega
theorem once_low {h : Hts} (hlen : h.length = n) (v : Nat) (e : low d h v = true) : low d (lowerOnce rows h).1 v = true :=
  low_iff.mpr (fold_mono rows (h, false) (fun r hr => by show r.b < h.length; rw [hlen]; exact (hl r hr).2) (low_iff.mp e))
theorem rounds_end : ∀ (k : Nat) (h : Hts), h.length = n → Le (h.getD s none) 0 → (∀ x, Sat rows x → ∀ j, Ge (h.getD j none) (x j - x s)) →
    n + 1 ≤ (List.range n).countP (low d h) + k → ∃ g, rounds rows k h = some g
  | 0, h, hlen, _, _, hc => by
    have := List.countP_le_length (p := low d h) (l := List.range n)
    rw [List.length_range] at this
    omega
  | k + 1, h, hlen, hss, hge, hc => by
    have hl' : ∀ r, r ∈ rows → r.b < h.length := fun r hr => by rw [hlen]; exact (hl r hr).2
    unfold rounds
    split
    · rename_i hf
      by_cases hall : ∀ v, v < n → low d h v = true
      · -- nothing more can be lowered
        have hk : ∀ r, r ∈ rows → Kept h r := fun r hr u hu => by
          obtain ⟨z, hz, h1⟩ := low_iff.mp (hall r.b (hl r hr).2)
          have h2 := hd r hr
          have h3 := hge d hd r.a u hu
          rw [h0] at h3
          exact ⟨z, hz, by omega⟩
        have e := fold_kept rows (h, false) hk
        have : (lowerOnce rows h).2 = false := congrArg Prod.snd e
        rw [this] at hf
        cases hf
      · obtain ⟨r, hr, ha, hb, hw⟩ := progress hl hs hd h0 hm hlen hss hall
        refine rounds_end k _ (by show (rows.foldl lower1 (h, false)).1.length = n; rw [fold_len]; exact hlen) (fold_mono rows (h, false) hl' hss) (fun x hx => fold_ge rows (h, false) hl' hx (hge x hx)) ?_
        have h1 := count_lt (p := low d h) (q := low d (lowerOnce rows h).1) (List.range n) (fun v _ e => once_low hl hs hd h0 hm hlen v e) r.b (List.mem_range.mpr (hl r hr).2) hb
          (low_iff.mpr ((fold_row rows (h, false) hl' hr (low_iff.mp ha)).mono hw))
        omega
    · exact ⟨_, rfl⟩
end
theorem rounds_some {rows : List Bound} {n s : Nat} (hl : ∀ r, r ∈ rows → r.a < n ∧ r.b < n) : ∀ (k : Nat) (h g : Hts), h.length = n → Le (h.getD s none) 0 → (∀ x, Sat rows x → ∀ j, Ge (h.getD j none) (x j - x s)) →
    rounds rows k h = some g → g.length = n ∧ Le (g.getD s none) 0 ∧ (∀ x, Sat rows x → ∀ j, Ge (g.getD j none) (x j - x s)) ∧ ∀ r, r ∈ rows → Kept g r
  | 0, h, g, _, _, _, e => by cases e
  | k + 1, h, g, hlen, hss, hge, e => by
    have hl' : ∀ r, r ∈ rows → r.b < h.length := fun r hr => by rw [hlen]; exact (hl r hr).2
    unfold rounds at e
    split at e
    · exact rounds_some hl k _ g (by show (rows.foldl lower1 (h, false)).1.length = n; rw [fold_len]; exact hlen) (fold_mono rows (h, false) hl' hss) (fun x hx => fold_ge rows (h, false) hl' hx (hge x hx)) e
    · rename_i hf
      have hf : (rows.foldl lower1 (h, false)).2 = false := by
        cases q : (rows.foldl lower1 (h, false)).2 with
        | false => rfl
        | true => exact absurd q hf
      obtain ⟨e2, hk⟩ := fold_flag rows (h, false) hf
      have e3 : (lowerOnce rows h).1 = h := congrArg Prod.fst e2
      rw [e3] at e
      cases e
      exact ⟨hlen, hss, hge, hk⟩
theorem begin_len (n s : Nat) : (begin_ n s).length = n := by simp [begin_]
theorem begin_get {n s : Nat} (hs : s < n) (j : Nat) : (begin_ n s).getD j none = if j = s then some 0 else none := by
  unfold begin_
  rw [getD_set (by simpa using hs)]
  split
  · rfl
  · rw [List.getD_eq_getElem?_getD, List.getElem?_replicate]
    split <;> rfl
theorem begin_ge {n s : Nat} (hs : s < n) (x : Nat → Int) (j : Nat) : Ge ((begin_ n s).getD j none) (x j - x s) := by
  rw [begin_get hs]
  intro u e
  split at e
  · rename_i c
    subst c
    cases e
    omega
  · cases e
theorem kept_some {rows : List Bound} {g : Hts} {s : Nat} (hss : Le (g.getD s none) 0) (hk : ∀ r, r ∈ rows → Kept g r) {t : Nat} (h : Reach rows s t) : ∃ u, g.getD t none = some u := by
  induction h with
  | refl => exact hss.some_
  | step _ hr ih =>
    obtain ⟨u, hu⟩ := ih
    exact (hk _ hr u hu).some_
/-- **The rounds and the table tell the same.** -/
theorem mostAbove_spec {n : Nat} {rows l : List Bound} (hmem : ∀ r, r ∈ rows ↔ r ∈ l) (hl : ∀ r, r ∈ l → r.a < n ∧ r.b < n) (hR : ∀ s t, s < n → t < n → Reach l s t) {s : Nat} (hs : s < n) :
    (none_ n (closed n l) = true → mostAbove rows n s = none) ∧
    (none_ n (closed n l) = false → ∃ g, mostAbove rows n s = some g ∧ g.length = n ∧ ∀ t, t < n → g.getD t none = some (dist n l s t)) := by
  have hrl : ∀ r, r ∈ rows → r.a < n ∧ r.b < n := fun r hr => hl r ((hmem r).mp hr)
  have hb0 : Le ((begin_ n s).getD s none) 0 := by
    rw [begin_get hs, if_pos rfl]
    exact ⟨0, rfl, Int.le_refl _⟩
  have hsat : ∀ x, Sat rows x ↔ Sat l x := fun x => ⟨fun h r hr => h r ((hmem r).mpr hr), fun h r hr => h r ((hmem r).mp hr)⟩
  have hfix : ∀ g, mostAbove rows n s = some g → g.length = n ∧ (∀ t, t < n → ∃ u, g.getD t none = some u) ∧ Sat l (fun t => (g.getD t none).getD 0) ∧ (g.getD s none).getD 0 ≤ 0 ∧
      (∀ x, Sat l x → ∀ t, t < n → x t - x s ≤ (g.getD t none).getD 0) := by
    intro g hg
    obtain ⟨g1, g2, g3, g4⟩ := rounds_some hrl n _ g (begin_len n s) hb0 (fun x _ j => begin_ge hs x j) hg
    have g5 : ∀ t, t < n → ∃ u, g.getD t none = some u := fun t ht => kept_some g2 g4 ((hR s t hs ht).mono fun r hr => (hmem r).mpr hr)
    refine ⟨g1, g5, fun r hr => ?_, ?_, fun x hx t ht => ?_⟩
    · have ⟨ha, hb⟩ := hl r hr
      obtain ⟨u, hu⟩ := g5 r.a ha
      obtain ⟨v, hv, h1⟩ := g4 r ((hmem r).mpr hr) u hu
      show (g.getD r.b none).getD 0 - (g.getD r.a none).getD 0 ≤ r.w
      rw [hu, hv]
      show v - u ≤ r.w
      omega
    · obtain ⟨u, hu, h1⟩ := g2
      rw [hu]
      exact h1
    · obtain ⟨u, hu⟩ := g5 t ht
      have := g3 x ((hsat x).mpr hx) t u hu
      rw [hu]
      exact this
  constructor
  · intro hn
    cases e : mostAbove rows n s with
    | none => rfl
    | some g => exact (none_true_not hl hn (hfix g e).2.2.1).elim
  · intro hn
    have d0 := dist_self hl hn hs
    have dS : Sat l (dist n l s) := dist_sat hl hn hs fun t ht => hR s t hs ht
    have dM : ∀ x, Sat l x → ∀ t, t < n → x t - x s ≤ dist n l s t := fun x hx t ht => dist_most hl hn hs (hR s t hs ht) hx
    obtain ⟨g, hg⟩ := rounds_end (d := dist n l s) hrl hs ((hsat _).mpr dS) d0 (fun x hx => dM x ((hsat x).mp hx)) n (begin_ n s) (begin_len n s) hb0 (fun x _ j => begin_ge hs x j) (by
      have : 0 < (List.range n).countP (low (dist n l s) (begin_ n s)) := by
        refine List.countP_pos_iff.mpr ⟨s, List.mem_range.mpr hs, low_iff.mpr ?_⟩
        rw [d0]
        exact hb0
      omega)
    obtain ⟨g1, g2, g3, g4, g5⟩ := hfix g hg
    refine ⟨g, hg, g1, fun t ht => ?_⟩
    obtain ⟨u, hu⟩ := g2 t ht
    have h1 := g5 _ dS t ht
    have h2 := dM _ g3 t ht
    have h3 := g5 _ dS s hs
    rw [hu] at h1 h2
    rw [hu]
    have h1 : dist n l s t - dist n l s s ≤ u := h1
    have h2 : u - (g.getD s none).getD 0 ≤ dist n l s t := h2
    rw [show u = dist n l s t by omega]
end SbNet
end
section
namespace SbBook
open Ft FtBench FtNet SbNet
def Use.okIn (b : Book) : Use → Prop
  | .read t i _ => t < b.tools.length ∧ i < b.items.length
  | .check t _ _ _ => t < b.tools.length
/-- uses speak of items and tools that are there -/
def Valid (b : Book) : Prop := ∀ u, u ∈ b.uses → Use.okIn b u
theorem before_some {l : List Use} {k t j : Nat} (h : before l k t = some j) : j < k ∧ ∃ u, l[j]? = some u ∧ u.tool = t := by
  unfold before at h
  have h1 := List.find?_some h
  have h2 := List.mem_of_find?_eq_some h
  have h2 : j < k := by simpa using h2
  refine ⟨h2, ?_⟩
  cases e : l[j]? with
  | none =>
    rw [e] at h1
    cases h1
  | some u =>
    rw [e] at h1
    refine ⟨u, rfl, ?_⟩
    simpa using h1
theorem before_zero (l : List Use) (t : Nat) : before l 0 t = none := rfl
theorem before_succ {l : List Use} {k t : Nat} {u : Use} (h : l[k]? = some u) : before l (k + 1) t = if u.tool = t then some k else before l k t := by
  unfold before
  rw [List.range_succ, List.reverse_append]
  show List.find? _ (k :: (List.range k).reverse) = _
  rw [List.find?_cons, h]
  by_cases c : u.tool = t
  · simp [c]
  · have c' : (u.tool == t) = false := by simpa using c
    simp [c, c']
theorem before_take {l : List Use} {k n t : Nat} (h : k ≤ n) : before (l.take n) k t = before l k t := by
  induction k with
  | zero => rfl
  | succ k ih =>
    have ih := ih (by omega)
    unfold before at ih ⊢
    rw [List.range_succ, List.reverse_append]
    show List.find? _ (k :: (List.range k).reverse) = List.find? _ (k :: (List.range k).reverse)
    rw [List.find?_cons, List.find?_cons, List.getElem?_take_of_lt (by omega), ih]
theorem before_append {l : List Use} {k t : Nat} {r : List Use} (h : k ≤ l.length) : before (l ++ r) k t = before l k t := by
  have := before_take (l := l ++ r) (t := t) h
  rw [List.take_left' rfl] at this
  exact this.symm
theorem mem_zipIdx {α : Type} {l : List α} {u : α} {k : Nat} : (u, k) ∈ l.zipIdx ↔ l[k]? = some u := by
  constructor
  · intro h
    exact List.mem_zipIdx_iff_getElem?.mp h
  · intro h
    exact List.mem_zipIdx_iff_getElem?.mpr h
/-- what one use tells -/
def useBounds (b : Book) (k : Nat) (u : Use) : List Bound := toolBounds b u.tool (before b.uses k u.tool) (b.useNo k) ++ shows b (b.useNo k) u
theorem mem_bounds {b : Book} {r : Bound} : r ∈ bounds b ↔ (∃ i, i < b.items.length ∧ r ∈ from_ 0 (itemNo i) 1 LARGE) ∨ (∃ k u, b.uses[k]? = some u ∧ r ∈ useBounds b k u) := by
  unfold bounds
  rw [List.mem_append, List.mem_flatMap, List.mem_flatMap]
  constructor
  · rintro (⟨i, hi, h⟩ | ⟨⟨u, k⟩, hk, h⟩)
    · exact .inl ⟨i, by simpa using hi, h⟩
    · exact .inr ⟨k, u, mem_zipIdx.mp hk, h⟩
  · rintro (⟨i, hi, h⟩ | ⟨k, u, hk, h⟩)
    · exact .inl ⟨i, by simpa using hi, h⟩
    · exact .inr ⟨(u, k), mem_zipIdx.mpr hk, h⟩
theorem mem_from {a c : Nat} {lo hi : Int} {r : Bound} : r ∈ from_ a c lo hi ↔ r = ⟨a, c, hi⟩ ∨ r = ⟨c, a, -lo⟩ := by
  unfold from_
  simp
theorem from_ends {a c n : Nat} {lo hi : Int} {r : Bound} (h : r ∈ from_ a c lo hi) (ha : a < n) (hc : c < n) : r.a < n ∧ r.b < n := by
  rcases mem_from.mp h with e | e <;> subst e <;> exact ⟨by assumption, by assumption⟩
theorem tool_ends {b : Book} {t k n : Nat} {j : Option Nat} {r : Bound} (h : r ∈ toolBounds b t j k) (hk : k < n) (h0 : 0 < n) (hj : ∀ i, j = some i → b.useNo i < n) : r.a < n ∧ r.b < n := by
  unfold toolBounds at h
  cases j with
  | none =>
    simp only at h
    unfold atFirst at h
    split at h <;> exact from_ends h h0 hk
  | some i =>
    simp only at h
    unfold goesOn at h
    split at h <;> exact from_ends h (hj i rfl) hk
theorem shows_ends {b : Book} {k n : Nat} {u : Use} {r : Bound} (h : r ∈ shows b k u) (hk : k < n) (h0 : 0 < n) (hi : ∀ t i x, u = .read t i x → itemNo i < n) : r.a < n ∧ r.b < n := by
  cases u with
  | read t i x =>
    have hi := hi t i x rfl
    unfold shows at h
    simp only at h
    split at h
    · exact from_ends h hk hi
    · split at h
      · split at h
        · have e := List.mem_singleton.mp h
          subst e
          exact ⟨hi, hk⟩
        · have e := List.mem_singleton.mp h
          subst e
          exact ⟨hk, hi⟩
      · split at h
        · have e := List.mem_singleton.mp h
          subst e
          exact ⟨hk, hi⟩
        · have e := List.mem_singleton.mp h
          subst e
          exact ⟨hi, hk⟩
  | check t a z x =>
    unfold shows at h
    simp only at h
    split at h <;> exact from_ends h h0 hk
theorem uses_lt {b : Book} {k : Nat} {u : Use} (h : b.uses[k]? = some u) : k < b.uses.length := (List.getElem?_eq_some_iff.mp h).1
theorem bounds_ends {b : Book} (hv : Valid b) : ∀ r, r ∈ bounds b → r.a < b.size ∧ r.b < b.size := by
  intro r hr
  have h0 : 0 < b.size := by unfold Book.size; omega
  rcases mem_bounds.mp hr with ⟨i, hi, h⟩ | ⟨k, u, hk, h⟩
  · exact from_ends h h0 (by unfold itemNo Book.size; omega)
  · have hkl := uses_lt hk
    unfold useBounds at h
    rcases List.mem_append.mp h with h | h
    · refine tool_ends h (by unfold Book.useNo Book.size; omega) h0 fun i e => ?_
      have := (before_some e).1
      unfold Book.useNo Book.size
      omega
    · refine shows_ends h (by unfold Book.useNo Book.size; omega) h0 fun t i x e => ?_
      have := hv u (List.mem_of_getElem? hk)
      subst e
      have := this.2
      unfold itemNo Book.size
      omega
/-! every number is joined with 0 -/
theorem tool_join {b : Book} {l : List Bound} {t k : Nat} {j : Option Nat} (hl : ∀ r, r ∈ toolBounds b t j k → r ∈ l) (hj : ∀ i, j = some i → Reach l 0 (b.useNo i) ∧ Reach l (b.useNo i) 0) : Reach l 0 k ∧ Reach l k 0 := by
  have two : ∀ (a : Nat) (lo hi : Int), (∀ r, r ∈ from_ a k lo hi → r ∈ l) → Reach l a k ∧ Reach l k a := fun a lo hi h =>
    ⟨.one (h _ (mem_from.mpr (.inl rfl))), .one (h _ (mem_from.mpr (.inr rfl)))⟩
  cases j with
  | none =>
    have hl : ∀ r, r ∈ atFirst (b.tool t) k → r ∈ l := hl
    unfold atFirst at hl
    split at hl
    · exact two _ _ _ hl
    · exact two _ _ _ hl
  | some i =>
    have hl : ∀ r, r ∈ goesOn (b.tool t) (b.useNo i) k → r ∈ l := hl
    obtain ⟨h1, h2⟩ := hj i rfl
    unfold goesOn at hl
    split at hl
    · obtain ⟨h3, h4⟩ := two _ _ _ hl
      exact ⟨h1.trans h3, h4.trans h2⟩
    · obtain ⟨h3, h4⟩ := two _ _ _ hl
      exact ⟨h1.trans h3, h4.trans h2⟩
theorem use_join {b : Book} {l : List Bound} (hl : ∀ r, r ∈ bounds b → r ∈ l) : ∀ k, k < b.uses.length → Reach l 0 (b.useNo k) ∧ Reach l (b.useNo k) 0 := by
  intro k
  induction k using Nat.strongRecOn with
  | ind k ih =>
    intro hk
    have e : b.uses[k]? = some b.uses[k] := List.getElem?_eq_getElem hk
    refine tool_join (t := b.uses[k].tool) (j := before b.uses k b.uses[k].tool) (fun r hr => hl r (mem_bounds.mpr (.inr ⟨k, _, e, List.mem_append.mpr (.inl hr)⟩))) fun i hi => ?_
    have := (before_some hi).1
    exact ih i this (by omega)
theorem item_join {b : Book} {l : List Bound} (hl : ∀ r, r ∈ bounds b → r ∈ l) {i : Nat} (hi : i < b.items.length) : Reach l 0 (itemNo i) ∧ Reach l (itemNo i) 0 :=
  ⟨.one (hl _ (mem_bounds.mpr (.inl ⟨i, hi, mem_from.mpr (.inl rfl)⟩))), .one (hl _ (mem_bounds.mpr (.inl ⟨i, hi, mem_from.mpr (.inr rfl)⟩)))⟩
theorem join0 {b : Book} {l : List Bound} (hl : ∀ r, r ∈ bounds b → r ∈ l) {v : Nat} (hv : v < b.size) : Reach l 0 v ∧ Reach l v 0 := by
  by_cases h0 : v = 0
  · subst h0
    exact ⟨.refl, .refl⟩
  · by_cases hi : v ≤ b.items.length
    · have e : v = itemNo (v - 1) := by unfold itemNo; omega
      rw [e]
      exact item_join hl (by omega)
    · have e : v = b.useNo (v - 1 - b.items.length) := by unfold Book.useNo; omega
      rw [e]
      refine use_join hl _ ?_
      unfold Book.size at hv
      omega
theorem joined {b : Book} : ∀ s t, s < b.size → t < b.size → Reach (bounds b) s t := fun s t hs ht =>
  (join0 (fun _ h => h) hs).2.trans (join0 (fun _ h => h) ht).1
/-! possible: there is a world -/
theorem poss_iff {b : Book} (hv : Valid b) : possible b = true ↔ ∃ x, Sat (bounds b) x := by
  have h0 : 0 < b.size := by unfold Book.size; omega
  unfold possible table
  constructor
  · intro h
    have hn : none_ b.size (closed b.size (bounds b)) = false := by simpa using h
    exact ⟨_, dist_sat (bounds_ends hv) hn h0 fun t ht => joined 0 t h0 ht⟩
  · rintro ⟨x, hx⟩
    cases e : none_ b.size (closed b.size (bounds b)) with
    | false => rfl
    | true => exact (none_true_not (bounds_ends hv) e hx).elim
theorem poss_empty {b : Book} (h : b.uses = []) : possible b = true := by
  have hv : Valid b := fun u hu => by rw [h] at hu; cases hu
  refine (poss_iff hv).mpr ⟨fun v => if v = 0 then 0 else 1, fun r hr => ?_⟩
  rcases mem_bounds.mp hr with ⟨i, hi, hm⟩ | ⟨k, u, hk, _⟩
  · rcases mem_from.mp hm with e | e <;> subst e <;> simp [itemNo, LARGE]
  · rw [h] at hk
    cases hk
/-- the first uses alone -/
theorem valid_first {b : Book} {n : Nat} (hv : Valid b) : Valid (b.first n) := fun u hu => by
  have h := hv u (List.mem_of_mem_take hu)
  cases u <;> exact h
theorem toolB_eq {b c : Book} (h : c.tools = b.tools) (hi : c.items.length = b.items.length) (t : Nat) (j : Option Nat) (k : Nat) : toolBounds c t j k = toolBounds b t j k := by
  unfold toolBounds Book.tool Book.useNo
  rw [h, hi]
theorem shows_eq {b c : Book} (h : c.tools = b.tools) (k : Nat) (u : Use) : shows c k u = shows b k u := by
  cases u <;> (unfold shows Book.tool; rw [h])
theorem bounds_first {b : Book} {n : Nat} {r : Bound} (hr : r ∈ bounds (b.first n)) : r ∈ bounds b := by
  rcases mem_bounds.mp hr with ⟨i, hi, hm⟩ | ⟨k, u, hk, hm⟩
  · exact mem_bounds.mpr (.inl ⟨i, hi, hm⟩)
  · have hk : (b.uses.take n)[k]? = some u := hk
    have hkn : k < n := by
      have := (List.getElem?_eq_some_iff.mp hk).1
      rw [List.length_take] at this
      omega
    rw [List.getElem?_take_of_lt hkn] at hk
    refine mem_bounds.mpr (.inr ⟨k, u, hk, ?_⟩)
    unfold useBounds at hm ⊢
    rw [toolB_eq (c := b.first n) (b := b) rfl rfl, shows_eq (c := b.first n) (b := b) rfl] at hm
    have e : (b.first n).uses = b.uses.take n := rfl
    rw [e, before_take (by omega)] at hm
    exact hm
theorem poss_first {b : Book} {n : Nat} (hv : Valid b) (hp : possible b = true) : possible (b.first n) = true := by
  obtain ⟨x, hx⟩ := (poss_iff hv).mp hp
  exact (poss_iff (valid_first hv)).mpr ⟨x, fun r hr => hx r (bounds_first hr)⟩
/-- one item more: the numbers of uses stand one higher -/
def addItem (b : Book) (s : Size) : Book := { b with items := b.items ++ [s] }
theorem valid_item {b : Book} {s : Size} (hv : Valid b) : Valid (addItem b s) := fun u hu => by
  have h := hv u hu
  cases u with
  | read t i x =>
    refine ⟨h.1, ?_⟩
    show i < (b.items ++ [s]).length
    rw [List.length_append]
    have := h.2
    omega
  | check t a z x => exact h
def up (b : Book) (v : Nat) : Nat := if v ≤ b.items.length then v else v + 1
def lift (b : Book) (x : Nat → Int) (v : Nat) : Int := if v ≤ b.items.length then x v else if v = b.items.length + 1 then x 0 + 1 else x (v - 1)
theorem lift_use {b : Book} {s : Size} {x : Nat → Int} (k : Nat) : lift b x ((addItem b s).useNo k) = x (b.useNo k) := by
  have e : (addItem b s).useNo k = b.useNo k + 1 := by
    unfold Book.useNo addItem
    simp
    omega
  rw [e]
  unfold lift Book.useNo
  rw [if_neg (by omega), if_neg (by omega)]
  rfl
theorem lift_item {b : Book} {x : Nat → Int} {i : Nat} (hi : i < b.items.length) : lift b x (itemNo i) = x (itemNo i) := by
  unfold lift itemNo
  rw [if_pos (by omega)]
theorem lift_zero {b : Book} {x : Nat → Int} : lift b x 0 = x 0 := by
  unfold lift
  rw [if_pos (by omega)]
theorem sat_from {a c : Nat} {lo hi : Int} {x : Nat → Int} : Sat (from_ a c lo hi) x ↔ lo ≤ x c - x a ∧ x c - x a ≤ hi := by
  constructor
  · intro h
    have h1 := h _ (mem_from.mpr (.inl rfl))
    have h2 := h _ (mem_from.mpr (.inr rfl))
    simp only at h1 h2
    omega
  · rintro ⟨h1, h2⟩ r hr
    rcases mem_from.mp hr with e | e <;> subst e <;> simp only <;> omega
theorem sat_tool {b c : Book} (ht : c.tools = b.tools) {t : Nat} {j : Option Nat} {k k' : Nat} {x y : Nat → Int} (h0 : y 0 = x 0) (hk : y k' = x k) (hj : ∀ i, j = some i → y (c.useNo i) = x (b.useNo i)) (h : Sat (toolBounds b t j k) x) : Sat (toolBounds c t j k') y := by
  have et : c.tool t = b.tool t := by
    unfold Book.tool
    rw [ht]
  unfold toolBounds at h ⊢
  cases j with
  | none =>
    simp only [et] at h ⊢
    unfold atFirst at h ⊢
    split at h
    · rename_i q
      rw [if_pos q, sat_from, hk, h0]
      exact sat_from.mp h
    · rename_i q
      rw [if_neg q, sat_from, hk, h0]
      exact sat_from.mp h
  | some i =>
    have hji := hj i rfl
    simp only [et] at h ⊢
    unfold goesOn at h ⊢
    split at h
    · rename_i q
      rw [if_pos q, sat_from, hk, hji]
      exact sat_from.mp h
    · rename_i q
      rw [if_neg q, sat_from, hk, hji]
      exact sat_from.mp h
theorem sat_one {r : Bound} {x : Nat → Int} : Sat [r] x ↔ x r.b - x r.a ≤ r.w := by
  constructor
  · intro h
    exact h r (by simp)
  · intro h q hq
    have e : q = r := by simpa using hq
    subst e
    exact h
theorem sat_shows {b c : Book} (ht : c.tools = b.tools) {k k' : Nat} {u : Use} {x y : Nat → Int} (h0 : y 0 = x 0) (hk : y k' = x k) (hi : ∀ t i r, u = .read t i r → y (itemNo i) = x (itemNo i)) (h : Sat (shows b k u) x) : Sat (shows c k' u) y := by
  cases u with
  | read t i r =>
    have hii := hi t i r rfl
    unfold shows Book.tool at h ⊢
    rw [ht]
    simp only at h ⊢
    split at h
    · rename_i q
      rw [if_pos q, sat_from, hk, hii]
      exact sat_from.mp h
    · rename_i q
      rw [if_neg q]
      split at h
      · rename_i q2
        rw [if_pos q2]
        split at h
        · rename_i q3
          rw [if_pos q3, sat_one]
          simp only
          rw [hk, hii]
          exact sat_one.mp h
        · rename_i q3
          rw [if_neg q3, sat_one]
          simp only
          rw [hk, hii]
          exact sat_one.mp h
      · rename_i q2
        rw [if_neg q2]
        split at h
        · rename_i q3
          rw [if_pos q3, sat_one]
          simp only
          rw [hk, hii]
          exact sat_one.mp h
        · rename_i q3
          rw [if_neg q3, sat_one]
          simp only
          rw [hk, hii]
          exact sat_one.mp h
  | check t a z r =>
    unfold shows Book.tool at h ⊢
    rw [ht]
    simp only at h ⊢
    split at h
    · rename_i q
      rw [if_pos q, sat_from, hk, h0]
      exact sat_from.mp h
    · rename_i q
      rw [if_neg q, sat_from, hk, h0]
      exact sat_from.mp h
theorem sat_append {l m : List Bound} {x : Nat → Int} : Sat (l ++ m) x ↔ Sat l x ∧ Sat m x := by
  constructor
  · intro h
    exact ⟨fun r hr => h r (List.mem_append.mpr (.inl hr)), fun r hr => h r (List.mem_append.mpr (.inr hr))⟩
  · rintro ⟨h1, h2⟩ r hr
    rcases List.mem_append.mp hr with q | q
    · exact h1 r q
    · exact h2 r q
theorem poss_item {b : Book} {s : Size} (hv : Valid b) (hp : possible b = true) : possible (addItem b s) = true := by
  obtain ⟨x, hx⟩ := (poss_iff hv).mp hp
  refine (poss_iff (valid_item hv)).mpr ⟨lift b x, fun r hr => ?_⟩
  rcases mem_bounds.mp hr with ⟨i, hi, hm⟩ | ⟨k, u, hk, hm⟩
  · have hi : i < (b.items ++ [s]).length := hi
    rw [List.length_append] at hi
    have hi : i < b.items.length + 1 := hi
    by_cases c : i < b.items.length
    · have h1 : Sat (from_ 0 (itemNo i) 1 LARGE) x := fun q hq => hx q (mem_bounds.mpr (.inl ⟨i, c, hq⟩))
      have h2 : Sat (from_ 0 (itemNo i) 1 LARGE) (lift b x) := by
        rw [sat_from, lift_item c, lift_zero]
        exact sat_from.mp h1
      exact h2 r hm
    · have e : i = b.items.length := by omega
      subst e
      have h2 : Sat (from_ 0 (itemNo b.items.length) 1 LARGE) (lift b x) := by
        rw [sat_from, lift_zero]
        have : lift b x (itemNo b.items.length) = x 0 + 1 := by
          unfold lift itemNo
          rw [if_neg (by omega), if_pos (by omega)]
        rw [this]
        unfold LARGE
        omega
      exact h2 r hm
  · have hk : b.uses[k]? = some u := hk
    have h1 : Sat (useBounds b k u) x := fun q hq => hx q (mem_bounds.mpr (.inr ⟨k, u, hk, hq⟩))
    obtain ⟨h2, h3⟩ := sat_append.mp h1
    have h4 : Sat (useBounds (addItem b s) k u) (lift b x) := by
      refine sat_append.mpr ⟨sat_tool (b := b) (c := addItem b s) rfl lift_zero (lift_use k) (fun i _ => lift_use i) h2, sat_shows (b := b) (c := addItem b s) rfl lift_zero (lift_use k) (fun t i y e => ?_) h3⟩
      have := hv u (List.mem_of_getElem? hk)
      subst e
      exact lift_item this.2
    exact h4 r hm
/-- one tool more -/
def addTool (b : Book) (t : Tool) : Book := { b with tools := b.tools ++ [t] }
theorem valid_tool {b : Book} {t : Tool} (hv : Valid b) : Valid (addTool b t) := fun u hu => by
  have h := hv u hu
  have e : b.tools.length < (b.tools ++ [t]).length := by
    rw [List.length_append]
    simp
  cases u with
  | read t' i x => exact ⟨Nat.lt_trans h.1 e, h.2⟩
  | check t' a z x => exact Nat.lt_trans h e
theorem tool_add {b : Book} {t : Tool} {i : Nat} (h : i < b.tools.length) : (addTool b t).tool i = b.tool i := by
  unfold Book.tool addTool
  rw [List.getD_eq_getElem?_getD, List.getD_eq_getElem?_getD, List.getElem?_append_left h]
theorem poss_tool {b : Book} {t : Tool} (hv : Valid b) (hp : possible b = true) : possible (addTool b t) = true := by
  obtain ⟨x, hx⟩ := (poss_iff hv).mp hp
  refine (poss_iff (valid_tool hv)).mpr ⟨x, fun r hr => ?_⟩
  refine hx r ?_
  rcases mem_bounds.mp hr with ⟨i, hi, hm⟩ | ⟨k, u, hk, hm⟩
  · exact mem_bounds.mpr (.inl ⟨i, hi, hm⟩)
  · have hu : u.tool < b.tools.length := by
      have := hv u (List.mem_of_getElem? hk)
      cases u with
      | read t' i y => exact this.1
      | check t' a z y => exact this
    refine mem_bounds.mpr (.inr ⟨k, u, hk, ?_⟩)
    unfold useBounds at hm ⊢
    rcases List.mem_append.mp hm with q | q
    · refine List.mem_append.mpr (.inl ?_)
      unfold toolBounds at q ⊢
      rw [tool_add hu] at q
      exact q
    · refine List.mem_append.mpr (.inr ?_)
      cases u with
      | read t' i y =>
        have hu : t' < b.tools.length := hu
        unfold shows at q ⊢
        simp only [tool_add hu] at q ⊢
        exact q
      | check t' a z y =>
        have hu : t' < b.tools.length := hu
        unfold shows at q ⊢
        simp only [tool_add hu] at q ⊢
        exact q
end SbBook
end
section
namespace SbBook
open Ft FtBench FtNet SbNet
abbrev Span := Option Int × Option Int
def spanRows (low high : Nat) (s : Span) : List Bound := (match s.1 with
    | some l => [⟨high, low, -l⟩]
    | none => []) ++ (match s.2 with
    | some h => [⟨low, high, h⟩]
    | none => [])
def firstSpan (t : Tool) : Span := if t.kind = 0 then (some (-t.hi), some (-t.lo)) else (some t.lo, some t.hi)
def laterSpan (t : Tool) : Span := if t.kind = 0 then (some (-(t.d : Int)), some (t.d : Int)) else (some (-(t.d : Int)), some 0)
def readSpan (t : Tool) (r : Int) : Span := if t.kind = 0 then (some (r - t.e), some (r + t.e)) else if t.kind = 1 then (if r = 1 then (some 0, none) else (none, some (-1))) else (if r = 1 then (none, some 0) else (some 1, none))
def checkSpan (t : Tool) (a z r : Int) : Span := if t.kind = 0 then (some (a - r - t.e), some (z - r + t.e)) else (some a, some z)
def toolRows (b : Book) (t : Nat) (j : Option Nat) (k : Nat) : List Bound := match j with
  | none => spanRows 0 k (firstSpan (b.tool t))
  | some i => spanRows (b.useNo i) k (laterSpan (b.tool t))
def showRows (b : Book) (k : Nat) : Use → List Bound
  | .read t i r => spanRows k (itemNo i) (readSpan (b.tool t) r)
  | .check t a z r => spanRows 0 k (checkSpan (b.tool t) a z r)
def useRows (b : Book) (k : Nat) (u : Use) : List Bound := toolRows b u.tool (before b.uses k u.tool) (b.useNo k) ++ showRows b (b.useNo k) u
def itemRows (n : Nat) : List Bound := (List.range n).flatMap fun (i : Nat) => spanRows 0 (itemNo i) (some 1, some LARGE)
def rowsOf (b : Book) : List Bound := itemRows b.items.length ++ b.uses.zipIdx.flatMap fun (u : Use × Nat) => useRows b u.2 u.1
theorem mem_span {low high : Nat} {l h : Int} {r : Bound} : r ∈ spanRows low high (some l, some h) ↔ r ∈ from_ low high l h := by
  rw [mem_from]
  unfold spanRows
  simp
  exact ⟨fun h => h.symm, fun h => h.symm⟩
theorem mem_toolRows {b : Book} {t : Nat} {j : Option Nat} {k : Nat} {r : Bound} : r ∈ toolRows b t j k ↔ r ∈ toolBounds b t j k := by
  unfold toolRows toolBounds
  cases j with
  | none =>
    simp only
    unfold firstSpan atFirst
    split <;> exact mem_span
  | some i =>
    simp only
    unfold laterSpan goesOn
    split <;> exact mem_span
theorem mem_showRows {b : Book} {k : Nat} {u : Use} {r : Bound} : r ∈ showRows b k u ↔ r ∈ shows b k u := by
  cases u with
  | read t i x =>
    unfold showRows shows readSpan
    simp only
    by_cases h0 : (b.tool t).kind = 0
    · rw [if_pos h0, if_pos h0]
      exact mem_span
    · rw [if_neg h0, if_neg h0]
      by_cases h1 : (b.tool t).kind = 1
      · rw [if_pos h1, if_pos h1]
        by_cases h2 : x = 1
        · rw [if_pos h2, if_pos h2]
          simp [spanRows]
        · rw [if_neg h2, if_neg h2]
          simp [spanRows]
      · rw [if_neg h1, if_neg h1]
        by_cases h2 : x = 1
        · rw [if_pos h2, if_pos h2]
          simp [spanRows]
        · rw [if_neg h2, if_neg h2]
          simp [spanRows]
  | check t a z x =>
    unfold showRows shows checkSpan
    simp only
    split <;> exact mem_span
theorem mem_rowsOf {b : Book} (r : Bound) : r ∈ rowsOf b ↔ r ∈ bounds b := by
  rw [mem_bounds]
  unfold rowsOf itemRows
  rw [List.mem_append, List.mem_flatMap, List.mem_flatMap]
  constructor
  · rintro (⟨i, hi, h⟩ | ⟨⟨u, k⟩, hk, h⟩)
    · exact .inl ⟨i, by simpa using hi, mem_span.mp h⟩
    · refine .inr ⟨k, u, mem_zipIdx.mp hk, ?_⟩
      rcases List.mem_append.mp h with q | q
      · exact List.mem_append.mpr (.inl (mem_toolRows.mp q))
      · exact List.mem_append.mpr (.inr (mem_showRows.mp q))
  · rintro (⟨i, hi, h⟩ | ⟨k, u, hk, h⟩)
    · exact .inl ⟨i, by simpa using hi, mem_span.mpr h⟩
    · refine .inr ⟨(u, k), mem_zipIdx.mpr hk, ?_⟩
      rcases List.mem_append.mp h with q | q
      · exact List.mem_append.mpr (.inl (mem_toolRows.mpr q))
      · exact List.mem_append.mpr (.inr (mem_showRows.mpr q))
theorem size_pos (b : Book) : 0 < b.size := by unfold Book.size; omega
/-- a use more is possible just if the rounds come to an end -/
theorem poss_rounds {b : Book} (hv : Valid b) : (mostAbove (rowsOf b) b.size 0).isSome = possible b := by
  obtain ⟨h1, h2⟩ := mostAbove_spec (n := b.size) (rows := rowsOf b) (l := bounds b) mem_rowsOf (bounds_ends hv) joined (size_pos b)
  unfold possible table
  cases e : none_ b.size (closed b.size (bounds b)) with
  | true =>
    rw [h1 e]
    rfl
  | false =>
    obtain ⟨g, hg, _⟩ := h2 e
    rw [hg]
    rfl
theorem rounds_dist {b : Book} (hv : Valid b) (hp : possible b = true) {s : Nat} (hs : s < b.size) :
    ∃ g, mostAbove (rowsOf b) b.size s = some g ∧ g.length = b.size ∧ ∀ t, t < b.size → g.getD t none = some (dist b.size (bounds b) s t) := by
  have hn : none_ b.size (closed b.size (bounds b)) = false := by
    unfold possible table at hp
    simpa using hp
  exact (mostAbove_spec (n := b.size) (rows := rowsOf b) (l := bounds b) mem_rowsOf (bounds_ends hv) joined hs).2 hn
theorem ends_dist {b : Book} (hv : Valid b) (hp : possible b = true) {s t : Nat} (hs : s < b.size) (ht : t < b.size) :
    both (ends b.size (table b) s t) = (-(dist b.size (bounds b) t s), dist b.size (bounds b) s t) := by
  have hn : none_ b.size (closed b.size (bounds b)) = false := by
    unfold possible table at hp
    simpa using hp
  have e1 := dist_some (bounds_ends hv) hn hs (joined s t hs ht)
  have e2 := dist_some (bounds_ends hv) hn ht (joined t s ht hs)
  unfold both ends table
  rw [e1, e2]
  rfl
end SbBook
end
section
namespace SbBook
open Ft FtBench FtNet SbNet
/-- a use as the program keeps it -/
structure PUse where
  tool : Nat
  item : Option Nat
  span : Span
def toP (b : Book) : Use → PUse
  | .read t i r => ⟨t, some i, readSpan (b.tool t) r⟩
  | .check t a z r => ⟨t, none, checkSpan (b.tool t) a z r⟩
theorem toP_tool (b : Book) (u : Use) : (toP b u).tool = u.tool := by cases u <;> rfl
def lastB (us : List PUse) : Nat → Nat → Option Nat
  | 0, _ => none
  | k + 1, t => if (us[k]?).map PUse.tool = some t then some k else lastB us k t
def pTool (tools : List Tool) (t : Nat) : Tool := tools.getD t ⟨0, 0, 0, 0, 0⟩
def pToolRows (items : Nat) (tl : Tool) (j : Option Nat) (m : Nat) : List Bound := match j with
  | none => spanRows 0 m (firstSpan tl)
  | some i => spanRows (items + 1 + i) m (laterSpan tl)
def pShowRows (m : Nat) (u : PUse) : List Bound := match u.item with
  | none => spanRows 0 m u.span
  | some i => spanRows m (i + 1) u.span
def pUseRows (items : Nat) (tools : List Tool) (us : List PUse) (k : Nat) (u : PUse) : List Bound :=
  pToolRows items (pTool tools u.tool) (lastB us k u.tool) (items + 1 + k) ++ pShowRows (items + 1 + k) u
def pRowsTo (items : Nat) (tools : List Tool) (us : List PUse) : Nat → List Bound
  | 0 => itemRows items
  | k + 1 => pRowsTo items tools us k ++ (match us[k]? with
    | some u => pUseRows items tools us k u
    | none => [])
def pRows (items : Nat) (tools : List Tool) (us : List PUse) : List Bound := pRowsTo items tools us us.length
theorem itemRows_succ (n : Nat) : itemRows (n + 1) = itemRows n ++ spanRows 0 (n + 1) (some 1, some LARGE) := by
  unfold itemRows
  rw [List.range_succ, List.flatMap_append]
  simp [itemNo, Nat.add_comm]
theorem spanRows_len (a b : Nat) (s : Span) : (spanRows a b s).length ≤ 2 := by
  obtain ⟨x, y⟩ := s
  cases x <;> cases y <;> simp [spanRows]
theorem itemRows_len : ∀ n, (itemRows n).length ≤ 2 * n
  | 0 => by simp [itemRows]
  | n + 1 => by
    rw [itemRows_succ, List.length_append]
    have h1 := itemRows_len n
    have h2 := spanRows_len 0 (n + 1) (some 1, some LARGE)
    omega
theorem pUseRows_len (items : Nat) (tools : List Tool) (us : List PUse) (k : Nat) (u : PUse) : (pUseRows items tools us k u).length ≤ 4 := by
  unfold pUseRows
  rw [List.length_append]
  have h1 : (pToolRows items (pTool tools u.tool) (lastB us k u.tool) (items + 1 + k)).length ≤ 2 := by
    unfold pToolRows
    split <;> exact spanRows_len ..
  have h2 : (pShowRows (items + 1 + k) u).length ≤ 2 := by
    unfold pShowRows
    split <;> exact spanRows_len ..
  omega
theorem pRowsTo_len (items : Nat) (tools : List Tool) (us : List PUse) : ∀ k, (pRowsTo items tools us k).length ≤ 2 * items + 4 * k
  | 0 => by
    have := itemRows_len items
    unfold pRowsTo
    omega
  | k + 1 => by
    unfold pRowsTo
    rw [List.length_append]
    have h1 := pRowsTo_len items tools us k
    cases e : us[k]? with
    | none => simp; omega
    | some u =>
      have h2 := pUseRows_len items tools us k u
      simp only
      omega
theorem mem_pRowsTo {items : Nat} {tools : List Tool} {us : List PUse} {r : Bound} : ∀ k, r ∈ pRowsTo items tools us k ↔ r ∈ itemRows items ∨ ∃ j u, j < k ∧ us[j]? = some u ∧ r ∈ pUseRows items tools us j u
  | 0 => by simp [pRowsTo]
  | k + 1 => by
    unfold pRowsTo
    rw [List.mem_append, mem_pRowsTo k]
    constructor
    · rintro ((h | ⟨j, u, h1, h2, h3⟩) | h)
      · exact .inl h
      · exact .inr ⟨j, u, by omega, h2, h3⟩
      · cases e : us[k]? with
        | none => rw [e] at h; simp at h
        | some u =>
          rw [e] at h
          exact .inr ⟨k, u, by omega, e, h⟩
    · rintro (h | ⟨j, u, h1, h2, h3⟩)
      · exact .inl (.inl h)
      · by_cases c : j = k
        · subst c
          rw [h2]
          exact .inr h3
        · exact .inl (.inr ⟨j, u, by omega, h2, h3⟩)
theorem lastB_before {b : Book} {t : Nat} : ∀ k, k ≤ b.uses.length → lastB (b.uses.map (toP b)) k t = before b.uses k t
  | 0, _ => (before_zero _ _).symm
  | k + 1, hk => by
    have hlt : k < b.uses.length := by omega
    have e := List.getElem?_eq_getElem hlt
    rw [before_succ e]
    unfold lastB
    rw [List.getElem?_map, e, lastB_before k (by omega)]
    simp only [Option.map_some, toP_tool, Option.some.injEq]
theorem lastB_append {us r : List PUse} {t : Nat} : ∀ k, k ≤ us.length → lastB (us ++ r) k t = lastB us k t
  | 0, _ => rfl
  | k + 1, hk => by
    unfold lastB
    rw [List.getElem?_append_left (by omega), lastB_append k (by omega)]
theorem lastB_lt {us : List PUse} {t j : Nat} : ∀ k, lastB us k t = some j → j < k
  | 0, h => by cases h
  | k + 1, h => by
    unfold lastB at h
    split at h
    · cases h; omega
    · have := lastB_lt k h
      omega
theorem pTool_eq (b : Book) (t : Nat) : pTool b.tools t = b.tool t := rfl
theorem pShow_eq {b : Book} {m : Nat} {u : Use} : pShowRows m (toP b u) = showRows b m u := by
  cases u with
  | read t i r =>
    show spanRows m (i + 1) _ = spanRows m (itemNo i) _
    rw [show itemNo i = i + 1 from Nat.add_comm 1 i]
    rfl
  | check t a z r => rfl
theorem useNo_eq (b : Book) (k : Nat) : b.items.length + 1 + k = b.useNo k := by unfold Book.useNo; omega
theorem pToolRows_eq {b : Book} {t m : Nat} {j : Option Nat} : pToolRows b.items.length (pTool b.tools t) j m = toolRows b t j m := by
  unfold pToolRows toolRows
  cases j with
  | none => rfl
  | some i =>
    simp only
    rw [useNo_eq]
    rfl
theorem pUse_eq {b : Book} {k : Nat} {u : Use} (hk : k ≤ b.uses.length) : pUseRows b.items.length b.tools (b.uses.map (toP b)) k (toP b u) = useRows b k u := by
  unfold pUseRows useRows
  rw [lastB_before k hk, pToolRows_eq, useNo_eq, pShow_eq, toP_tool]
theorem mem_pRows {b : Book} (r : Bound) : r ∈ pRows b.items.length b.tools (b.uses.map (toP b)) ↔ r ∈ bounds b := by
  rw [← mem_rowsOf]
  unfold pRows rowsOf
  rw [mem_pRowsTo, List.mem_append, List.mem_flatMap]
  constructor
  · rintro (h | ⟨j, u, h1, h2, h3⟩)
    · exact .inl h
    · rw [List.getElem?_map] at h2
      obtain ⟨v, hv, rfl⟩ := Option.map_eq_some_iff.mp h2
      rw [List.length_map] at h1
      exact .inr ⟨(v, j), mem_zipIdx.mpr hv, by rw [← pUse_eq (by omega)]; exact h3⟩
  · rintro (h | ⟨⟨v, j⟩, h1, h2⟩)
    · exact .inl h
    · have hv := mem_zipIdx.mp h1
      have hj := uses_lt hv
      exact .inr ⟨j, toP b v, by rw [List.length_map]; exact hj, by rw [List.getElem?_map, hv]; rfl, by rw [pUse_eq (by omega)]; exact h2⟩
/-! ### what the program's rounds tell -/
theorem p_poss {b : Book} (hv : Valid b) : (mostAbove (pRows b.items.length b.tools (b.uses.map (toP b))) b.size 0).isSome = possible b := by
  obtain ⟨h1, h2⟩ := mostAbove_spec (n := b.size) (l := bounds b) mem_pRows (bounds_ends hv) joined (size_pos b)
  unfold possible table
  cases e : none_ b.size (closed b.size (bounds b)) with
  | true =>
    rw [h1 e]
    rfl
  | false =>
    obtain ⟨g, hg, _⟩ := h2 e
    rw [hg]
    rfl
/-- what the value at t is above that at s, at the least and at the most, as the program reckons it -/
def pBetween (rows : List Bound) (n s t : Nat) (x : Int × Int) : Prop := ∃ g h, mostAbove rows n t = some g ∧ mostAbove rows n s = some h ∧ g.length = n ∧ h.length = n ∧ g.getD s none = some (-x.1) ∧ h.getD t none = some x.2
theorem p_ends {b : Book} (hv : Valid b) (hp : possible b = true) {s t : Nat} (hs : s < b.size) (ht : t < b.size) :
    pBetween (pRows b.items.length b.tools (b.uses.map (toP b))) b.size s t (both (ends b.size (table b) s t)) := by
  have hn : none_ b.size (closed b.size (bounds b)) = false := by
    unfold possible table at hp
    simpa using hp
  obtain ⟨g, g1, g2, g3⟩ := (mostAbove_spec (n := b.size) (l := bounds b) mem_pRows (bounds_ends hv) joined ht).2 hn
  obtain ⟨h, h1, h2, h3⟩ := (mostAbove_spec (n := b.size) (l := bounds b) mem_pRows (bounds_ends hv) joined hs).2 hn
  rw [ends_dist hv hp hs ht]
  exact ⟨g, h, g1, h1, g2, h2, by rw [g3 s hs]; simp, h3 t ht⟩
/-! ### one number more -/
def silent (t : Nat) : PUse := ⟨t, none, (none, none)⟩
def moreB (b : Book) (t : Nat) : List Bound := bounds b ++ toolBounds b t (before b.uses b.uses.length t) b.size
theorem size_useNo (b : Book) : b.useNo b.uses.length = b.size := rfl
theorem mem_pMore {b : Book} {t : Nat} (r : Bound) : r ∈ pRows b.items.length b.tools (b.uses.map (toP b) ++ [silent t]) ↔ r ∈ moreB b t := by
  unfold moreB
  rw [List.mem_append, ← mem_pRows]
  unfold pRows
  rw [mem_pRowsTo, mem_pRowsTo]
  have hl : (b.uses.map (toP b) ++ [silent t]).length = b.uses.length + 1 := by simp
  have hlast : pUseRows b.items.length b.tools (b.uses.map (toP b) ++ [silent t]) b.uses.length (silent t) = toolRows b t (before b.uses b.uses.length t) b.size := by
    unfold pUseRows
    rw [lastB_append _ (by simp), show (silent t).tool = t from rfl, lastB_before _ (Nat.le_refl _), pToolRows_eq, useNo_eq, size_useNo]
    simp [pShowRows, silent, spanRows]
  have hold : ∀ j u, j < b.uses.length → pUseRows b.items.length b.tools (b.uses.map (toP b) ++ [silent t]) j u = pUseRows b.items.length b.tools (b.uses.map (toP b)) j u := fun j u hj => by
    unfold pUseRows
    rw [lastB_append _ (by simp; omega)]
  constructor
  · rintro (h | ⟨j, u, h1, h2, h3⟩)
    · exact .inl (.inl h)
    · rw [hl] at h1
      by_cases c : j < b.uses.length
      · rw [List.getElem?_append_left (by simpa using c)] at h2
        rw [hold j u c] at h3
        exact .inl (.inr ⟨j, u, by simpa using c, h2, h3⟩)
      · have e : j = b.uses.length := by omega
        subst e
        rw [List.getElem?_append_right (by simp)] at h2
        simp at h2
        subst h2
        rw [hlast] at h3
        exact .inr (mem_toolRows.mp h3)
  · rintro ((h | ⟨j, u, h1, h2, h3⟩) | h)
    · exact .inl h
    · have h1' : j < b.uses.length := by simpa using h1
      exact .inr ⟨j, u, by rw [hl]; omega, by rw [List.getElem?_append_left h1]; exact h2, by rw [hold j u h1']; exact h3⟩
    · refine .inr ⟨b.uses.length, silent t, by rw [hl]; omega, ?_, by rw [hlast]; exact mem_toolRows.mpr h⟩
      rw [List.getElem?_append_right (by simp)]
      simp
theorem more_ends {b : Book} (hv : Valid b) (t : Nat) : ∀ r, r ∈ moreB b t → r.a < b.size + 1 ∧ r.b < b.size + 1 := by
  intro r hr
  rcases List.mem_append.mp hr with h | h
  · have := bounds_ends hv r h
    omega
  · refine tool_ends h (by omega) (by omega) fun i hi => ?_
    have := (before_some hi).1
    have e : b.useNo i < b.size := by
      unfold Book.useNo Book.size
      omega
    omega
theorem more_joined {b : Book} (t : Nat) : ∀ s u, s < b.size + 1 → u < b.size + 1 → Reach (moreB b t) s u := by
  have hl : ∀ r, r ∈ bounds b → r ∈ moreB b t := fun r h => List.mem_append_left _ h
  have j0 : ∀ v, v < b.size + 1 → Reach (moreB b t) 0 v ∧ Reach (moreB b t) v 0 := fun v hv => by
    by_cases c : v < b.size
    · exact join0 hl c
    · have e : v = b.size := by omega
      subst e
      refine tool_join (b := b) (t := t) (j := before b.uses b.uses.length t) (fun r h => List.mem_append_right _ h) fun i hi => ?_
      exact use_join hl i (before_some hi).1
  exact fun s u hs hu => (j0 s hs).2.trans (j0 u hu).1
/-- the tools are as they may be -/
def Tight (b : Book) : Prop := ∀ t, t < b.tools.length → (b.tool t).lo ≤ (b.tool t).hi
theorem sat_first {t : Tool} {k : Nat} {x : Nat → Int} (h : t.lo ≤ t.hi) (hk : x k - x 0 = if t.kind = 0 then -t.lo else t.lo) : Sat (atFirst t k) x := by
  unfold atFirst
  split
  · rename_i c
    rw [if_pos c] at hk
    exact sat_from.mpr ⟨by omega, by omega⟩
  · rename_i c
    rw [if_neg c] at hk
    exact sat_from.mpr ⟨by omega, by omega⟩
theorem sat_goes {t : Tool} {j k : Nat} {x : Nat → Int} (hk : x k = x j) : Sat (goesOn t j k) x := by
  unfold goesOn
  split
  · exact sat_from.mpr ⟨by omega, by omega⟩
  · exact sat_from.mpr ⟨by omega, by omega⟩
theorem more_world {b : Book} (hv : Valid b) (hp : possible b = true) {t : Nat} (hlo : (b.tool t).lo ≤ (b.tool t).hi) : ∃ x, Sat (moreB b t) x := by
  obtain ⟨x, hx⟩ := (poss_iff hv).mp hp
  cases e : before b.uses b.uses.length t with
  | none =>
    refine ⟨fun v => if v = b.size then x 0 + (if (b.tool t).kind = 0 then -(b.tool t).lo else (b.tool t).lo) else x v, sat_append.mpr ⟨fun r hr => ?_, ?_⟩⟩
    · have hb := bounds_ends hv r hr
      simp only
      rw [if_neg (by omega), if_neg (by omega)]
      exact hx r hr
    · rw [e]
      have h0 : 0 ≠ b.size := by have := size_pos b; omega
      refine sat_first hlo ?_
      simp only [if_true]
      rw [if_neg h0]
      omega
  | some i =>
    have hi := (before_some e).1
    have hne : b.useNo i ≠ b.size := by unfold Book.useNo Book.size; omega
    refine ⟨fun v => if v = b.size then x (b.useNo i) else x v, sat_append.mpr ⟨fun r hr => ?_, ?_⟩⟩
    · have hb := bounds_ends hv r hr
      simp only
      rw [if_neg (by omega), if_neg (by omega)]
      exact hx r hr
    · rw [e]
      refine sat_goes ?_
      simp only [if_true]
      rw [if_neg hne]
/-- the least and the most of the number at the next use, not yet turned -/
def nextRaw (b : Book) (t : Nat) : Int × Int := both (ends (b.size + 1) (closed (b.size + 1) (moreB b t)) 0 b.size)
theorem next_raw (b : Book) (t : Nat) : FtBench.next b t = if (b.tool t).kind = 0 then (-(nextRaw b t).2, -(nextRaw b t).1) else nextRaw b t := rfl
theorem p_next {b : Book} (hv : Valid b) (hp : possible b = true) {t : Nat} (hlo : (b.tool t).lo ≤ (b.tool t).hi) :
    pBetween (pRows b.items.length b.tools (b.uses.map (toP b) ++ [silent t])) (b.size + 1) 0 b.size (nextRaw b t) := by
  obtain ⟨x, hx⟩ := more_world hv hp hlo
  have hl := more_ends hv t
  have hn : none_ (b.size + 1) (closed (b.size + 1) (moreB b t)) = false := by
    cases e : none_ (b.size + 1) (closed (b.size + 1) (moreB b t)) with
    | false => rfl
    | true => exact (none_true_not hl e hx).elim
  have hs : 0 < b.size + 1 := by omega
  have ht : b.size < b.size + 1 := by omega
  obtain ⟨g, g1, g2, g3⟩ := (mostAbove_spec (n := b.size + 1) (l := moreB b t) mem_pMore hl (more_joined t) ht).2 hn
  obtain ⟨h, h1, h2, h3⟩ := (mostAbove_spec (n := b.size + 1) (l := moreB b t) mem_pMore hl (more_joined t) hs).2 hn
  have e1 := dist_some hl hn hs (more_joined t 0 b.size hs ht)
  have e2 := dist_some hl hn ht (more_joined t b.size 0 ht hs)
  have e : nextRaw b t = (-(dist (b.size + 1) (moreB b t) b.size 0), dist (b.size + 1) (moreB b t) 0 b.size) := by
    unfold nextRaw both ends
    rw [e1, e2]
    rfl
  rw [e]
  exact ⟨g, h, g1, h1, g2, h2, by rw [g3 0 hs]; simp, h3 b.size ht⟩
end SbBook
end
section
namespace SbBook
open Ft FtBench FtNet SbNet
/-- a book as the bench keeps it -/
structure Good (b : Book) : Prop where
  valid : Valid b
  poss : possible b = true
  right : ∀ t, t ∈ b.tools → t.right = true
  items : b.items.length ≤ 16
  tools : b.tools.length ≤ 8
  uses : b.uses.length ≤ 32
theorem good_empty : Good Book.empty := ⟨fun u hu => (by cases hu), poss_empty rfl, fun t ht => (by cases ht), Nat.zero_le _, Nat.zero_le _, Nat.zero_le _⟩
theorem valid_more {b : Book} {u : Use} (hv : Valid b) (hu : Use.okIn b u) : Valid (b.more u) := fun v hv' => by
  have hv' : v ∈ b.uses ++ [u] := hv'
  rcases List.mem_append.mp hv' with h | h
  · have := hv v h
    cases v <;> exact this
  · have e : v = u := by simpa using h
    subst e
    cases v <;> exact hu
theorem good_more {b : Book} {u : Use} (g : Good b) (hu : Use.okIn b u) (hp : possible (b.more u) = true) (hl : ¬ 32 ≤ b.uses.length) : Good (b.more u) :=
  ⟨valid_more g.valid hu, hp, g.right, g.items, g.tools, by
    show (b.uses ++ [u]).length ≤ 32
    rw [List.length_append]
    show b.uses.length + 1 ≤ 32
    omega⟩
theorem good_item {b : Book} {s : Size} (g : Good b) (hl : ¬ 16 ≤ b.items.length) : Good (addItem b s) :=
  ⟨valid_item g.valid, poss_item g.valid g.poss, g.right, by
    show (b.items ++ [s]).length ≤ 16
    rw [List.length_append]
    show b.items.length + 1 ≤ 16
    omega, g.tools, g.uses⟩
theorem good_tool {b : Book} {t : Tool} (g : Good b) (ht : t.right = true) (hl : ¬ 8 ≤ b.tools.length) : Good (addTool b t) :=
  ⟨valid_tool g.valid, poss_tool g.valid g.poss, fun x hx => by
    have hx : x ∈ b.tools ++ [t] := hx
    rcases List.mem_append.mp hx with h | h
    · exact g.right x h
    · have e : x = t := by simpa using h
      rw [e]
      exact ht, g.items, by
    show (b.tools ++ [t]).length ≤ 8
    rw [List.length_append]
    show b.tools.length + 1 ≤ 8
    omega, g.uses⟩
theorem good_first {b : Book} {n : Nat} (g : Good b) : Good (b.first n) :=
  ⟨valid_first g.valid, poss_first g.valid g.poss, g.right, g.items, g.tools, by
    show (b.uses.take n).length ≤ 32
    rw [List.length_take]
    have := g.uses
    omega⟩
theorem toP_more (b : Book) (u : Use) : (b.more u).uses.map (toP (b.more u)) = b.uses.map (toP b) ++ [toP b u] := by
  have e : toP (b.more u) = toP b := by
    funext v
    cases v <;> rfl
  rw [e]
  show (b.uses ++ [u]).map (toP b) = _
  rw [List.map_append]
  rfl
theorem toP_item (b : Book) (s : Size) : (addItem b s).uses.map (toP (addItem b s)) = b.uses.map (toP b) := by
  have e : toP (addItem b s) = toP b := by
    funext v
    cases v <;> rfl
  rw [e]
  rfl
theorem toP_tool' {b : Book} {t : Tool} (hv : Valid b) : (addTool b t).uses.map (toP (addTool b t)) = b.uses.map (toP b) := by
  show b.uses.map (toP (addTool b t)) = _
  refine List.map_congr_left fun u hu => ?_
  have h := hv u hu
  cases u with
  | read i j r =>
    have h : i < b.tools.length := h.1
    show PUse.mk _ _ _ = PUse.mk _ _ _
    rw [tool_add h]
  | check i a z r =>
    have h : i < b.tools.length := h
    show PUse.mk _ _ _ = PUse.mk _ _ _
    rw [tool_add h]
theorem toP_first (b : Book) (n : Nat) : (b.first n).uses.map (toP (b.first n)) = (b.uses.map (toP b)).take n := by
  have e : toP (b.first n) = toP b := by
    funext v
    cases v <;> rfl
  rw [e]
  show (b.uses.take n).map (toP b) = _
  rw [List.map_take]
theorem tool_mem {b : Book} {t : Nat} (h : t < b.tools.length) : b.tools[t]? = some (b.tool t) ∧ b.tool t ∈ b.tools := by
  have e : b.tools[t]? = some (b.tool t) := by
    unfold Book.tool
    rw [List.getD_eq_getElem?_getD, List.getElem?_eq_getElem h]
    rfl
  exact ⟨e, List.mem_of_getElem? e⟩
theorem right_le {t : Tool} (h : t.right = true) : t.lo ≤ t.hi := by
  unfold Tool.right at h
  simp only [Bool.and_eq_true, decide_eq_true_eq] at h
  exact h.2.2.2.2.1
theorem use_tool {b : Book} (g : Good b) : ∀ u, u ∈ b.uses.map (toP b) → u.tool < b.tools.length := fun u hu => by
  obtain ⟨v, hv, rfl⟩ := List.mem_map.mp hu
  have h := g.valid v hv
  rw [toP_tool]
  cases v with
  | read i j r => exact h.1
  | check i a z r => exact h
theorem rows_in {b : Book} (hv : Valid b) : ∀ r, r ∈ pRows b.items.length b.tools (b.uses.map (toP b)) → r.a < b.size ∧ r.b < b.size := fun r hr => bounds_ends hv r ((mem_pRows r).mp hr)
theorem more_in {b : Book} (hv : Valid b) (t : Nat) : ∀ r, r ∈ pRows b.items.length b.tools (b.uses.map (toP b) ++ [silent t]) → r.a < b.size + 1 ∧ r.b < b.size + 1 := fun r hr => more_ends hv t r ((mem_pMore r).mp hr)
end SbBook
end
section
namespace SbSize
open Ft
def lf (p : Nat → Bool) (i r : Nat) : Nat := if p (r + 2 ^ i) = true then r else r + 2 ^ i
theorem least_fold (p : Nat → Bool) : ∀ (b r0 : Nat), p r0 = false → p (r0 + 2 ^ b) = true →
    p ((List.range b).foldr (lf p) r0) = false ∧ p ((List.range b).foldr (lf p) r0 + 1) = true
  | 0, r0, h0, h1 => ⟨h0, h1⟩
  | b + 1, r0, h0, h1 => by
    have e : (List.range (b + 1)).foldr (lf p) r0 = (List.range b).foldr (lf p) (lf p b r0) := by
      rw [List.range_succ, List.foldr_append]
      rfl
    rw [e]
    by_cases c : p (r0 + 2 ^ b) = true
    · rw [show lf p b r0 = r0 from if_pos c]
      exact least_fold p b r0 h0 c
    · rw [show lf p b r0 = r0 + 2 ^ b from if_neg c]
      refine least_fold p b (r0 + 2 ^ b) (by cases e : p (r0 + 2 ^ b) with | false => rfl | true => exact absurd e c) ?_
      rw [Nat.add_assoc, ← Nat.two_mul, Nat.mul_comm, ← Nat.pow_succ]
      exact h1
theorem least_def (b : Nat) (p : Nat → Bool) : least b p = if p 0 = true then 0 else (List.range b).foldr (lf p) 0 + 1 := rfl
/-- the least number for which p holds -/
theorem least_eq {p : Nat → Bool} {b t : Nat} (hm : ∀ x y, x ≤ y → p x = true → p y = true) (hb : p (2 ^ b) = true) (ht : p t = true) (hl : ∀ x, x < t → p x = false) : least b p = t := by
  rw [least_def]
  by_cases h0 : p 0 = true
  · rw [if_pos h0]
    cases t with
    | zero => rfl
    | succ t =>
      have := hl 0 (by omega)
      rw [h0] at this
      cases this
  · rw [if_neg h0]
    have h0' : p 0 = false := by cases e : p 0 with | false => rfl | true => exact absurd e h0
    obtain ⟨h1, h2⟩ := least_fold p b 0 h0' (by simpa using hb)
    generalize (List.range b).foldr (lf p) 0 = r at h1 h2 ⊢
    have a : ¬ r + 1 < t := fun c => by
      rw [hl _ c] at h2
      cases h2
    have b : ¬ t ≤ r := fun c => by
      rw [hm _ _ c ht] at h1
      cases h1
    omega
theorem least_ok {p : Nat → Bool} {b : Nat} (hb : p (2 ^ b) = true) : p (least b p) = true := by
  rw [least_def]
  by_cases h0 : p 0 = true
  · rw [if_pos h0]
    exact h0
  · rw [if_neg h0]
    have h0' : p 0 = false := by cases e : p 0 with | false => rfl | true => exact absurd e h0
    exact (least_fold p b 0 h0' (by simpa using hb)).2
theorem cube_mono {x y : Nat} (h : x ≤ y) : x ^ 3 ≤ y ^ 3 := Nat.pow_le_pow_left h 3
theorem unit_eq {n u : Nat} (hn1 : 1 ≤ n) (hn : n ≤ 2147483647) (h : n ≤ 111 * (u * u * u)) (hl : ∀ m, m < u → 111 * (m * m * m) < n) : unit n = u := by
  have cu : ∀ x : Nat, x ^ 3 = x * x * x := fun x => by
    rw [Nat.pow_succ, Nat.pow_succ, Nat.pow_succ, Nat.pow_zero, Nat.one_mul]
  refine least_eq (fun x y hxy hx => ?_) ?_ ?_ fun x hx => ?_
  · have hx : n ≤ 111 * x ^ 3 := by simpa using hx
    have := cube_mono hxy
    simp
    omega
  · simp
    omega
  · simp only [decide_eq_true_eq]
    rw [cu]
    exact h
  · simp only [decide_eq_false_iff_not]
    rw [cu]
    have := hl x hx
    omega
theorem unit_le {n : Nat} (hn : n ≤ 2147483647) : unit n ≤ 269 := by
  apply Classical.byContradiction
  intro hc
  have hk : ∃ u, n ≤ 111 * (u * u * u) ∧ u ≤ 269 ∧ ∀ m, m < u → 111 * (m * m * m) < n := by
    have hs : ∀ k, n ≤ 111 * (k * k * k) → ∃ u, u ≤ k ∧ n ≤ 111 * (u * u * u) ∧ ∀ m, m < u → 111 * (m * m * m) < n := by
      intro k
      induction k using Nat.strongRecOn with
      | ind k ih =>
        intro hk
        by_cases c : ∃ m, m < k ∧ n ≤ 111 * (m * m * m)
        · obtain ⟨m, hm, hm2⟩ := c
          obtain ⟨u, hu, hu2⟩ := ih m hm hm2
          exact ⟨u, by omega, hu2⟩
        · exact ⟨k, Nat.le_refl _, hk, fun m hm => Nat.lt_of_not_le fun q => c ⟨m, hm, q⟩⟩
    obtain ⟨u, hu, h2, h3⟩ := hs 269 (by omega)
    exact ⟨u, h2, hu, h3⟩
  obtain ⟨u, h2, h3, h4⟩ := hk
  by_cases hn1 : 1 ≤ n
  · rw [unit_eq hn1 hn h2 h4] at hc
    omega
  · have : n = 0 := by omega
    subst this
    exact absurd hc (by decide)
theorem unit_pos {n : Nat} (hn1 : 1 ≤ n) : 1 ≤ unit n := by
  unfold unit least
  rw [if_neg (by simp; omega)]
  omega
theorem width_eq {n g t : Nat} (hn : n ≤ 2147483647) (hg : g ≤ 21) (h : unit n ^ 2 * 2 ^ g ≤ t * t) (hl : ∀ m, m < t → m * m < unit n ^ 2 * 2 ^ g) : width n g = t := by
  have hu := unit_le hn
  have hq : unit n ^ 2 * 2 ^ g ≤ (2 ^ 20) ^ 2 := by
    have h1 : unit n ^ 2 ≤ 269 ^ 2 := Nat.pow_le_pow_left hu 2
    have h2 : 2 ^ g ≤ 2 ^ 21 := Nat.pow_le_pow_right (by decide) hg
    exact Nat.le_trans (Nat.mul_le_mul h1 h2) (by decide)
  have sq : ∀ x : Nat, x ^ 2 = x * x := fun x => by rw [Nat.pow_succ, Nat.pow_succ, Nat.pow_zero, Nat.one_mul]
  unfold width
  generalize unit n ^ 2 * 2 ^ g = q at *
  refine least_eq (fun x y hxy hx => ?_) (by simpa using hq) (by simp only [decide_eq_true_eq]; rw [sq]; exact h) fun x hx => ?_
  · have hx : q ≤ x ^ 2 := by simpa using hx
    have := Nat.pow_le_pow_left hxy 2
    simp
    omega
  · simp only [decide_eq_false_iff_not]
    rw [sq]
    have := hl x hx
    omega
theorem width_le {n g : Nat} (hn : n ≤ 2147483647) (hg : g ≤ 21) : width n g ≤ 1048576 := by
  have hu := unit_le hn
  have hq : unit n ^ 2 * 2 ^ g ≤ (2 ^ 20) ^ 2 := by
    have h1 : unit n ^ 2 ≤ 269 ^ 2 := Nat.pow_le_pow_left hu 2
    have h2 : 2 ^ g ≤ 2 ^ 21 := Nat.pow_le_pow_right (by decide) hg
    exact Nat.le_trans (Nat.mul_le_mul h1 h2) (by decide)
  have sq : ∀ x : Nat, x ^ 2 = x * x := fun x => by rw [Nat.pow_succ, Nat.pow_succ, Nat.pow_zero, Nat.one_mul]
  generalize hQ : unit n ^ 2 * 2 ^ g = q at *
  have hs : ∀ k, q ≤ k * k → ∃ u, u ≤ k ∧ q ≤ u * u ∧ ∀ m, m < u → m * m < q := by
    intro k
    induction k using Nat.strongRecOn with
    | ind k ih =>
      intro hk
      by_cases c : ∃ m, m < k ∧ q ≤ m * m
      · obtain ⟨m, hm, hm2⟩ := c
        obtain ⟨u, hu, hu2⟩ := ih m hm hm2
        exact ⟨u, by omega, hu2⟩
      · exact ⟨k, Nat.le_refl _, hk, fun m hm => Nat.lt_of_not_le fun q => c ⟨m, hm, q⟩⟩
  obtain ⟨u, h1, h2, h3⟩ := hs (2 ^ 20) (by rw [← sq]; exact hq)
  rw [width_eq hn hg (by rw [hQ]; exact h2) (by rw [hQ]; exact h3)]
  simpa using h1
end SbSize
end
section
namespace SbText
open Ft
def ahead (b : Bytes) (p : Nat) : Int := match b[p]? with
  | some c => (c.toNat : Int)
  | none => -1
def isDig (c : Int) : Prop := 48 ≤ c ∧ c ≤ 57
instance (c : Int) : Decidable (isDig c) := by unfold isDig; infer_instance
/-- digits ahead of the point: as many more as fuel -/
def wl (b : Bytes) : Nat → Nat → Int → Int × Nat
  | 0, p, w => (w, p)
  | f + 1, p, w => if 0 < w ∧ isDig (ahead b p) then wl b f (p + 1) (w * 10 + (ahead b p - 48)) else (w, p)
/-- digits behind the point: the next is worth 10 ^ (fuel - 1) -/
def fl (b : Bytes) : Nat → Nat → Int → Int → Except Nat (Int × Int × Nat)
  | 0, p, tk, d => .ok (tk, d, p)
  | j + 1, p, tk, d => if d = 0 ∨ isDig (ahead b p) then (if isDig (ahead b p) then fl b j (p + 1) (tk + (ahead b p - 48) * 10 ^ j) (ahead b p - 48) else .error p) else .ok (tk, d, p)
def whole (b : Bytes) (p : Nat) : Except Nat (Int × Nat) := if isDig (ahead b p) then .ok (wl b 8 (p + 1) (ahead b p - 48)) else .error p
def fraction (b : Bytes) (p : Nat) : Except Nat (Int × Nat) := match fl b 4 p 0 0 with
  | .error q => .error q
  | .ok (tk, d, p') => if d = 0 then .error (p' - 1) else .ok (tk, p')
def number (b : Bytes) (p : Nat) : Except Nat (Int × Nat) := match whole b p with
  | .error q => .error q
  | .ok (w, p1) => if ahead b p1 = 46 then (match fraction b (p1 + 1) with
    | .error q => .error q
    | .ok (tk, p2) => .ok (w * 10000 + tk, p2)) else .ok (w * 10000, p1)
/-- a deviation: its ticks, the place of its first digit, where it ends -/
def deviation (b : Bytes) (p : Nat) : Except Nat (Int × Nat × Nat) := if ahead b p = 43 ∨ ahead b p = 45 then (match number b (p + 1) with
    | .error q => .error q
    | .ok (tk, p') => if ahead b p = 43 then .ok (tk, p + 1, p') else if 0 < tk then .ok (-tk, p + 1, p') else .error p') else .error p
def grade (b : Bytes) (p : Nat) : Except Nat (Int × Nat) := if isDig (ahead b p) then
    (if ahead b p - 48 = 1 ∧ 48 ≤ ahead b (p + 1) ∧ ahead b (p + 1) ≤ 54 then .ok (10 + (ahead b (p + 1) - 48), p + 2) else .ok (ahead b p - 48, p + 1)) else .error p
structure Shp where
  nominal : Int
  form : Nat
  behind : Nat
  devs : List (Int × Nat)
  letter : Int
  grade : Int
def isLet (c : Int) : Prop := (65 ≤ c ∧ c ≤ 90) ∨ (97 ≤ c ∧ c ≤ 122)
instance (c : Int) : Decidable (isLet c) := by unfold isLet; infer_instance
/-- what stands behind the blank -/
def behindOf (b : Bytes) (n : Int) (p : Nat) : Except Nat (Shp × Nat) :=
  if ahead b p = 43 ∧ ahead b (p + 1) = 45 then (match number b (p + 2) with
    | .error q => .error q
    | .ok (tk, p') => .ok (⟨n, 1, p, [(tk, p + 2)], 0, 0⟩, p'))
  else if isLet (ahead b p) then (match grade b (p + 1) with
    | .error q => .error q
    | .ok (g, p') => .ok (⟨n, 3, p, [], ahead b p, g⟩, p'))
  else match deviation b p with
    | .error q => .error q
    | .ok (d1, a1, p1) => if ahead b p1 = 32 then (match deviation b (p1 + 1) with
      | .error q => .error q
      | .ok (d2, a2, p2) => .ok (⟨n, 2, p, [(d1, a1), (d2, a2)], 0, 0⟩, p2)) else .error p1
def shapeOf (b : Bytes) : Except Nat Shp := match number b 0 with
  | .error q => .error q
  | .ok (n, p) => if ahead b p = 32 then (match behindOf b n (p + 1) with
      | .error q => .error q
      | .ok (s, p') => if p' < b.length then .error p' else .ok s)
    else if p < b.length then .error p else .ok ⟨n, 0, 0, [], 0, 0⟩
/-! ### the specification's reading, byte by byte -/
def RF (b : Bytes) (p : Nat) (r : Read) : Except Nat Read := readFrom p r (b.drop p)
theorem rf_end {b : Bytes} {p : Nat} {r : Read} (h : b[p]? = none) : RF b p r = if r.done = true then .ok r else .error p := by
  unfold RF
  rw [List.drop_eq_nil_of_le (List.getElem?_eq_none_iff.mp h)]
  rfl
theorem rf_step {b : Bytes} {p : Nat} {r : Read} {c : UInt8} (h : b[p]? = some c) : RF b p r = match r.more p c with
    | some s => RF b (p + 1) s
    | none => .error p := by
  unfold RF
  obtain ⟨hp, e⟩ := List.getElem?_eq_some_iff.mp h
  rw [List.drop_eq_getElem_cons hp, e]
  rfl
theorem ahead_some {b : Bytes} {p : Nat} {c : UInt8} (h : b[p]? = some c) : ahead b p = (c.toNat : Int) := by
  unfold ahead
  rw [h]
theorem ahead_none {b : Bytes} {p : Nat} (h : b[p]? = none) : ahead b p = -1 := by
  unfold ahead
  rw [h]
/-- what reads a number on -/
def Ctx (C : Num → Read) : Prop := ∀ (y : Num) (p : Nat) (c : UInt8), c ≠ 32 → (C y).more p c = (y.more c).map C
theorem ctx_first : Ctx Read.first := fun y p c h => by
  show (if c = 32 then _ else _) = _
  rw [if_neg h]
theorem ctx_ways (x : Num) : Ctx (Read.ways x) := fun y p c h => rfl
theorem ctx_dev (x : Num) (s : Bool) : Ctx (fun y => Read.dev x ⟨s, y⟩) := fun y p c h => by
  show (if c = 32 then _ else _) = _
  rw [if_neg h]
theorem ctx_devs (x : Num) (d : Dev) (s : Bool) : Ctx (fun y => Read.devs x d ⟨s, y⟩) := fun y p c h => rfl
theorem ne32 {c : UInt8} (h : 48 ≤ c.toNat) : c ≠ 32 := by
  intro e
  subst e
  exact absurd h (by decide)
theorem dig_iff {c : UInt8} : isDig (c.toNat : Int) ↔ 48 ≤ c.toNat ∧ c.toNat ≤ 57 := by
  unfold isDig
  omega
theorem not_dig_none {b : Bytes} {p : Nat} (h : b[p]? = none) : ¬ isDig (ahead b p) := by
  rw [ahead_none h]
  unfold isDig
  omega
theorem more_whole {y : Num} {c : UInt8} (hp : y.point = false) (hc : 48 ≤ c.toNat ∧ c.toNat ≤ 57) :
    y.more c = if (y.digits = 1 ∧ y.val = 0) ∨ 9 ≤ y.digits then none else some { y with digits := y.digits + 1, val := 10 * y.val + (c.toNat - 48) } := by
  unfold Num.more
  rw [if_pos hc]
  simp only [hp, if_true]
theorem more_frac {y : Num} {c : UInt8} (hp : y.point = true) (hc : 48 ≤ c.toNat ∧ c.toNat ≤ 57) :
    y.more c = if 4 ≤ y.behind ∨ (y.behind = 3 ∧ c.toNat - 48 = 0) then none else some { y with behind := y.behind + 1, last := c.toNat - 48, val := 10 * y.val + (c.toNat - 48) } := by
  unfold Num.more
  rw [if_pos hc]
  simp [hp]
theorem more_other {y : Num} {c : UInt8} (hc : ¬ (48 ≤ c.toNat ∧ c.toNat ≤ 57)) :
    y.more c = if c = 46 ∧ y.point = false ∧ 1 ≤ y.digits then some { y with point := true } else none := by
  unfold Num.more
  rw [if_neg hc]
theorem wl_read {b : Bytes} {C : Num → Read} (hC : Ctx C) {a : Nat} : ∀ (f p k : Nat) (v : Nat), f + k = 9 → 1 ≤ k → (v = 0 → k = 1) →
    ∃ (k' w p' : Nat), wl b f p (v : Int) = ((w : Int), p') ∧ p' + k = p + k' ∧ 1 ≤ k' ∧ k' ≤ 9 ∧ RF b p (C ⟨a, k, false, 0, 0, v⟩) = RF b p' (C ⟨a, k', false, 0, 0, w⟩) ∧
      (isDig (ahead b p') → (k' = 1 ∧ w = 0) ∨ 9 ≤ k')
  | 0, p, k, v, hf, hk, hv => ⟨k, v, p, rfl, rfl, hk, by omega, rfl, fun _ => .inr (by omega)⟩
  | f + 1, p, k, v, hf, hk, hv => by
    unfold wl
    by_cases c : 0 < (v : Int) ∧ isDig (ahead b p)
    · rw [if_pos c]
      cases e : b[p]? with
      | none => exact absurd c.2 (not_dig_none e)
      | some x =>
        have hx := c.2
        rw [ahead_some e] at hx ⊢
        have hx := dig_iff.mp hx
        obtain ⟨k', w, p', h1, h2, h3, h4, h5, h6⟩ := wl_read (b := b) hC (a := a) f (p + 1) (k + 1) (10 * v + (x.toNat - 48)) (by omega) (by omega) (by omega)
        refine ⟨k', w, p', ?_, by omega, h3, h4, ?_, h6⟩
        · rw [← h1]
          congr 1
          omega
        · rw [← h5, rf_step e, hC _ _ _ (ne32 hx.1), more_whole rfl hx, if_neg (by intro q; simp only at q; omega)]
          rfl
    · rw [if_neg c]
      refine ⟨k, v, p, rfl, rfl, hk, by omega, rfl, fun hd => ?_⟩
      have : ¬ 0 < (v : Int) := fun q => c ⟨q, hd⟩
      have hv0 : v = 0 := by omega
      exact .inl ⟨hv hv0, hv0⟩
/-- what a number's reader keeps to -/
structure Ctx2 (C : Num → Read) : Prop where
  on : Ctx C
  dn : ∀ y, (C y).done = true → y.done = true
  bl : ∀ (y : Num) (p : Nat), y.done = false → (C y).more p 32 = none
theorem more32 (y : Num) : y.more 32 = none := by
  rw [more_other (by decide), if_neg (by intro q; exact absurd q.1 (by decide))]
theorem ctx2_first : Ctx2 Read.first := ⟨ctx_first, fun y h => h, fun y p h => by
  show (if (32 : UInt8) = 32 then (if y.done = true then some (Read.behind y) else none) else (y.more 32).map Read.first) = none
  rw [if_pos rfl, if_neg (by rw [h]; decide)]⟩
theorem ctx2_ways (x : Num) : Ctx2 (Read.ways x) := ⟨ctx_ways x, fun y h => h, fun y p h => by
  show (y.more 32).map (Read.ways x) = none
  rw [more32]
  rfl⟩
theorem ctx2_dev (x : Num) (s : Bool) : Ctx2 (fun y => Read.dev x ⟨s, y⟩) := ⟨ctx_dev x s, fun y h => (by cases h), fun y p h => by
  show (if (32 : UInt8) = 32 then (if (Dev.mk s y).done = true then some (Read.then_ x ⟨s, y⟩) else none) else (y.more 32).map fun (z : Num) => Read.dev x ⟨s, z⟩) = none
  rw [if_pos rfl, if_neg]
  unfold Dev.done
  simp [h]⟩
theorem ctx2_devs (x : Num) (d : Dev) (s : Bool) : Ctx2 (fun y => Read.devs x d ⟨s, y⟩) := ⟨ctx_devs x d s, fun y h => by
    have h : (y.done && !(s && y.val == 0)) = true := h
    exact (Bool.and_eq_true_iff.mp h).1, fun y p h => by
  show (y.more 32).map (fun (z : Num) => Read.devs x d ⟨s, z⟩) = none
  rw [more32]
  rfl⟩
/-- no number goes on so: the place is here -/
theorem stop_here {b : Bytes} {C : Num → Read} (hC : Ctx2 C) {p : Nat} {y : Num} (hd : y.done = false) (hm : ∀ c, b[p]? = some c → c ≠ 32 → y.more c = none) : RF b p (C y) = .error p := by
  cases e : b[p]? with
  | none =>
    rw [rf_end e, if_neg]
    intro q
    rw [hC.dn y q] at hd
    cases hd
  | some c =>
    rw [rf_step e]
    by_cases c32 : c = 32
    · subst c32
      rw [hC.bl y p hd]
    · rw [hC.on y p c c32, hm c e c32]
      rfl
theorem fl_read {b : Bytes} {C : Num → Read} (hC : Ctx2 C) {a k : Nat} (hk : 1 ≤ k) : ∀ (j p : Nat) (tk W : Int) (v last : Nat), j ≤ 4 → (j = 0 → last ≠ 0) → (j = 4 → last = 0) → (v : Int) * 10 ^ j = W + tk →
    match fl b j p tk (last : Int) with
    | .error q => RF b p (C ⟨a, k, true, 4 - j, last, v⟩) = .error q
    | .ok (tk', d', p') => if d' = 0 then RF b p (C ⟨a, k, true, 4 - j, last, v⟩) = .error (p' - 1) else
        ∃ (j' v' l' : Nat), j' < 4 ∧ p' + j' = p + j ∧ RF b p (C ⟨a, k, true, 4 - j, last, v⟩) = RF b p' (C ⟨a, k, true, 4 - j', l', v'⟩) ∧ l' ≠ 0 ∧ (v' : Int) * 10 ^ j' = W + tk' ∧ (isDig (ahead b p') → j' = 0)
  | 0, p, tk, W, v, last, hj, h0, h4, hv => by
    unfold fl
    show if (last : Int) = 0 then _ else _
    have := h0 rfl
    rw [if_neg (by omega)]
    exact ⟨0, v, last, by omega, rfl, rfl, this, hv, fun _ => rfl⟩
  | j + 1, p, tk, W, v, last, hj, h0, h4, hv => by
    unfold fl
    by_cases hdig : isDig (ahead b p)
    · rw [if_pos (Or.inr hdig), if_pos hdig]
      cases e : b[p]? with
      | none => exact absurd hdig (not_dig_none e)
      | some x =>
        rw [ahead_some e] at hdig ⊢
        have hx := dig_iff.mp hdig
        have hxe : (x.toNat : Int) - 48 = ((x.toNat - 48 : Nat) : Int) := by omega
        have hrf : RF b p (C ⟨a, k, true, 4 - (j + 1), last, v⟩) = match (Num.more ⟨a, k, true, 4 - (j + 1), last, v⟩ x).map C with
            | some s => RF b (p + 1) s
            | none => .error p := by
          rw [rf_step e, hC.on _ _ _ (ne32 hx.1)]
        rw [more_frac rfl hx] at hrf
        by_cases hz : j = 0 ∧ x.toNat - 48 = 0
        · obtain ⟨rfl, hz⟩ := hz
          rw [if_pos (.inr ⟨rfl, hz⟩)] at hrf
          unfold fl
          show if (x.toNat : Int) - 48 = 0 then _ else _
          rw [if_pos (by omega), hrf]
          rfl
        · rw [if_neg (by
            intro q
            rcases q with q | q
            · simp only at q
              omega
            · simp only at q
              exact hz ⟨by omega, q.2⟩)] at hrf
          have hrf : RF b p (C ⟨a, k, true, 4 - (j + 1), last, v⟩) = RF b (p + 1) (C ⟨a, k, true, 4 - j, x.toNat - 48, 10 * v + (x.toNat - 48)⟩) := by
            rw [hrf, show 4 - j = 4 - (j + 1) + 1 by omega]
            rfl
          have ih := fl_read (b := b) hC (a := a) hk j (p + 1) (tk + ((x.toNat : Int) - 48) * 10 ^ j) W (10 * v + (x.toNat - 48)) (x.toNat - 48) (by omega) (fun q => fun z => hz ⟨q, z⟩) (fun q => absurd q (by omega)) (by
            have e2 : ((10 * v + (x.toNat - 48) : Nat) : Int) = 10 * (v : Int) + ((x.toNat : Int) - 48) := by omega
            rw [e2, Int.add_mul, ← Int.add_assoc, ← hv, Int.pow_succ, Int.mul_comm 10 (v : Int), Int.mul_assoc, Int.mul_comm 10])
          rw [← hxe] at ih
          rw [hrf]
          generalize fl b j (p + 1) (tk + ((x.toNat : Int) - 48) * 10 ^ j) ((x.toNat : Int) - 48) = R at ih ⊢
          cases R with
          | error q => exact ih
          | ok t =>
            obtain ⟨tk', d', p'⟩ := t
            simp only at ih ⊢
            split at ih
            · rename_i hd
              rw [if_pos hd]
              exact ih
            · rename_i hd
              rw [if_neg hd]
              obtain ⟨j', v', l', g1, g2, g3, g4, g5, g6⟩ := ih
              exact ⟨j', v', l', g1, by omega, g3, g4, g5, g6⟩
    · by_cases hl : last = 0
      · subst hl
        rw [if_pos (show ((0 : Nat) : Int) = 0 ∨ isDig (ahead b p) from Or.inl rfl), if_neg hdig]
        refine stop_here hC (by simp [Num.done]) fun c e c32 => ?_
        rw [ahead_some e] at hdig
        rw [more_other (fun q => hdig (dig_iff.mpr q)), if_neg (by simp)]
      · rw [if_neg (by
          intro q
          rcases q with q | q
          · exact hl (by omega)
          · exact hdig q)]
        show if (last : Int) = 0 then _ else _
        rw [if_neg (by omega)]
        refine ⟨j + 1, v, last, ?_, rfl, rfl, hl, hv, fun q => absurd q hdig⟩
        have : ¬ j + 1 = 4 := fun q => hl (h4 q)
        omega
/-- a number that has been read from p up to p' -/
structure Got (b : Bytes) (p p' : Nat) (tk : Int) (y : Num) : Prop where
  done : y.done = true
  ticks : (y.ticks : Int) = tk
  at_ : y.at_ = p
  long : y.long + p = p'
  lt : p < p'
  zero : y.val = 0 ↔ tk = 0
  stop : ∀ c, b[p']? = some c → y.more c = none
  nn : 0 ≤ tk
theorem pow10_pos (j : Nat) : (0 : Int) < 10 ^ j := by
  induction j with
  | zero => decide
  | succ j ih =>
    rw [Int.pow_succ]
    omega
theorem number_read {b : Bytes} {C : Num → Read} (hC : Ctx2 C) (p : Nat) : match number b p with
    | .error q => RF b p (C (Num.none_ p)) = .error q
    | .ok (tk, p') => ∃ y, RF b p (C (Num.none_ p)) = RF b p' (C y) ∧ Got b p p' tk y := by
  unfold number whole
  by_cases hdig : isDig (ahead b p)
  · rw [if_pos hdig]
    cases e : b[p]? with
    | none => exact absurd hdig (not_dig_none e)
    | some x =>
      rw [ahead_some e] at hdig ⊢
      have hx := dig_iff.mp hdig
      have hxe : (x.toNat : Int) - 48 = ((x.toNat - 48 : Nat) : Int) := by omega
      have h1 : RF b p (C (Num.none_ p)) = RF b (p + 1) (C ⟨p, 1, false, 0, 0, x.toNat - 48⟩) := by
        rw [rf_step e, hC.on _ _ _ (ne32 hx.1), more_whole rfl hx, if_neg (by intro q; simp [Num.none_] at q)]
        simp [Num.none_]
      obtain ⟨k', w, p1, g1, g2, g3, g4, g5, g6⟩ := wl_read (b := b) hC.on (a := p) 8 (p + 1) 1 (x.toNat - 48) (by omega) (by omega) (fun _ => rfl)
      rw [hxe, g1, h1, g5]
      simp only
      by_cases hpt : ahead b p1 = 46
      · rw [if_pos hpt]
        cases e1 : b[p1]? with
        | none =>
          rw [ahead_none e1] at hpt
          exact absurd hpt (by decide)
        | some c =>
          rw [ahead_some e1] at hpt
          have hc : c = 46 := UInt8.toNat_inj.mp (by
            have : c.toNat = 46 := by omega
            rw [this]
            rfl)
          subst hc
          have h2 : RF b p1 (C ⟨p, k', false, 0, 0, w⟩) = RF b (p1 + 1) (C ⟨p, k', true, 4 - 4, 0, w⟩) := by
            rw [rf_step e1, hC.on _ _ _ (by decide), more_other (by decide), if_pos ⟨rfl, rfl, g3⟩]
            rfl
          have h3 := fl_read (b := b) hC (a := p) g3 4 (p1 + 1) 0 ((w : Int) * 10000) w 0 (by omega) (fun q => absurd q (by decide)) (fun _ => rfl) (by
            rw [show (10 : Int) ^ 4 = 10000 by decide, Int.add_zero])
          rw [h2]
          unfold fraction
          have ez : ((0 : Nat) : Int) = 0 := rfl
          rw [ez] at h3
          generalize fl b 4 (p1 + 1) 0 0 = R at h3 ⊢
          cases R with
          | error q => exact h3
          | ok t =>
            obtain ⟨tk, d, p2⟩ := t
            simp only at h3 ⊢
            by_cases hd : d = 0
            · rw [if_pos hd] at h3 ⊢
              exact h3
            · rw [if_neg hd] at h3 ⊢
              obtain ⟨j', v', l', i1, i2, i3, i4, i5, i6⟩ := h3
              refine ⟨_, i3, ?_, ?_, rfl, ?_, by omega, ?_, fun c ec => ?_, ?_⟩
              · simp [Num.done, i4]
                omega
              · show ((v' * 10 ^ (4 - (4 - j')) : Nat) : Int) = _
                rw [show 4 - (4 - j') = j' by omega, ← i5]
                simp
              · show k' + (if true = true then 1 + (4 - j') else 0) + p = p2
                rw [if_pos rfl]
                omega
              · show v' = 0 ↔ _
                rw [← i5]
                constructor
                · intro q
                  subst q
                  simp
                · intro q
                  rcases Int.mul_eq_zero.mp q with z | z
                  · omega
                  · have := pow10_pos j'
                    omega
              · by_cases hcd : 48 ≤ c.toNat ∧ c.toNat ≤ 57
                · rw [more_frac rfl hcd, if_pos]
                  left
                  show 4 ≤ 4 - j'
                  have := i6 (by rw [ahead_some ec]; exact dig_iff.mpr hcd)
                  omega
                · rw [more_other hcd, if_neg (by simp)]
              · rw [← i5]
                exact Int.mul_nonneg (by omega) (by have := pow10_pos j'; omega)
      · rw [if_neg hpt]
        refine ⟨_, rfl, ?_, ?_, rfl, ?_, by omega, ?_, fun c ec => ?_, by omega⟩
        · simp [Num.done]
          omega
        · show ((w * 10 ^ (4 - 0) : Nat) : Int) = _
          simp
        · show k' + (if false = true then _ else 0) + p = p1
          rw [if_neg (by decide)]
          omega
        · show w = 0 ↔ _
          omega
        · by_cases hcd : 48 ≤ c.toNat ∧ c.toNat ≤ 57
          · rw [more_whole rfl hcd, if_pos (g6 (by rw [ahead_some ec]; exact dig_iff.mpr hcd))]
          · rw [more_other hcd, if_neg]
            intro q
            apply hpt
            rw [ahead_some ec, q.1]
            rfl
  · rw [if_neg hdig]
    refine stop_here hC rfl fun c e c32 => ?_
    rw [ahead_some e] at hdig
    rw [more_other (fun q => hdig (dig_iff.mpr q)), if_neg (by intro q; have := q.2.2; simp [Num.none_] at this)]
end SbText
end
section
namespace SbText
open Ft
structure GotD (b : Bytes) (p p' : Nat) (tk : Int) (a : Nat) (d : Dev) : Prop where
  done : d.done = true
  ticks : d.ticks = tk
  at_ : d.num.at_ = a
  pl : a = p + 1
  lt : p < p'
  stop : ∀ c, b[p']? = some c → d.num.more c = none
theorem u8_of {c : UInt8} {n : Nat} (h : (c.toNat : Int) = (n : Int)) (hn : n < 256) : c = UInt8.ofNat n := UInt8.toNat_inj.mp (by
  rw [UInt8.toNat_ofNat_of_lt' hn]
  omega)
theorem got_plus {b : Bytes} {p p' : Nat} {tk : Int} {y : Num} (g : Got b (p + 1) p' tk y) : GotD b p p' tk (p + 1) ⟨false, y⟩ := by
  refine ⟨?_, ?_, g.at_, rfl, by have := g.lt; omega, g.stop⟩
  · simp [Dev.done, g.done]
  · simp [Dev.ticks, g.ticks]
theorem got_minus {b : Bytes} {p p' : Nat} {tk : Int} {y : Num} (g : Got b (p + 1) p' tk y) (h : 0 < tk) : GotD b p p' (-tk) (p + 1) ⟨true, y⟩ := by
  have hv : y.val ≠ 0 := fun q => by
    have := g.zero.mp q
    omega
  refine ⟨?_, ?_, g.at_, rfl, by have := g.lt; omega, g.stop⟩
  · simp [Dev.done, g.done, hv]
  · simp [Dev.ticks, g.ticks]
theorem minus_bad {b : Bytes} {p p' : Nat} {tk : Int} {y : Num} (g : Got b (p + 1) p' tk y) (h : ¬ 0 < tk) : (Dev.mk true y).done = false := by
  have hv : y.val = 0 := g.zero.mpr (by have := g.nn; omega)
  simp [Dev.done, hv]
theorem plus_as_dev {b : Bytes} {p : Nat} {x : Num} (h : ahead b p ≠ 45) : RF b p (.plus x) = RF b p (.dev x ⟨false, Num.none_ p⟩) := by
  cases e : b[p]? with
  | none =>
    rw [rf_end e, rf_end e]
    rfl
  | some c =>
    rw [rf_step e, rf_step e]
    have hc : c ≠ 45 := fun q => h (by rw [ahead_some e, q]; rfl)
    show (match (if c = 45 then some (Read.ways x (.none_ (p + 1))) else ((Num.none_ p).more c).map fun (y : Num) => Read.dev x ⟨false, y⟩) with | some s => RF b (p + 1) s | none => Except.error p)
      = (match (if c = 32 then (if (Dev.mk false (Num.none_ p)).done = true then some (Read.then_ x ⟨false, Num.none_ p⟩) else none) else ((Num.none_ p).more c).map fun (y : Num) => Read.dev x ⟨false, y⟩) with | some s => RF b (p + 1) s | none => Except.error p)
    rw [if_neg hc]
    by_cases h32 : c = 32
    · subst h32
      rw [if_pos rfl, if_neg (by simp [Dev.done, Num.done, Num.none_]), more32]
      rfl
    · rw [if_neg h32]
theorem dev_stop {b : Bytes} {p : Nat} {x : Num} {d : Dev} (hd : d.done = false) (hs : ∀ c, b[p]? = some c → d.num.more c = none) : RF b p (.dev x d) = .error p := by
  cases e : b[p]? with
  | none =>
    rw [rf_end e]
    rfl
  | some c =>
    rw [rf_step e]
    show (match (if c = 32 then (if d.done = true then some (Read.then_ x d) else none) else (d.num.more c).map fun (y : Num) => Read.dev x ⟨d.below, y⟩) with | some s => RF b (p + 1) s | none => Except.error p) = _
    by_cases h32 : c = 32
    · rw [if_pos h32, if_neg (by rw [hd]; decide)]
    · rw [if_neg h32, hs c e]
      rfl
theorem devs_stop {b : Bytes} {p : Nat} {x : Num} {d f : Dev} (hd : f.done = false) (hs : ∀ c, b[p]? = some c → f.num.more c = none) : RF b p (.devs x d f) = .error p := by
  cases e : b[p]? with
  | none =>
    rw [rf_end e, if_neg]
    show ¬ f.done = true
    rw [hd]
    decide
  | some c =>
    rw [rf_step e]
    show (match ((f.num.more c).map fun (y : Num) => Read.devs x d ⟨f.below, y⟩) with | some s => RF b (p + 1) s | none => Except.error p) = _
    rw [hs c e]
    rfl
/-- the first deviation -/
theorem dev1_read {b : Bytes} {p : Nat} {x : Num} (h1 : ¬ (ahead b p = 43 ∧ ahead b (p + 1) = 45)) (h2 : ¬ isLet (ahead b p)) : match deviation b p with
    | .error q => RF b p (.behind x) = .error q
    | .ok (tk, a, p') => ∃ d, RF b p (.behind x) = RF b p' (.dev x d) ∧ GotD b p p' tk a d := by
  unfold deviation
  by_cases hs : ahead b p = 43 ∨ ahead b p = 45
  · rw [if_pos hs]
    cases e : b[p]? with
    | none =>
      rw [ahead_none e] at hs
      omega
    | some c =>
      by_cases h43 : ahead b p = 43
      · have hc : c = 43 := u8_of (n := 43) (by rw [← ahead_some e]; exact h43) (by decide)
        subst hc
        have hr : RF b p (.behind x) = RF b (p + 1) (.dev x ⟨false, Num.none_ (p + 1)⟩) := by
          rw [rf_step e, ← plus_as_dev (fun q => h1 ⟨h43, q⟩)]
          rfl
        have hn := number_read (b := b) (ctx2_dev x false) (p + 1)
        rw [hr]
        generalize number b (p + 1) = R at hn ⊢
        cases R with
        | error q => exact hn
        | ok t =>
          obtain ⟨tk, p'⟩ := t
          simp only at hn ⊢
          rw [if_pos h43]
          obtain ⟨y, g1, g2⟩ := hn
          exact ⟨⟨false, y⟩, g1, got_plus g2⟩
      · have h45 : ahead b p = 45 := hs.resolve_left h43
        have hc : c = 45 := u8_of (n := 45) (by rw [← ahead_some e]; exact h45) (by decide)
        subst hc
        have hr : RF b p (.behind x) = RF b (p + 1) (.dev x ⟨true, Num.none_ (p + 1)⟩) := by
          rw [rf_step e]
          rfl
        have hn := number_read (b := b) (ctx2_dev x true) (p + 1)
        rw [hr]
        generalize number b (p + 1) = R at hn ⊢
        cases R with
        | error q => exact hn
        | ok t =>
          obtain ⟨tk, p'⟩ := t
          simp only at hn ⊢
          rw [if_neg h43]
          obtain ⟨y, g1, g2⟩ := hn
          by_cases htk : 0 < tk
          · rw [if_pos htk]
            exact ⟨⟨true, y⟩, g1, got_minus g2 htk⟩
          · rw [if_neg htk]
            simp only
            rw [g1]
            exact dev_stop (minus_bad g2 htk) g2.stop
  · rw [if_neg hs]
    simp only
    cases e : b[p]? with
    | none =>
      rw [rf_end e]
      rfl
    | some c =>
      rw [rf_step e]
      rw [ahead_some e] at hs h2
      have e1 : c ≠ 43 := fun q => hs (.inl (by rw [q]; rfl))
      have e2 : c ≠ 45 := fun q => hs (.inr (by rw [q]; rfl))
      have e3 : (letterOf c.toNat).isSome = false := by
        unfold letterOf
        unfold isLet at h2
        rw [if_neg (by omega), if_neg (by omega)]
        rfl
      show (match (if c = 43 then some (Read.plus x) else if c = 45 then some (.dev x ⟨true, .none_ (p + 1)⟩) else if (letterOf c.toNat).isSome = true then some (.code x c.toNat none) else none) with | some s => RF b (p + 1) s | none => Except.error p) = _
      rw [if_neg e1, if_neg e2, e3]
      rfl
/-- the second deviation -/
theorem dev2_read {b : Bytes} {p : Nat} {x : Num} {d : Dev} : match deviation b p with
    | .error q => RF b p (.then_ x d) = .error q
    | .ok (tk, a, p') => ∃ f, RF b p (.then_ x d) = RF b p' (.devs x d f) ∧ GotD b p p' tk a f := by
  unfold deviation
  by_cases hs : ahead b p = 43 ∨ ahead b p = 45
  · rw [if_pos hs]
    cases e : b[p]? with
    | none =>
      rw [ahead_none e] at hs
      omega
    | some c =>
      by_cases h43 : ahead b p = 43
      · have hc : c = 43 := u8_of (n := 43) (by rw [← ahead_some e]; exact h43) (by decide)
        subst hc
        have hr : RF b p (.then_ x d) = RF b (p + 1) (.devs x d ⟨false, Num.none_ (p + 1)⟩) := by
          rw [rf_step e]
          rfl
        have hn := number_read (b := b) (ctx2_devs x d false) (p + 1)
        rw [hr]
        generalize number b (p + 1) = R at hn ⊢
        cases R with
        | error q => exact hn
        | ok t =>
          obtain ⟨tk, p'⟩ := t
          simp only at hn ⊢
          rw [if_pos h43]
          obtain ⟨y, g1, g2⟩ := hn
          exact ⟨⟨false, y⟩, g1, got_plus g2⟩
      · have h45 : ahead b p = 45 := hs.resolve_left h43
        have hc : c = 45 := u8_of (n := 45) (by rw [← ahead_some e]; exact h45) (by decide)
        subst hc
        have hr : RF b p (.then_ x d) = RF b (p + 1) (.devs x d ⟨true, Num.none_ (p + 1)⟩) := by
          rw [rf_step e]
          rfl
        have hn := number_read (b := b) (ctx2_devs x d true) (p + 1)
        rw [hr]
        generalize number b (p + 1) = R at hn ⊢
        cases R with
        | error q => exact hn
        | ok t =>
          obtain ⟨tk, p'⟩ := t
          simp only at hn ⊢
          rw [if_neg h43]
          obtain ⟨y, g1, g2⟩ := hn
          by_cases htk : 0 < tk
          · rw [if_pos htk]
            exact ⟨⟨true, y⟩, g1, got_minus g2 htk⟩
          · rw [if_neg htk]
            simp only
            rw [g1]
            exact devs_stop (minus_bad g2 htk) g2.stop
  · rw [if_neg hs]
    simp only
    cases e : b[p]? with
    | none =>
      rw [rf_end e]
      rfl
    | some c =>
      rw [rf_step e]
      rw [ahead_some e] at hs
      have e1 : c ≠ 43 := fun q => hs (.inl (by rw [q]; rfl))
      have e2 : c ≠ 45 := fun q => hs (.inr (by rw [q]; rfl))
      show (match (if c = 43 then some (Read.devs x d ⟨false, .none_ (p + 1)⟩) else if c = 45 then some (.devs x d ⟨true, .none_ (p + 1)⟩) else none) with | some s => RF b (p + 1) s | none => Except.error p) = _
      rw [if_neg e1, if_neg e2]
/-! ### what a shape means -/
def limitsOf (s : Shp) : Int × Int := match s.form, s.devs with
  | 1, (t, _) :: _ => (-t, t)
  | 2, (t, _) :: (u, _) :: _ => (u, t)
  | 3, _ => match letterOf s.letter.toNat with
    | some (h, m) => codeLimits (width s.nominal.toNat) h m s.grade.toNat
    | none => (0, 0)
  | _, _ => (0, 0)
def far (d : Int) : Bool := decide (1073741824 < d ∨ d < -1073741824)
def firstFar : List (Int × Nat) → Option Fault
  | [] => none
  | (d, p) :: r => if far d = true then some (3, p) else firstFar r
def devFault (s : Shp) : Option Fault := match firstFar s.devs with
  | some f => some f
  | none => match s.form, s.devs with
    | 2, (t, _) :: (u, p) :: _ => if t < u then some (4, p - 1) else none
    | _, _ => none
def fit (n lo hi : Int) : Bool := decide (lo ≤ hi ∧ 1 ≤ n + lo ∧ (-1073741824 ≤ lo ∧ lo ≤ 1073741824) ∧ (-1073741824 ≤ hi ∧ hi ≤ 1073741824))
def saidOf (s : Shp) : Except Fault Size :=
  if ¬ (1 ≤ s.nominal ∧ s.nominal ≤ 2147483647) then .error (2, 0) else
  match devFault s with
  | some f => .error f
  | none => if fit s.nominal (limitsOf s).1 (limitsOf s).2 = true then .ok ⟨s.nominal, (limitsOf s).1, (limitsOf s).2, s.form, s.letter.toNat, s.grade.toNat⟩ else .error (5, s.behind)
def said (b : Bytes) : Except Fault Size := match shapeOf b with
  | .error q => .error (1, q)
  | .ok s => saidOf s
theorem fit_eq (n lo hi : Int) : fit n lo hi = fitsSize n lo hi := by
  unfold fit fitsSize FAR
  by_cases h1 : lo ≤ hi <;> by_cases h2 : -1073741824 ≤ lo <;> by_cases h3 : hi ≤ 1073741824 <;> by_cases h4 : 1 ≤ n + lo <;> simp [h1, h2, h3, h4] <;> omega
theorem nom_eq (n : Int) : isNominal n = decide (1 ≤ n ∧ n ≤ 2147483647) := by
  unfold isNominal NOMINAL
  by_cases h1 : 1 ≤ n <;> by_cases h2 : n ≤ 2147483647 <;> simp [h1, h2]
theorem far_eq {b : Bytes} {p p' : Nat} {tk : Int} {y : Num} (g : (y.ticks : Int) = tk) (h0 : 0 ≤ tk) : tooFar y = far tk := by
  unfold tooFar far FAR
  rw [g]
  by_cases h : 1073741824 < tk
  · simp [h]
  · have : ¬ tk < -1073741824 := by omega
    simp [h, this]
theorem farD_eq {d : Dev} {tk : Int} (h : d.ticks = tk) : tooFar d.num = far tk := by
  unfold tooFar far FAR
  unfold Dev.ticks at h
  have h0 : (0 : Int) ≤ (d.num.ticks : Int) := by omega
  split at h
  · by_cases c : (1073741824 : Int) < (d.num.ticks : Int)
    · have : tk < -1073741824 := by omega
      simp [c, this]
    · have a : ¬ tk < -1073741824 := by omega
      have b : ¬ 1073741824 < tk := by omega
      simp [c, a, b]
  · rw [h]
    have a : ¬ tk < -1073741824 := by omega
    simp [a]
end SbText
end
section
namespace SbText
open Ft
theorem b2 {c : Prop} [Decidable c] {α : Type} {x y : α} : (if (!decide c) = true then x else y) = if ¬ c then x else y := by
  by_cases h : c <;> simp [h]
theorem meant_first {y : Num} {n : Int} (hn : (y.ticks : Int) = n) : meant (.first y) = saidOf ⟨n, 0, 0, [], 0, 0⟩ := by
  unfold meant saidOf
  simp only [Read.number, hn, List.nil_append, firstOf, nom_eq, b2, ← fit_eq]
  by_cases h : 1 ≤ n ∧ n ≤ 2147483647
  · have hcc : ¬ ¬ (1 ≤ n ∧ n ≤ 2147483647) := fun q => q h
    rw [if_neg hcc, if_neg hcc]
    simp only [devFault, firstFar, limitsOf]
    have hf : fit n 0 0 = true := by
      unfold fit
      simp
      omega
    simp [hf]
  · rw [if_pos h, if_pos h]
theorem meant_code {y : Num} {n : Int} {l g p : Nat} {L G : Int} (hn : (y.ticks : Int) = n) (hL : L = (l : Int)) (hG : G = (g : Int)) (hl : (letterOf l).isSome = true) (hp : y.long + 1 = p) : meant (.code y l (some g)) = saidOf ⟨n, 3, p, [], L, G⟩ := by
  subst hL hG
  obtain ⟨z, hz⟩ := Option.isSome_iff_exists.mp hl
  obtain ⟨h, m⟩ := z
  unfold meant saidOf
  simp only [Read.number, hn, hz, List.nil_append, firstOf, nom_eq, b2, ← fit_eq]
  by_cases hc : 1 ≤ n ∧ n ≤ 2147483647
  · have hcc : ¬ ¬ (1 ≤ n ∧ n ≤ 2147483647) := fun q => q hc
    rw [if_neg hcc, if_neg hcc]
    simp only [devFault, firstFar, limitsOf, Int.toNat_natCast, hz]
    by_cases hf : fit n (codeLimits (width n.toNat) h m g).1 (codeLimits (width n.toNat) h m g).2 = true
    · simp [hf]
    · simp [hf, hp]
  · rw [if_pos hc, if_pos hc]
theorem meant_ways {y z : Num} {n t : Int} {a p : Nat} (hn : (y.ticks : Int) = n) (ht : (z.ticks : Int) = t) (ht0 : 0 ≤ t) (ha : z.at_ = a) (hp : y.long + 1 = p) : meant (.ways y z) = saidOf ⟨n, 1, p, [(t, a)], 0, 0⟩ := by
  unfold meant saidOf
  simp only [Read.number, hn, ht, ha, List.cons_append, List.nil_append, firstOf, nom_eq, b2, ← fit_eq, far_eq (b := []) (p := 0) (p' := 0) ht ht0]
  by_cases hc : 1 ≤ n ∧ n ≤ 2147483647
  · have hcc : ¬ ¬ (1 ≤ n ∧ n ≤ 2147483647) := fun q => q hc
    rw [if_neg hcc, if_neg hcc]
    simp only [devFault, firstFar, limitsOf]
    by_cases hf : far t = true
    · simp [hf]
    · by_cases hf2 : fit n (-t) t = true
      · simp [hf, hf2]
      · simp [hf, hf2, hp]
  · rw [if_pos hc, if_pos hc]
theorem meant_devs {y : Num} {d f : Dev} {n t u : Int} {a c p : Nat} (hn : (y.ticks : Int) = n) (ht : d.ticks = t) (hu : f.ticks = u) (ha : d.num.at_ = a) (hc : f.num.at_ = c) (hp : y.long + 1 = p) :
    meant (.devs y d f) = saidOf ⟨n, 2, p, [(t, a), (u, c)], 0, 0⟩ := by
  unfold meant saidOf
  simp only [Read.number, hn, ht, hu, ha, hc, List.cons_append, List.nil_append, firstOf, nom_eq, b2, ← fit_eq, farD_eq ht, farD_eq hu]
  by_cases hc : 1 ≤ n ∧ n ≤ 2147483647
  · have hcc : ¬ ¬ (1 ≤ n ∧ n ≤ 2147483647) := fun q => q hc
    rw [if_neg hcc, if_neg hcc]
    simp only [devFault, firstFar, limitsOf]
    by_cases hf : far t = true
    · simp [hf]
    · by_cases hf1 : far u = true
      · simp [hf, hf1]
      · by_cases hlt : t < u
        · simp [hf, hf1, hlt]
        · by_cases hf2 : fit n u t = true
          · simp [hf, hf1, hlt, hf2]
          · simp [hf, hf1, hlt, hf2, hp]
  · rw [if_pos hc, if_pos hc]
theorem end_here {b : Bytes} {p : Nat} {r : Read} (hd : r.done = true) (hm : ∀ c, b[p]? = some c → r.more p c = none) : RF b p r = if p < b.length then .error p else .ok r := by
  cases e : b[p]? with
  | none =>
    have := List.getElem?_eq_none_iff.mp e
    rw [rf_end e, if_pos hd, if_neg (by omega)]
  | some c =>
    have := (List.getElem?_eq_some_iff.mp e).1
    rw [rf_step e, hm c e, if_pos this]
theorem grade_read {b : Bytes} {p : Nat} {x : Num} {l : Nat} : match grade b p with
    | .error q => RF b p (.code x l none) = .error q
    | .ok (g, p') => ∃ k : Nat, g = (k : Int) ∧ RF b p (.code x l none) = if p' < b.length then .error p' else .ok (.code x l (some k)) := by
  unfold grade
  have mc : ∀ (q : Nat) (c : UInt8) (o : Option Nat), (48 ≤ c.toNat ∧ c.toNat ≤ 57) → (Read.code x l o).more q c = (match o with
      | none => some (Read.code x l (some (c.toNat - 48)))
      | some k => if k = 1 ∧ c.toNat - 48 ≤ 6 then some (.code x l (some (10 + (c.toNat - 48)))) else none) := fun q c o h => by
    show (if 48 ≤ c.toNat ∧ c.toNat ≤ 57 then _ else _) = _
    rw [if_pos h]
    cases o <;> rfl
  have mn : ∀ (q : Nat) (c : UInt8) (o : Option Nat), ¬ (48 ≤ c.toNat ∧ c.toNat ≤ 57) → (Read.code x l o).more q c = none := fun q c o h => by
    show (if 48 ≤ c.toNat ∧ c.toNat ≤ 57 then _ else _) = _
    rw [if_neg h]
  by_cases hdig : isDig (ahead b p)
  · rw [if_pos hdig]
    cases e : b[p]? with
    | none => exact absurd hdig (not_dig_none e)
    | some c =>
      rw [ahead_some e] at hdig ⊢
      have hx := dig_iff.mp hdig
      have h1 : RF b p (.code x l none) = RF b (p + 1) (.code x l (some (c.toNat - 48))) := by
        rw [rf_step e, mc _ _ _ hx]
      rw [h1]
      by_cases h2 : (c.toNat : Int) - 48 = 1 ∧ 48 ≤ ahead b (p + 1) ∧ ahead b (p + 1) ≤ 54
      · rw [if_pos h2]
        cases e1 : b[p + 1]? with
        | none =>
          rw [ahead_none e1] at h2
          omega
        | some c2 =>
          rw [ahead_some e1] at h2 ⊢
          refine ⟨10 + (c2.toNat - 48), by omega, ?_⟩
          rw [rf_step e1, mc _ _ _ (by omega)]
          simp only
          rw [if_pos (by omega)]
          simp only
          refine end_here rfl fun c3 e3 => ?_
          by_cases hd3 : 48 ≤ c3.toNat ∧ c3.toNat ≤ 57
          · rw [mc _ _ _ hd3]
            simp only
            rw [if_neg (by omega)]
          · exact mn _ _ _ hd3
      · rw [if_neg h2]
        refine ⟨c.toNat - 48, by omega, ?_⟩
        refine end_here rfl fun c3 e3 => ?_
        by_cases hd3 : 48 ≤ c3.toNat ∧ c3.toNat ≤ 57
        · rw [mc _ _ _ hd3]
          simp only
          rw [if_neg]
          intro q
          apply h2
          rw [ahead_some e3]
          omega
        · exact mn _ _ _ hd3
  · rw [if_neg hdig]
    simp only
    cases e : b[p]? with
    | none =>
      rw [rf_end e]
      rfl
    | some c =>
      rw [ahead_some e] at hdig
      rw [rf_step e, mn _ _ _ (fun q => hdig (dig_iff.mpr q))]
/-- **A text is read as the specification reads it.** -/
theorem said_read (b : Bytes) : said b = Ft.read b := by
  have h0 : Ft.read b = match RF b 0 (.first (Num.none_ 0)) with
      | .error p => .error (1, p)
      | .ok r => meant r := rfl
  rw [h0]
  unfold said shapeOf
  have hn := number_read (b := b) ctx2_first 0
  generalize number b 0 = R at hn ⊢
  cases R with
  | error q =>
    simp only at hn ⊢
    rw [hn]
  | ok t =>
    obtain ⟨n, p⟩ := t
    simp only at hn ⊢
    obtain ⟨y, g1, g2⟩ := hn
    rw [g1]
    have hlong : y.long = p := by have := g2.long; omega
    by_cases h32 : ahead b p = 32
    · rw [if_pos h32]
      cases e : b[p]? with
      | none =>
        rw [ahead_none e] at h32
        exact absurd h32 (by decide)
      | some c =>
        have hc : c = 32 := u8_of (n := 32) (by rw [← ahead_some e]; exact h32) (by decide)
        subst hc
        have h1 : RF b p (.first y) = RF b (p + 1) (.behind y) := by
          rw [rf_step e]
          show (match (if (32 : UInt8) = 32 then (if y.done = true then some (Read.behind y) else none) else (y.more 32).map Read.first) with | some s => RF b (p + 1) s | none => Except.error p) = _
          rw [if_pos rfl, if_pos g2.done]
        rw [h1]
        unfold behindOf
        by_cases hpm : ahead b (p + 1) = 43 ∧ ahead b (p + 1 + 1) = 45
        · rw [if_pos hpm]
          cases e1 : b[p + 1]? with
          | none =>
            have := hpm.1
            rw [ahead_none e1] at this
            exact absurd this (by decide)
          | some c1 =>
            cases e2 : b[p + 1 + 1]? with
            | none =>
              have := hpm.2
              rw [ahead_none e2] at this
              exact absurd this (by decide)
            | some c2 =>
              have hc1 : c1 = 43 := u8_of (n := 43) (by rw [← ahead_some e1]; exact hpm.1) (by decide)
              have hc2 : c2 = 45 := u8_of (n := 45) (by rw [← ahead_some e2]; exact hpm.2) (by decide)
              subst hc1 hc2
              have h2 : RF b (p + 1) (.behind y) = RF b (p + 1 + 2) (.ways y (Num.none_ (p + 1 + 2))) := by
                rw [rf_step e1]
                show RF b (p + 1 + 1) (.plus y) = _
                rw [rf_step e2]
                rfl
              rw [h2]
              have hz := number_read (b := b) (ctx2_ways y) (p + 1 + 2)
              generalize number b (p + 1 + 2) = R2 at hz ⊢
              cases R2 with
              | error q =>
                simp only at hz ⊢
                rw [hz]
              | ok t2 =>
                obtain ⟨t, p2⟩ := t2
                simp only at hz ⊢
                obtain ⟨z, k1, k2⟩ := hz
                rw [k1, end_here (show (Read.ways y z).done = true from k2.done) fun c ec => by
                  show (z.more c).map (Read.ways y) = none
                  rw [k2.stop c ec]
                  rfl]
                by_cases hl : p2 < b.length
                · rw [if_pos hl, if_pos hl]
                · rw [if_neg hl, if_neg hl]
                  exact (meant_ways g2.ticks k2.ticks k2.nn k2.at_ (by omega)).symm
        · rw [if_neg hpm]
          by_cases hlet : isLet (ahead b (p + 1))
          · rw [if_pos hlet]
            cases e1 : b[p + 1]? with
            | none =>
              rw [ahead_none e1] at hlet
              unfold isLet at hlet
              omega
            | some c1 =>
              rw [ahead_some e1] at hlet ⊢
              have hl1 : (letterOf c1.toNat).isSome = true := by
                unfold letterOf
                unfold isLet at hlet
                by_cases q : 97 ≤ c1.toNat ∧ c1.toNat ≤ 122
                · rw [if_pos q]
                  rfl
                · rw [if_neg q, if_pos (by omega)]
                  rfl
              have h2 : RF b (p + 1) (.behind y) = RF b (p + 1 + 1) (.code y c1.toNat none) := by
                rw [rf_step e1]
                show (match (if c1 = 43 then some (Read.plus y) else if c1 = 45 then some (.dev y ⟨true, .none_ (p + 1 + 1)⟩) else if (letterOf c1.toNat).isSome = true then some (.code y c1.toNat none) else none) with | some s => RF b (p + 1 + 1) s | none => Except.error (p + 1)) = _
                unfold isLet at hlet
                rw [if_neg (by intro q; subst q; simp at hlet), if_neg (by intro q; subst q; simp at hlet), if_pos hl1]
              rw [h2]
              have hz := grade_read (b := b) (p := p + 1 + 1) (x := y) (l := c1.toNat)
              generalize grade b (p + 1 + 1) = R2 at hz ⊢
              cases R2 with
              | error q =>
                simp only at hz ⊢
                rw [hz]
              | ok t2 =>
                obtain ⟨g, p2⟩ := t2
                simp only at hz ⊢
                obtain ⟨k, rfl, hk⟩ := hz
                rw [hk]
                by_cases hl : p2 < b.length
                · rw [if_pos hl, if_pos hl]
                · rw [if_neg hl, if_neg hl]
                  exact (meant_code g2.ticks rfl rfl hl1 (by omega)).symm
          · rw [if_neg hlet]
            have hz := dev1_read (b := b) (p := p + 1) (x := y) hpm hlet
            generalize deviation b (p + 1) = R2 at hz ⊢
            cases R2 with
            | error q =>
              simp only at hz ⊢
              rw [hz]
            | ok t2 =>
              obtain ⟨d1, a1, p1⟩ := t2
              simp only at hz ⊢
              obtain ⟨d, k1, k2⟩ := hz
              rw [k1]
              by_cases hb : ahead b p1 = 32
              · rw [if_pos hb]
                cases e1 : b[p1]? with
                | none =>
                  rw [ahead_none e1] at hb
                  exact absurd hb (by decide)
                | some c1 =>
                  have hc1 : c1 = 32 := u8_of (n := 32) (by rw [← ahead_some e1]; exact hb) (by decide)
                  subst hc1
                  have h2 : RF b p1 (.dev y d) = RF b (p1 + 1) (.then_ y d) := by
                    rw [rf_step e1]
                    show (match (if (32 : UInt8) = 32 then (if d.done = true then some (Read.then_ y d) else none) else (d.num.more 32).map fun (z : Num) => Read.dev y ⟨d.below, z⟩) with | some s => RF b (p1 + 1) s | none => Except.error p1) = _
                    rw [if_pos rfl, if_pos k2.done]
                  rw [h2]
                  have hz := dev2_read (b := b) (p := p1 + 1) (x := y) (d := d)
                  generalize deviation b (p1 + 1) = R3 at hz ⊢
                  cases R3 with
                  | error q =>
                    simp only at hz ⊢
                    rw [hz]
                  | ok t3 =>
                    obtain ⟨d2, a2, p2⟩ := t3
                    simp only at hz ⊢
                    obtain ⟨f, j1, j2⟩ := hz
                    rw [j1, end_here (show (Read.devs y d f).done = true from j2.done) fun c ec => by
                      show (f.num.more c).map _ = none
                      rw [j2.stop c ec]
                      rfl]
                    by_cases hl : p2 < b.length
                    · rw [if_pos hl, if_pos hl]
                    · rw [if_neg hl, if_neg hl]
                      exact (meant_devs g2.ticks k2.ticks j2.ticks k2.at_ j2.at_ (by omega)).symm
              · rw [if_neg hb]
                simp only
                cases e1 : b[p1]? with
                | none =>
                  rw [rf_end e1]
                  rfl
                | some c1 =>
                  rw [rf_step e1]
                  show _ = (match (match (if c1 = 32 then (if d.done = true then some (Read.then_ y d) else none) else (d.num.more c1).map fun (z : Num) => Read.dev y ⟨d.below, z⟩) with | some s => RF b (p1 + 1) s | none => Except.error p1) with | .error p => Except.error (1, p) | .ok r => meant r)
                  rw [if_neg (by
                    intro q
                    subst q
                    apply hb
                    rw [ahead_some e1]
                    rfl), k2.stop c1 e1]
                  rfl
    · rw [if_neg h32, end_here (show (Read.first y).done = true from g2.done) fun c ec => by
        show (if c = 32 then (if y.done = true then some (Read.behind y) else none) else (y.more c).map Read.first) = none
        rw [if_neg (by
          intro q
          subst q
          apply h32
          rw [ahead_some ec]
          rfl), g2.stop c ec]
        rfl]
      by_cases hl : p < b.length
      · rw [if_pos hl, if_pos hl]
      · rw [if_neg hl, if_neg hl]
        exact (meant_first g2.ticks).symm
end SbText
end
section
namespace SbText
open Ft
/-- a shape as a text may have it -/
inductive ShpOk : Shp → Prop where
  | plain {n : Int} {p : Nat} : ShpOk ⟨n, 0, p, [], 0, 0⟩
  | even {n t : Int} {p a : Nat} : ShpOk ⟨n, 1, p, [(t, a)], 0, 0⟩
  | uneven {n t u : Int} {p a c : Nat} : 1 ≤ c → ShpOk ⟨n, 2, p, [(t, a), (u, c)], 0, 0⟩
  | code {n : Int} {p l g : Nat} : (letterOf l).isSome = true → g ≤ 16 → ShpOk ⟨n, 3, p, [], l, g⟩
theorem dev_place {b : Bytes} {p q : Nat} {d : Int} {a : Nat} (h : deviation b p = .ok (d, a, q)) : 1 ≤ a := by
  unfold deviation at h
  split at h
  · cases e : number b (p + 1) with
    | error q => rw [e] at h; cases h
    | ok y =>
      obtain ⟨tk, p'⟩ := y
      rw [e] at h
      simp only at h
      split at h
      · cases h; omega
      · split at h
        · cases h; omega
        · cases h
  · cases h
theorem grade_small {b : Bytes} {p q : Nat} {g : Int} (h : grade b p = .ok (g, q)) : ∃ k : Nat, g = (k : Int) ∧ k ≤ 16 := by
  unfold grade at h
  split at h
  · rename_i c
    split at h
    · rename_i d
      simp only [Except.ok.injEq, Prod.mk.injEq] at h
      exact ⟨g.toNat, by omega, by omega⟩
    · simp only [Except.ok.injEq, Prod.mk.injEq] at h
      unfold isDig at c
      exact ⟨g.toNat, by omega, by omega⟩
  · cases h
theorem let_some {c : Int} (h : isLet c) : ∃ l : Nat, c = (l : Int) ∧ (letterOf l).isSome = true := by
  unfold isLet at h
  refine ⟨c.toNat, by omega, ?_⟩
  unfold letterOf
  rcases h with h | h
  · rw [if_neg (by omega), if_pos (by omega)]
    rfl
  · rw [if_pos (by omega)]
    rfl
theorem behind_ok {b : Bytes} {n : Int} {p q : Nat} {s : Shp} (h : behindOf b n p = .ok (s, q)) : ShpOk s := by
  unfold behindOf at h
  split at h
  · cases e : number b (p + 2) with
    | error q => rw [e] at h; cases h
    | ok y =>
      obtain ⟨tk, p'⟩ := y
      rw [e] at h
      cases h
      exact .even
  · split at h
    · rename_i hl
      cases e : grade b (p + 1) with
      | error q => rw [e] at h; cases h
      | ok y =>
        obtain ⟨g, p'⟩ := y
        rw [e] at h
        simp only [Except.ok.injEq, Prod.mk.injEq] at h
        obtain ⟨rfl, _⟩ := h
        obtain ⟨l, el, hl'⟩ := let_some hl
        obtain ⟨k, ek, hk⟩ := grade_small e
        rw [el, ek]
        exact .code hl' hk
    · cases e : deviation b p with
      | error q => rw [e] at h; cases h
      | ok y =>
        obtain ⟨d1, a1, p1⟩ := y
        rw [e] at h
        simp only at h
        split at h
        · cases e2 : deviation b (p1 + 1) with
          | error q => rw [e2] at h; cases h
          | ok y =>
            obtain ⟨d2, a2, p2⟩ := y
            rw [e2] at h
            simp only [Except.ok.injEq, Prod.mk.injEq] at h
            obtain ⟨rfl, _⟩ := h
            exact .uneven (dev_place e2)
        · cases h
theorem shape_ok {b : Bytes} {s : Shp} (h : shapeOf b = .ok s) : ShpOk s := by
  unfold shapeOf at h
  cases e : number b 0 with
  | error q => rw [e] at h; cases h
  | ok y =>
    obtain ⟨n, p⟩ := y
    rw [e] at h
    simp only at h
    split at h
    · cases e2 : behindOf b n (p + 1) with
      | error q => rw [e2] at h; cases h
      | ok z =>
        obtain ⟨s', p'⟩ := z
        rw [e2] at h
        simp only at h
        split at h
        · cases h
        · cases h
          exact behind_ok e2
    · split at h
      · cases h
      · cases h
        exact .plain
end SbText
end
section
namespace SbPlay
open Ft FtBench
def flatC : FitC.Call → List Int
  | .item t => 1 :: (t.length : Int) :: t.map fun (c : UInt8) => (c.toNat : Int)
  | .tool t => [2, (t.kind : Int), t.lo, t.hi, (t.e : Int), (t.d : Int)]
  | .read t i r => [3, (t : Int), (i : Int), r]
  | .check t a z r => [4, (t : Int), a, z, r]
  | .known i => [5, (i : Int)]
  | .next t => [6, (t : Int)]
  | .judge i => [7, (i : Int)]
  | .apart i j => [8, (i : Int), (j : Int)]
  | .back n => [9, (n : Int)]
  | .counts => [10]
def playC : FitC.State → List FitC.Call → List (List Int)
  | _, [] => []
  | s, c :: r => (FitC.step s c).2 :: playC (FitC.step s c).1 r
theorem whole32_nat {z : Int} (h : FitCNeutral.whole32 z = true) : ∃ n : Nat, z = (n : Int) := by
  unfold FitCNeutral.whole32 at h
  simp at h
  exact ⟨z.toNat, by omega⟩
theorem nn1 {z : Nat} : FitCNeutral.nonneg [(z : Int)] = true := by simp [FitCNeutral.nonneg]
theorem nn2 {z y : Nat} : FitCNeutral.nonneg [(z : Int), (y : Int)] = true := by simp [FitCNeutral.nonneg]
theorem nn3 {z y x : Nat} : FitCNeutral.nonneg [(z : Int), (y : Int), (x : Int)] = true := by simp [FitCNeutral.nonneg]
theorem row_spec {r x t : List Int} (h : PyFlat.row r = some (x, t)) : r = (x.length : Int) :: (x ++ t) := by
  cases r with
  | nil => simp [PyFlat.row] at h
  | cons n r =>
    have h' : (if 0 ≤ n ∧ n.toNat ≤ r.length then some (r.take n.toNat, r.drop n.toNat) else none) = some (x, t) := h
    by_cases c : 0 ≤ n ∧ n.toNat ≤ r.length
    · rw [if_pos c] at h'
      simp only [Option.some.injEq, Prod.mk.injEq] at h'
      obtain ⟨rfl, rfl⟩ := h'
      rw [List.take_append_drop, List.length_take, Nat.min_eq_left c.2]
      rw [Int.toNat_of_nonneg c.1]
    · rw [if_neg c] at h'
      cases h'
theorem text_back {t : List Int} (h : (t.all fun (z : Int) => FitCNeutral.natural z 8) = true) : (FitCNeutral.text t).map (fun (c : UInt8) => (c.toNat : Int)) = t ∧ NeutralIO.bytes t = true := by
  induction t with
  | nil => exact ⟨rfl, rfl⟩
  | cons a t ih =>
    rw [List.all_cons, Bool.and_eq_true] at h
    obtain ⟨h1, h2⟩ := h
    obtain ⟨e1, e2⟩ := ih h2
    unfold FitCNeutral.natural at h1
    simp at h1
    constructor
    · show ((UInt8.ofNat a.toNat).toNat : Int) :: (FitCNeutral.text t).map (fun (c : UInt8) => (c.toNat : Int)) = a :: t
      rw [e1]
      congr 1
      rw [UInt8.toNat_ofNat']
      omega
    · unfold NeutralIO.bytes at e2 ⊢
      rw [List.all_cons, e2]
      simp
      omega
/-- a call that may be asked, taken off the list -/
theorem call_spec {l t : List Int} {c : List (List Int)} (h : PyFlat.call PyWqajbt.shape l = some (c, t)) (ha : FitCNeutral.asked1 (PyWqajbt.whole c) = true) :
    ∃ x : FitC.Call, l = flatC x ++ t ∧ FitCNeutral.callOf (PyWqajbt.whole c) = some x := by
  cases l with
  | nil => simp [PyFlat.call] at h
  | cons p r =>
    have sh : ∀ {n k : Nat}, PyWqajbt.shape p = some (n, k) → (if r.length < n then none else match PyFlat.rows k (r.drop n) with
      | none => none
      | some (xs, t) => some ((p :: r.take n) :: xs, t)) = some (c, t) := fun {n k} e => by
      simp only [PyFlat.call, e] at h
      exact h
    have r0 : ∀ s : List Int, PyFlat.rows 0 s = some ([], s) := fun s => rfl
    unfold PyWqajbt.shape at sh
    by_cases p1 : p = 1
    · subst p1
      have q := sh (n := 0) (k := 1) rfl
      simp only [Nat.not_lt_zero, if_false, List.drop_zero, PyFlat.rows] at q
      cases e : PyFlat.row r with
      | none => rw [e] at q; cases q
      | some y =>
        obtain ⟨x, s⟩ := y
        rw [e] at q
        simp at q
        obtain ⟨rfl, rfl⟩ := q
        have ha' : (x.all fun (z : Int) => FitCNeutral.natural z 8) = true := ha
        obtain ⟨e1, e2⟩ := text_back ha'
        refine ⟨.item (FitCNeutral.text x), ?_, ?_⟩
        · show 1 :: r = 1 :: (((FitCNeutral.text x).length : Int) :: ((FitCNeutral.text x).map fun (c : UInt8) => (c.toNat : Int)) ++ s)
          rw [e1, row_spec e]
          have : (FitCNeutral.text x).length = x.length := by simp [FitCNeutral.text]
          rw [this]
          rfl
        · show (if NeutralIO.bytes x = true then some (FitC.Call.item (FitCNeutral.text x)) else none) = _
          rw [if_pos e2]
    by_cases p2 : p = 2
    · subst p2
      have q := sh (n := 5) (k := 0) rfl
      split at q
      · cases q
      · rename_i hl
        rw [r0] at q
        match r, hl with
        | a0 :: a1 :: a2 :: a3 :: a4 :: s, _ =>
          simp at q
          obtain ⟨rfl, rfl⟩ := q
          have ha' : (FitCNeutral.whole32 a0 && FitCNeutral.whole42 a1 && FitCNeutral.whole42 a2 && FitCNeutral.whole32 a3 && FitCNeutral.whole32 a4) = true := ha
          simp only [Bool.and_eq_true] at ha'
          obtain ⟨⟨⟨⟨h0, _⟩, _⟩, h3⟩, h4⟩ := ha'
          obtain ⟨k, rfl⟩ := whole32_nat h0
          obtain ⟨e, rfl⟩ := whole32_nat h3
          obtain ⟨d, rfl⟩ := whole32_nat h4
          refine ⟨.tool ⟨k, a1, a2, e, d⟩, rfl, ?_⟩
          show (if FitCNeutral.nonneg [(k : Int), (e : Int), (d : Int)] = true then some (FitC.Call.tool ⟨(k : Int).toNat, a1, a2, (e : Int).toNat, (d : Int).toNat⟩) else none) = _
          rw [if_pos nn3]
          simp
        | [], hl => simp at hl
        | [_], hl => simp at hl
        | [_, _], hl => simp at hl
        | [_, _, _], hl => simp at hl
        | [_, _, _, _], hl => simp at hl
    by_cases p3 : p = 3
    · subst p3
      have q := sh (n := 3) (k := 0) rfl
      split at q
      · cases q
      · rename_i hl
        rw [r0] at q
        match r, hl with
        | a0 :: a1 :: a2 :: s, _ =>
          simp at q
          obtain ⟨rfl, rfl⟩ := q
          have ha' : (FitCNeutral.whole32 a0 && FitCNeutral.whole32 a1 && FitCNeutral.whole42 a2) = true := ha
          simp only [Bool.and_eq_true] at ha'
          obtain ⟨⟨h0, h1⟩, _⟩ := ha'
          obtain ⟨k, rfl⟩ := whole32_nat h0
          obtain ⟨i, rfl⟩ := whole32_nat h1
          refine ⟨.read k i a2, rfl, ?_⟩
          show (if FitCNeutral.nonneg [(k : Int), (i : Int)] = true then some (FitC.Call.read (k : Int).toNat (i : Int).toNat a2) else none) = _
          rw [if_pos nn2]
          simp
        | [], hl => simp at hl
        | [_], hl => simp at hl
        | [_, _], hl => simp at hl
    by_cases p4 : p = 4
    · subst p4
      have q := sh (n := 4) (k := 0) rfl
      split at q
      · cases q
      · rename_i hl
        rw [r0] at q
        match r, hl with
        | a0 :: a1 :: a2 :: a3 :: s, _ =>
          simp at q
          obtain ⟨rfl, rfl⟩ := q
          have ha' : (FitCNeutral.whole32 a0 && FitCNeutral.whole42 a1 && FitCNeutral.whole42 a2 && FitCNeutral.whole42 a3) = true := ha
          simp only [Bool.and_eq_true] at ha'
          obtain ⟨⟨⟨h0, _⟩, _⟩, _⟩ := ha'
          obtain ⟨k, rfl⟩ := whole32_nat h0
          refine ⟨.check k a1 a2 a3, rfl, ?_⟩
          show (if FitCNeutral.nonneg [(k : Int)] = true then some (FitC.Call.check (k : Int).toNat a1 a2 a3) else none) = _
          rw [if_pos nn1]
          simp
        | [], hl => simp at hl
        | [_], hl => simp at hl
        | [_, _], hl => simp at hl
        | [_, _, _], hl => simp at hl
    by_cases p8 : p = 8
    · subst p8
      have q := sh (n := 2) (k := 0) rfl
      split at q
      · cases q
      · rename_i hl
        rw [r0] at q
        match r, hl with
        | a0 :: a1 :: s, _ =>
          simp at q
          obtain ⟨rfl, rfl⟩ := q
          have ha' : (FitCNeutral.whole32 a0 && FitCNeutral.whole32 a1) = true := ha
          simp only [Bool.and_eq_true] at ha'
          obtain ⟨h0, h1⟩ := ha'
          obtain ⟨k, rfl⟩ := whole32_nat h0
          obtain ⟨i, rfl⟩ := whole32_nat h1
          refine ⟨.apart k i, rfl, ?_⟩
          show (if FitCNeutral.nonneg [(k : Int), (i : Int)] = true then some (FitC.Call.apart (k : Int).toNat (i : Int).toNat) else none) = _
          rw [if_pos nn2]
          simp
        | [], hl => simp at hl
        | [_], hl => simp at hl
    by_cases p10 : p = 10
    · subst p10
      have q := sh (n := 0) (k := 0) rfl
      rw [if_neg (Nat.not_lt_zero _), r0] at q
      simp at q
      obtain ⟨rfl, rfl⟩ := q
      exact ⟨.counts, rfl, rfl⟩
    have one : ∀ (hs : PyWqajbt.shape p = some (1, 0)), ∃ a0 s, r = a0 :: s ∧ c = [[p, a0]] ∧ t = s := fun hs => by
      unfold PyWqajbt.shape at hs
      have q := sh hs
      split at q
      · cases q
      · rename_i hl
        rw [r0] at q
        match r, hl with
        | a0 :: s, _ =>
          simp at q
          exact ⟨a0, s, rfl, q.1.symm, q.2.symm⟩
        | [], hl => simp at hl
    by_cases p5 : p = 5
    · subst p5
      obtain ⟨a0, s, rfl, rfl, rfl⟩ := one rfl
      obtain ⟨k, rfl⟩ := whole32_nat (show FitCNeutral.whole32 a0 = true from ha)
      refine ⟨.known k, rfl, ?_⟩
      show (if FitCNeutral.nonneg [(k : Int)] = true then some (FitC.Call.known (k : Int).toNat) else none) = _
      rw [if_pos nn1]
      simp
    by_cases p6 : p = 6
    · subst p6
      obtain ⟨a0, s, rfl, rfl, rfl⟩ := one rfl
      obtain ⟨k, rfl⟩ := whole32_nat (show FitCNeutral.whole32 a0 = true from ha)
      refine ⟨.next k, rfl, ?_⟩
      show (if FitCNeutral.nonneg [(k : Int)] = true then some (FitC.Call.next (k : Int).toNat) else none) = _
      rw [if_pos nn1]
      simp
    by_cases p7 : p = 7
    · subst p7
      obtain ⟨a0, s, rfl, rfl, rfl⟩ := one rfl
      obtain ⟨k, rfl⟩ := whole32_nat (show FitCNeutral.whole32 a0 = true from ha)
      refine ⟨.judge k, rfl, ?_⟩
      show (if FitCNeutral.nonneg [(k : Int)] = true then some (FitC.Call.judge (k : Int).toNat) else none) = _
      rw [if_pos nn1]
      simp
    by_cases p9 : p = 9
    · subst p9
      obtain ⟨a0, s, rfl, rfl, rfl⟩ := one rfl
      obtain ⟨k, rfl⟩ := whole32_nat (show FitCNeutral.whole32 a0 = true from ha)
      refine ⟨.back k, rfl, ?_⟩
      show (if FitCNeutral.nonneg [(k : Int)] = true then some (FitC.Call.back (k : Int).toNat) else none) = _
      rw [if_pos nn1]
      simp
    · have e : PyWqajbt.shape p = none := by
        unfold PyWqajbt.shape
        rw [if_neg p1, if_neg p2, if_neg p3, if_neg p4, if_neg p5, if_neg p6, if_neg p7, if_neg p8, if_neg p9, if_neg p10]
      simp only [PyFlat.call, e] at h
      cases h
theorem step_of {c : List (List Int)} {x : FitC.Call} (h : FitCNeutral.callOf c = some x) (s : FitC.State) : FitCNeutral.step s c = FitC.step s x := by
  unfold FitCNeutral.step
  rw [h]
theorem calls_spec : ∀ (f : Nat) (l : List Int) (cs : List (List (List Int))), PyFlat.calls PyWqajbt.shape f l = some cs → (cs.map PyWqajbt.whole).all FitCNeutral.asked1 = true →
    ∃ xs : List FitC.Call, l = xs.flatMap flatC ∧ ∀ s, PyFlat.played FitCNeutral.step s (cs.map PyWqajbt.whole) = playC s xs
  | f, [], cs, h, _ => by
    have e : cs = [] := by cases f <;> simp [PyFlat.calls] at h <;> exact h
    subst e
    exact ⟨[], rfl, fun s => rfl⟩
  | 0, _ :: _, cs, h, _ => by simp [PyFlat.calls] at h
  | f + 1, p :: r, cs, h, ha => by
    unfold PyFlat.calls at h
    cases e : PyFlat.call PyWqajbt.shape (p :: r) with
    | none => rw [e] at h; cases h
    | some y =>
      obtain ⟨c, t⟩ := y
      rw [e] at h
      simp only at h
      cases e2 : PyFlat.calls PyWqajbt.shape f t with
      | none => rw [e2] at h; cases h
      | some cs' =>
        rw [e2] at h
        simp only [Option.some.injEq] at h
        subst h
        rw [List.map_cons, List.all_cons, Bool.and_eq_true] at ha
        obtain ⟨x, hx, hc⟩ := call_spec e ha.1
        obtain ⟨xs, hl, hp⟩ := calls_spec f t cs' e2 ha.2
        refine ⟨x :: xs, by rw [List.flatMap_cons, hx, hl], fun s => ?_⟩
        show (FitCNeutral.step s (PyWqajbt.whole c)).2 :: PyFlat.played FitCNeutral.step (FitCNeutral.step s (PyWqajbt.whole c)).1 (cs'.map PyWqajbt.whole) = _
        rw [step_of hc, hp]
        rfl
theorem asked_calls {l : List Int} (h : PyWqajbt.answers_asked l = true) : ∃ xs : List FitC.Call, xs.length ≤ 400 ∧ l = xs.flatMap flatC ∧ PyWqajbt.answers l = (playC FitC.start xs).flatMap fun a => (a.length : Int) :: a := by
  unfold PyWqajbt.answers_asked at h
  unfold PyWqajbt.answers
  unfold PyWqajbt.calls at h ⊢
  cases e : PyFlat.calls PyWqajbt.shape l.length l with
  | none => rw [e] at h; cases h
  | some cs =>
    rw [e] at h
    simp only [Bool.and_eq_true] at h
    obtain ⟨h1, h2⟩ := h
    have h3 : (cs.map PyWqajbt.whole).all FitCNeutral.asked1 = true := by
      unfold FitCNeutral.asked at h2
      simp only [Bool.and_eq_true] at h2
      exact h2.2.2
    have h4 : cs.length ≤ 400 := by
      unfold PyFlat.atMost at h1
      simpa using h1
    obtain ⟨xs, hl, hp⟩ := calls_spec l.length l cs e h3
    refine ⟨xs, ?_, hl, ?_⟩
    · have := congrArg List.length (hp FitC.start)
      have pl : ∀ (s : FitC.State) (cs : List (List (List Int))), (PyFlat.played FitCNeutral.step s cs).length = cs.length := fun s cs => by
        induction cs generalizing s with
        | nil => rfl
        | cons c cs ih => simp [PyFlat.played, ih]
      have pc : ∀ (s : FitC.State) (xs : List FitC.Call), (playC s xs).length = xs.length := fun s xs => by
        induction xs generalizing s with
        | nil => rfl
        | cons c cs ih => simp [playC, ih]
      rw [pl, pc, List.length_map] at this
      omega
    · show PyFlat.told (PyFlat.played FitCNeutral.step FitCNeutral.start (cs.map PyWqajbt.whole)) = _
      rw [hp]
      rfl
end SbPlay
end
section
set_option maxHeartbeats 200000
set_option Elab.async false
set_option linter.all false
set_option maxRecDepth 100000
namespace L2
open PySem PySem.Spec PyProof.Rows
abbrev Key := Sum Int Str
def keyIs : Key → Value → Bool
  | .inl k, v => Value.isInt k v
  | .inr x, v => Value.isStrOf x v
def keyH (w : World) : Key → Int
  | .inl k => hashInt k
  | .inr x => hashStr w x
theorem keyIs_shape : ∀ {k : Key} {v : Value}, keyIs k v = true → (∃ i t, k = Sum.inl i ∧ v = Value.int i t) ∨ (∃ x t, k = Sum.inr x ∧ v = Value.str x t)
  | .inl i, v, h => by
    obtain ⟨t, e⟩ := Value.isInt_shape (k := i) (v := v) h
    exact .inl ⟨i, t, rfl, e⟩
  | .inr x, v, h => by
    obtain ⟨t, e⟩ := Value.isStrOf_shape (x := x) (v := v) h
    exact .inr ⟨x, t, rfl, e⟩
theorem keyIs_int (i : Int) (t : Tok) : keyIs (.inl i) (.int i t) = true := by simp [keyIs, Value.isInt]
theorem keyIs_str (x : Str) (t : Tok) : keyIs (.inr x) (.str x t) = true := by simp [keyIs, Value.isStrOf]
theorem key_ll (a b : Int) : decide ((Sum.inl a : Key) = Sum.inl b) = (a == b) := by
  by_cases e : a = b
  · subst e; simp
  · have h : ¬ (Sum.inl a : Key) = Sum.inl b := fun q => e (Sum.inl.inj q)
    rw [decide_eq_false h]
    exact (beq_eq_false_iff_ne.mpr e).symm
theorem key_rr (a b : Str) : decide ((Sum.inr a : Key) = Sum.inr b) = decide (a = b) := by
  by_cases e : a = b
  · subst e; simp
  · have h : ¬ (Sum.inr a : Key) = Sum.inr b := fun q => e (Sum.inr.inj q)
    rw [decide_eq_false h, decide_eq_false e]
theorem key_lr (a : Int) (b : Str) : decide ((Sum.inl a : Key) = Sum.inr b) = false := decide_eq_false (fun q => nomatch q)
theorem key_rl (a : Str) (b : Int) : decide ((Sum.inr a : Key) = Sum.inl b) = false := decide_eq_false (fun q => nomatch q)
def mixKind (prog : Program) (w : World) : PySem.KeyKind prog w Key where
  is := keyIs
  hash := keyH w
  inj := fun v a b ha hb => by
    rcases keyIs_shape ha with ⟨i, t, rfl, rfl⟩ | ⟨x, t, rfl, rfl⟩
    · rcases keyIs_shape hb with ⟨j, u, rfl, e⟩ | ⟨y, u, rfl, e⟩
      · injection e with e1 _; rw [e1]
      · exact nomatch e
    · rcases keyIs_shape hb with ⟨j, u, rfl, e⟩ | ⟨y, u, rfl, e⟩
      · exact nomatch e
      · injection e with e1 _; rw [e1]
  byValue := fun k v h => by
    rcases keyIs_shape h with ⟨i, t, rfl, rfl⟩ | ⟨x, t, rfl, rfl⟩ <;> rfl
  pyHash := fun hv h => by
    rcases keyIs_shape hv with ⟨i, t, rfl, rfl⟩ | ⟨x, t, rfl, rfl⟩
    · exact wpAny_pyHash_int h
    · exact wpAny_pyHash_str h
  eqBool := fun hu hv h => by
    rcases keyIs_shape hu with ⟨i, t, rfl, rfl⟩ | ⟨x, t, rfl, rfl⟩
    · rcases keyIs_shape hv with ⟨j, u, rfl, rfl⟩ | ⟨y, u, rfl, rfl⟩
      · rw [key_ll] at h; exact wpAny_eqBool_int h
      · rw [key_lr] at h; exact SeqAt.EqAt.int_str i t y u _ _ _ _ h
    · rcases keyIs_shape hv with ⟨j, u, rfl, rfl⟩ | ⟨y, u, rfl, rfl⟩
      · rw [key_rl] at h; exact SeqAt.EqAt.str_int x t j u _ _ _ _ h
      · rw [key_rr] at h; exact wpAny_eqBool_str h
  «strs» := fun k x t v h => by
    rcases keyIs_shape h with ⟨i, u, rfl, e⟩ | ⟨y, u, rfl, e⟩
    · exact nomatch e
    · injection e with e1 _
      subst e1
      cases v <;> rfl
theorem mixKind_int (prog : Program) (w : World) (i : Int) (t : Tok) : (mixKind prog w).is (.inl i) (.int i t) = true := keyIs_int i t
theorem mixKind_str (prog : Program) (w : World) (x : Str) (t : Tok) : (mixKind prog w).is (.inr x) (.str x t) = true := keyIs_str x t
end L2
namespace L2
open PySem PySem.Spec PyProof.Rows
inductive V where
  | non | bl (b : Bool) | int (i : Int) | str (x : Str) | byt (b : Array UInt8) | flt (b : UInt64) | ref (a : Addr) | ty (n : String)
  deriving DecidableEq
def RelV : V → Value → Prop
  | .non, u => u = Value.none
  | .bl b, u => u = Value.bool b
  | .int i, u => ∃ t, u = Value.int i t
  | .str x, u => ∃ t, u = Value.str x t
  | .byt b, u => ∃ t, u = Value.bytes b t
  | .flt b, u => ∃ t, u = Value.float b t
  | .ref a, u => u = Value.ref a
  | .ty n, u => u = Value.type n
abbrev Vals : List V → List Value → Prop := Paired RelV
theorem Vals.length {xs : List V} {us : List Value} (r : Vals xs us) : xs.length = us.length := Paired.length r
theorem Vals.get : ∀ {xs : List V} {us : List Value} {i : Nat} {x : V}, Vals xs us → xs[i]? = some x → ∃ u, us[i]? = some u ∧ RelV x u
  | _, _, _, _, .nil, e => by simp at e
  | _, _, 0, _, .cons r _, e => by simp at e; subst e; exact ⟨_, rfl, r⟩
  | _, _, i + 1, x, .cons _ t, e => by
    obtain ⟨u, h1, h2⟩ := Vals.get (i := i) (x := x) t (by simpa using e)
    exact ⟨u, by simpa using h1, h2⟩
theorem Vals.set {x : V} {u : Value} (r : RelV x u) : ∀ {xs : List V} {us : List Value} (i : Nat), Vals xs us → Vals (xs.set i x) (us.set i u)
  | _, _, _, .nil => .nil
  | _, _, 0, .cons _ t => .cons r t
  | _, _, i + 1, .cons q t => .cons q (Vals.set r i t)
theorem Vals.append : ∀ {xs ys : List V} {us ws : List Value}, Vals xs us → Vals ys ws → Vals (xs ++ ys) (us ++ ws)
  | _, _, _, _, .nil, s => s
  | _, _, _, _, .cons r t, s => .cons r (Vals.append t s)
theorem Vals.take : ∀ {xs : List V} {us : List Value} (n : Nat), Vals xs us → Vals (xs.take n) (us.take n)
  | _, _, 0, _ => .nil
  | _, _, _ + 1, .nil => .nil
  | _, _, n + 1, .cons r t => .cons r (Vals.take n t)
theorem Vals.drop : ∀ {xs : List V} {us : List Value} (n : Nat), Vals xs us → Vals (xs.drop n) (us.drop n)
  | _, _, 0, r => r
  | _, _, _ + 1, .nil => .nil
  | _, _, n + 1, .cons _ t => Vals.drop n t
def RelO : Option V → Option Value → Prop
  | some v, some u => RelV v u
  | none, none => True
  | _, _ => False
def KV {κ : Type} : List (κ × V) → List (κ × Value) → Prop := Paired fun (p : κ × V) (q : κ × Value) => p.1 = q.1 ∧ RelV p.2 q.2
def kV : Key → V
  | .inl i => .int i
  | .inr x => .str x
inductive HO where
  /-- a list -/
  | lst (xs : List V)
  /-- a tuple (never changes) -/
  | tup (xs : List V)
  /-- a dict whose keys are ints and texts; one whose keys are tuples of ints and texts (the empty one is both) -/
  | dK (kvs : List (Key × V)) | dT (kvs : List (List Key × V))
  /-- a set of ints: its members, its size -/
  | set (S : Int → Bool) (n : Nat)
  /-- an instance of the class at C, its dict at dx, its attributes -/
  | ins (C dx : Addr) (fs : List (Str × V))
  /-- the dict of the instance at x -/
  | own (x : Addr)
  /-- the dict of an exception -/
  | xd (fs : List (Str × V))
  /-- a bound method, f of x -/
  | met (f x : Addr)
  /-- a range object lo, lo + 1, .. below hi -/
  | rng (lo hi : Int)
  /-- a thing that is known to the object (the script; a dict while a loop walks it): read, never written while it is so -/
  | frz (o : Obj) (u : HO)
  /-- a code object's table -/
  | tbl (ps : Array Value)
  /-- any other thing, by what is true of its one object (a def of one's own: SetO a S n := HO.ext fun h => ..) -/
  | ext (φ : Heap → Prop)
abbrev Hp := Addr → Option HO
def upd (H : Hp) (a : Addr) (o : HO) : Hp := fun b => if b = a then some o else H b
theorem upd_same {H : Hp} {a : Addr} {o : HO} : upd H a o a = some o := by unfold upd; rw [if_pos rfl]
theorem upd_ne {H : Hp} {a b : Addr} {o : HO} (h : b ≠ a) : upd H a o b = H b := by unfold upd; rw [if_neg h]
theorem ne_of {H : Hp} {a b : Addr} {o u : HO} (h : H a = some o) (h' : H b = some u) (d : o ≠ u) : a ≠ b := by
  intro e; subst e; rw [h] at h'; exact d (Option.some.inj h')
theorem ne_of_none {H : Hp} {a b : Addr} {o : HO} (h : H a = some o) (h' : H b = none) : a ≠ b := by
  intro e; subst e; rw [h] at h'; cases h'
section
variable (P : Program) (w : World)
def ObjOk (H : Hp) (h : Heap) (a : Addr) : HO → Prop
  | .lst xs => xs.length ≤ sizeLine ∧ ∃ (its : List Value) (n : Nat), Vals xs its ∧ h.get? a = some { cls := .type "list", data := .seq its.toArray n }
  | .tup xs => xs.length ≤ sizeLine ∧ ∃ its : List Value, Vals xs its ∧ IsTup h a its.toArray
  | .dK kvs => kvs.length ≤ sizeLine ∧ (a == sysModules) = false ∧ ∃ vs, KV kvs vs ∧ h.DictOf (mixKind P w) a vs
  | .dT kvs => kvs.length ≤ sizeLine ∧ (a == sysModules) = false ∧ ∃ xs : List (List Key × Addr × Value),
      Paired (fun (p : List Key × V) (q : List Key × Addr × Value) => p.1 = q.1 ∧ H q.2.1 = some (.tup (p.1.map kV)) ∧ RelV p.2 q.2.2) kvs xs ∧
      ∃ o es ep, h.get? a = some o ∧ o.ExactDict ∧ o.data = .dict es ep ∧ es.toList = xs.map (entryOfKey (tupleKind (mixKind P w))) ∧ (xs.map (·.1)).Nodup
  | .set S n => h.SetOf (intKind P w) a S n
  | .ins C dx fs => H dx = some (.own a) ∧ fs.length ≤ 1000 ∧ dx ≠ a ∧ h.get? a = some (PySem.W.instObj C dx) ∧
      ∃ mA, h.Ns1 dx mA ∧ (∀ f, RelO (fs.lookup f) (mA f)) ∧ PySem.Within mA (fs.map (·.1))
  | .own _ => ∃ o, h.get? a = some o
  | .xd fs => ∃ mA, h.Ns1 a mA ∧ ∀ f, RelO (fs.lookup f) (mA f)
  | .rng lo hi => ∃ t u v, h.get? a = some { cls := .type "range", data := .fields #[.int lo t, .int hi u, .int 1 v] }
  | .frz o u => h.get? a = some o ∧ ObjOk H h a u
  | .tbl ps => h.get? a = some { cls := .none, data := .fields ps }
  | .met f x => h.get? a = some (PySem.W.methodObj (.ref f) (.ref x))
  | .ext φ => φ h ∧ (∃ o, h.get? a = some o) ∧ ∀ h1 h2 : Heap, φ h1 → (∀ o, h1.get? a = some o → h2.get? a = some o) → φ h2
def HOk (H : Hp) (h : Heap) : Prop := ∀ a o, H a = some o → ObjOk P w H h a o
end
section
variable {P : Program} {w : World} {H H' : Hp} {h h' : Heap} {a : Addr} {o : HO}
theorem ObjOk.lt (x : ObjOk P w H h a o) : a < h.objs.size := by
  cases o with
  | lst xs => obtain ⟨_, _, _, _, e⟩ := x; exact Heap.lt_size e
  | tup xs => obtain ⟨_, _, _, p⟩ := x; exact p.lt
  | dK kvs => obtain ⟨_, _, _, _, o, _, _, e, _⟩ := x; exact Heap.lt_size e
  | dT kvs => obtain ⟨_, _, _, _, o, _, _, e, _⟩ := x; exact Heap.lt_size e
  | set S n => obtain ⟨o, _, _, _, e, _⟩ := x; exact Heap.lt_size e
  | ins C dx fs => obtain ⟨_, _, _, e, _⟩ := x; exact Heap.lt_size e
  | own y => obtain ⟨_, e⟩ := x; exact Heap.lt_size e
  | xd fs => obtain ⟨_, ⟨_, _, _, e, _⟩, _⟩ := x; exact Heap.lt_size e
  | rng lo hi => obtain ⟨_, _, _, e⟩ := x; exact Heap.lt_size e
  | frz ob u => obtain ⟨e, _⟩ := x; exact Heap.lt_size e
  | tbl ps => exact Heap.lt_size (show h.get? a = some _ from x)
  | met f y => exact Heap.lt_size (show h.get? a = some _ from x)
  | ext φ => obtain ⟨_, ⟨_, e⟩, _⟩ := x; exact Heap.lt_size e
theorem Paired.mapP {α β : Type} {F G : α → β → Prop} : ∀ {l₁ : List α} {l₂ : List β}, Paired F l₁ l₂ → (∀ a b, F a b → G a b) → Paired G l₁ l₂
  | _, _, .nil, _ => .nil
  | _, _, .cons r t, f => .cons (f _ _ r) (Paired.mapP t f)
theorem Paired.imp' {α β : Type} {F G : α → β → Prop} (f : ∀ a b, F a b → G a b) {l₁ : List α} {l₂ : List β} (r : Paired F l₁ l₂) : Paired G l₁ l₂ := Paired.mapP r f
theorem ObjOk.stay (x : ObjOk P w H h a o) (k : ∀ b u, (b = a ∨ H b = some (.own a)) → h.get? b = some u → h'.get? b = some u)
    (ho : ∀ b, H b = some (.own a) → H' b = some (.own a)) (ht : ∀ b xs, H b = some (.tup xs) → H' b = some (.tup xs)) : ObjOk P w H' h' a o := by
  induction o with
  | lst xs => obtain ⟨z, its, n, r, e⟩ := x; exact ⟨z, its, n, r, k _ _ (.inl rfl) e⟩
  | tup xs => obtain ⟨z, its, r, ob, e, c⟩ := x; exact ⟨z, its, r, ob, k _ _ (.inl rfl) e, c⟩
  | dK kvs => obtain ⟨z, y, vs, r, ob, es, ep, e, c⟩ := x; exact ⟨z, y, vs, r, ob, es, ep, k _ _ (.inl rfl) e, c⟩
  | dT kvs =>
    obtain ⟨z, y, xs, r, ob, es, ep, e, c⟩ := x
    exact ⟨z, y, xs, Paired.mapP r fun p q z => ⟨z.1, ht _ _ z.2.1, z.2.2⟩, ob, es, ep, k _ _ (.inl rfl) e, c⟩
  | set S n => obtain ⟨ob, es, ep, t, e, c⟩ := x; exact ⟨ob, es, ep, t, k _ _ (.inl rfl) e, c⟩
  | ins C dx fs =>
    obtain ⟨d, z, ne, e, mA, ⟨od, es, ep, e2, c⟩, r⟩ := x
    exact ⟨ho _ d, z, ne, k _ _ (.inl rfl) e, mA, ⟨od, es, ep, k _ _ (.inr d) e2, c⟩, r⟩
  | own y => obtain ⟨ob, e⟩ := x; exact ⟨ob, k _ _ (.inl rfl) e⟩
  | xd fs => obtain ⟨mA, ⟨od, es, ep, e, c⟩, r⟩ := x; exact ⟨mA, ⟨od, es, ep, k _ _ (.inl rfl) e, c⟩, r⟩
  | rng lo hi => obtain ⟨t, u, v, e⟩ := x; exact ⟨t, u, v, k _ _ (.inl rfl) e⟩
  | frz ob u ih => obtain ⟨e, q⟩ := x; exact ⟨k _ _ (.inl rfl) e, ih q⟩
  | tbl ps =>
    have e : h.get? a = some { cls := .none, data := .fields ps } := x
    show h'.get? a = some { cls := .none, data := .fields ps }
    exact k a _ (.inl rfl) e
  | met f y =>
    have e : h.get? a = some (PySem.W.methodObj (.ref f) (.ref y)) := x
    show h'.get? a = some (PySem.W.methodObj (.ref f) (.ref y))
    exact k a _ (.inl rfl) e
  | ext φ => obtain ⟨p, ⟨o, e⟩, st⟩ := x; exact ⟨st _ _ p fun o q => k _ _ (.inl rfl) q, ⟨o, k _ _ (.inl rfl) e⟩, st⟩
theorem HOk.lt (x : HOk P w H h) (e : H a = some o) : a < h.objs.size := (x a o e).lt
theorem HOk.fresh (x : HOk P w H h) (e : h.objs.size ≤ a) : H a = none := by
  cases q : H a with
  | none => rfl
  | some u => exact absurd (Nat.lt_of_lt_of_le (x.lt q) e) (Nat.lt_irrefl _)
theorem HOk.kept (x : HOk P w H h) (k : ∀ b u, h.get? b = some u → h'.get? b = some u) : HOk P w H h' := fun a o e =>
  (x a o e).stay (fun b u _ q => k b u q) (fun _ q => q) fun _ _ q => q
theorem HOk.laid (x : HOk P w H h) (k : ∀ b u, h.get? b = some u → h'.get? b = some u) (hp : h.objs.size ≤ a) (new : ObjOk P w (upd H a o) h' a o) : HOk P w (upd H a o) h' := fun b u e => by
  have hn := x.fresh hp
  by_cases hb : b = a
  · subst hb; rw [upd_same] at e; cases e; exact new
  · rw [upd_ne hb] at e
    exact (x b u e).stay (fun c v _ q => k c v q) (fun c q => by rw [upd_ne (ne_of_none q hn)]; exact q) fun c xs q => by rw [upd_ne (ne_of_none q hn)]; exact q
end
def Rd (H : Hp) (a : Addr) (u : HO) : Prop := H a = some u ∨ ∃ o, H a = some (.frz o u)
theorem Rd.ok {P : Program} {w : World} {H : Hp} {h : Heap} {a : Addr} {u : HO} (r : Rd H a u) (x : HOk P w H h) : ObjOk P w H h a u := by
  rcases r with r | ⟨o, r⟩
  · exact x a u r
  · obtain ⟨_, q⟩ := x a _ r
    exact q
def Mut : Option HO → Prop
  | some (.lst _) => True
  | some (.dK _) => True
  | some (.dT _) => True
  | some (.set _ _) => True
  | some (.ins _ _ _) => True
  | some (.ext _) => True
  | _ => False
section
variable {P : Program} {w : World} {H : Hp} {h h' : Heap} {x e : Addr} {o' : HO}
theorem HOk.write (ok : HOk P w H h) (mu : Mut (H x)) (he : e = x ∨ H e = some (.own x)) (k : ∀ b u, b ≠ e → h.get? b = some u → h'.get? b = some u) (heo : ∃ u, h'.get? e = some u)
    (new : ObjOk P w (upd H x o') h' x o') : HOk P w (upd H x o') h' := fun b u q => by
  have nown : ∀ c y, H c = some (.own y) → c ≠ x := fun c y r z => by subst z; rw [r] at mu; exact mu
  have ntup : ∀ c xs, H c = some (.tup xs) → c ≠ x := fun c xs r z => by subst z; rw [r] at mu; exact mu
  by_cases hb : b = x
  · subst hb; rw [upd_same] at q; cases q; exact new
  · rw [upd_ne hb] at q
    by_cases hbe : b = e
    · have q' : H b = some (.own x) := by
        rcases he with z | z
        · exact absurd (hbe.trans z) hb
        · rw [hbe]; exact z
      rw [q] at q'; cases q'
      obtain ⟨v, hv⟩ := heo
      exact ⟨v, by rw [hbe]; exact hv⟩
    · refine (ok b u q).stay (fun c v hc r => k c v ?_ r) (fun c r => by rw [upd_ne (nown c b r)]; exact r) fun c xs r => by rw [upd_ne (ntup c xs r)]; exact r
      rcases hc with rfl | hc
      · exact hbe
      · rintro rfl
        rcases he with z | z
        · exact nown c b hc z
        · rw [hc] at z; cases z; exact hb rfl
end
structure Un (fs ex : List Addr) (H H' : Hp) (h h' : Heap) : Prop where
  keep : ∀ b o, h.get? b = some o → H b = none → b ∉ fs → b ∉ ex → h'.get? b = some o
  slot : ∀ b o, h.get? b = some o → H b = none → b ∈ fs → b ∉ ex → ∃ sl, h'.get? b = some { o with slots := sl }
  free : ∀ b o, h.get? b = some o → H b = none → b ∉ ex → H' b = none
  there : ∀ b o, h.get? b = some o → b ∉ ex → ∃ o', h'.get? b = some o'
  tups : ∀ b xs, H b = some (.tup xs) → H' b = some (.tup xs)
  frzs : ∀ b o u, H b = some (.frz o u) → H' b = some (.frz o u)
  tbls : ∀ b ps, H b = some (.tbl ps) → ∃ more, H' b = some (.tbl (ps ++ more))
section
variable {fs fs' ex ex' : List Addr} {H H1 H2 : Hp} {h h1 h2 h' : Heap} {a x e : Addr} {o : HO}
theorem Un.any (u : Un fs ex H H1 h h1) {b : Addr} {ob : Obj} (q : h.get? b = some ob) (n : H b = none) (hx : b ∉ ex) : ∃ sl, h1.get? b = some { ob with slots := sl } := by
  by_cases hb : b ∈ fs
  · exact u.slot b ob q n hb hx
  · exact ⟨ob.slots, u.keep b ob q n hb hx⟩
theorem Un.kept (k : ∀ b u, h.get? b = some u → h'.get? b = some u) : Un fs ex H H h h' :=
  ⟨fun b ob q _ _ _ => k b ob q, fun b ob q _ _ _ => ⟨ob.slots, k b ob q⟩, fun _ _ _ n _ => n, fun b ob q _ => ⟨ob, k b ob q⟩, fun _ _ q => q, fun _ _ _ q => q, fun _ ps q => ⟨#[], by rw [q]; simp⟩⟩
theorem Un.refl : Un fs ex H H h h := Un.kept fun _ _ q => q
theorem Un.laid (k : ∀ b u, h.get? b = some u → h'.get? b = some u) (hp : h.objs.size ≤ a) (hn : H a = none) : Un fs ex H (upd H a o) h h' where
  keep := fun b u q _ _ _ => k b u q
  slot := fun b u q _ _ _ => ⟨u.slots, k b u q⟩
  free := fun b u q n _ => by rw [upd_ne (Nat.ne_of_lt (Nat.lt_of_lt_of_le (Heap.lt_size q) hp))]; exact n
  there := fun b u q _ => ⟨u, k b u q⟩
  tups := fun b xs q => by rw [upd_ne (ne_of_none q hn)]; exact q
  frzs := fun b u xs q => by rw [upd_ne (ne_of_none q hn)]; exact q
  tbls := fun b ps q => ⟨#[], by rw [upd_ne (ne_of_none q hn), q]; simp⟩
theorem Un.write (mu : Mut (H x)) (he : e = x ∨ H e = some (.own x)) (k : ∀ b u, b ≠ e → h.get? b = some u → h'.get? b = some u) (heo : ∃ u, h'.get? e = some u) : Un fs ex H (upd H x o) h h' := by
  have hx : ∀ b, H b = none → b ≠ x := fun b n z => by subst z; rw [n] at mu; exact mu
  have hb : ∀ b, H b = none → b ≠ e := fun b n z => by
    subst z
    rcases he with r | r
    · exact hx b n r
    · rw [n] at r; cases r
  have hm : ∀ b u, H b = some u → ¬ Mut (some u) → b ≠ x := fun b u q nm z => by subst z; rw [q] at mu; exact nm mu
  refine ⟨fun b u q n _ _ => k b u (hb b n) q, fun b u q n _ _ => ⟨u.slots, k b u (hb b n) q⟩, fun b u q n _ => by rw [upd_ne (hx b n)]; exact n, fun b u q _ => ?_,
    fun b xs q => by rw [upd_ne (hm b _ q fun z => z)]; exact q, fun b u xs q => by rw [upd_ne (hm b _ q fun z => z)]; exact q, fun b ps q => ⟨#[], by rw [upd_ne (hm b _ q fun z => z), q]; simp⟩⟩
  by_cases hbe : b = e
  · subst hbe; exact heo
  · exact ⟨u, k b u hbe q⟩
end
def trk (h : Heap) (H : Hp) : List Addr := (List.range h.objs.size).filter fun a => (H a).isSome
def hidT (h : Heap) (H : Hp) : Heap := PySem.W.hideAll h (trk h H)
theorem hidT_size (h : Heap) (H : Hp) : (hidT h H).objs.size = h.objs.size := PySem.W.hideAll_size _ _
theorem hidT_get {h : Heap} {H : Hp} {b : Addr} {o : Obj} (e : h.get? b = some o) (n : H b = none) : (hidT h H).get? b = some o :=
  PySem.W.hideAll_get _ e fun hm => by
    have q : (H b).isSome = true := (List.mem_filter.mp hm).2
    rw [n] at q; simp at q
theorem of_hidT {h : Heap} {H : Hp} {b : Addr} {o : Obj} (e : (hidT h H).get? b = some o) : h.get? b = some o ∧ H b = none := by
  have e' : h.get? b = some o := PySem.W.of_hideAll (trk h H) e
  refine ⟨e', ?_⟩
  cases q : H b with
  | none => rfl
  | some x =>
    have hm : b ∈ trk h H := List.mem_filter.mpr ⟨List.mem_range.mpr (Heap.lt_size e'), by simp [q]⟩
    have z : (hidT h H).get? b = none := PySem.W.hideAll_none (trk h H) hm
    rw [z] at e; cases e
end L2
namespace L2
open PySem PySem.Spec PyProof.Rows
structure Mod (K : PySem.W.Frag) (mg : Str → Option Value) (base : Heap) : Prop where
  kin : K.In base
  glob : base.Ns mainGlobals mg
  blt : ∃ mb, base.Ns builtinsNs mb ∧ ∀ x : Str, x ≠ "__name__" → mb x = bootBuiltins x
  nolimit : base.NoLimit
structure Cx where
  prog : Program
  w : World
  K : PySem.W.Frag
  mg : Str → Option Value
  base : Heap
  A : Around
  N : List Str
  s_0 : Shared
  H_0 : Hp
  env : Env
  outer : List Env
  stack : List Env
  ex : List Addr
  fn : Str → Bool
  calm : Bool
  pn : List (Addr × Obj)
  xe : Value → Shared → Prop
def frs (l : List Env) : List Addr := l.filterMap (·.frame)
abbrev Cx.fs (X : Cx) : List Addr := frs X.outer
def Vis (sc : Scope) (x : Str) : Prop := sc.names.lookup x = some .local ∨ sc.names.lookup x = some .cell ∨ sc.names.lookup x = some .free
def Loc (sc : Scope) (x : Str) : Prop := sc.names.lookup x = some .local ∨ sc.names.lookup x = some .cell
def Look (env : Env) (h : Heap) (m : Str → Option Value) (x : Str) (u : Value) : Prop :=
  (env.kindOf x = some .local ∧ m x = some u) ∨ ((env.kindOf x = some .cell ∨ env.kindOf x = some .free) ∧ ∃ c, env.cells.lookup x = some c ∧ h.IsCell c (some u))
structure Cx.Ok (X : Cx) : Prop where
  mod : Mod X.K X.mg X.base
  kind : X.env.scope.kind = .function
  glob : X.env.globals = mainGlobals
  blt : X.env.builtins = builtinsNs
  above : X.s_0.heap.objs.size ≤ X.env.locals
  inj : ∀ x y c, X.env.cells.lookup x = some c → X.env.cells.lookup y = some c → x = y
  has : ∀ x, (X.env.kindOf x = some .cell ∨ X.env.kindOf x = some .free) → ∃ c, X.env.cells.lookup x = some c
  cab : ∀ x c, X.fn x = true → X.env.cells.lookup x = some c → X.s_0.heap.objs.size ≤ c
  hd : X.calm = true → X.A.handled = none
  frames : X.A.frames = some X.stack
  stk : X.stack = X.outer ∨ (X.stack = X.env :: X.outer ∧ X.env.frame = some X.env.locals)
  exf : ∀ b ∈ X.ex, b ≠ X.env.locals ∧ ∀ x c, X.env.cells.lookup x = some c → c ≠ b
  bs : ∀ b o, X.base.get? b = some o → X.s_0.heap.get? b = some o ∧ X.H_0 b = none
  bsz : X.base.objs.size ≤ X.s_0.heap.objs.size
  noex : ∀ b o, X.base.get? b = some o → b ∉ X.ex
  exfs : ∀ b ∈ X.ex, b ∉ X.fs
  funs : X.s_0.heap.FunFrames X.base X.outer
  frf : ∀ b ∈ X.fs, X.H_0 b = none
structure Inv (X : Cx) (pins : List (Addr × Obj)) (σ : List (Option V)) (H : Hp) (s : Shared) : Prop where
  ok : X.Ok
  os : s.os = X.s_0.os
  bare : AllBare s.gens
  base : Un X.fs X.ex X.H_0 H X.s_0.heap s.heap
  loc : ∃ m, s.heap.Ns X.env.locals m ∧ ∀ (i : Nat) (x : Str) (v : V), X.N[i]? = some x → σ[i]? = some (some v) → Vis X.env.scope x → ∃ u, RelV v u ∧ Look X.env s.heap m x u
  cell : ∀ x c, X.env.cells.lookup x = some c → ∃ v, s.heap.IsCell c v
  free : H X.env.locals = none
  freeC : ∀ x c, X.env.cells.lookup x = some c → H c = none
  pin : ∀ p ∈ X.pn ++ pins, s.heap.get? p.1 = some p.2 ∧ H p.1 = none ∧ p.1 ≠ X.env.locals ∧ p.1 ∉ X.fs ∧ ∀ v, p.2.data ≠ .cell v
  hok : HOk X.prog X.w H s.heap
  len : σ.length = X.N.length
section
variable {X : Cx} {pins : List (Addr × Obj)} {σ : List (Option V)} {H H' : Hp} {s : Shared} {h' : Heap}
theorem Cx.Ok.nofr (ok : X.Ok) {b : Addr} {o : Obj} (e : X.base.get? b = some o) : b ∉ X.fs := fun hb => by
  have := (ok.funs.mem hb).1
  rw [e] at this; cases this
theorem Inv.bs (I : Inv X pins σ H s) : ∀ b o, X.base.get? b = some o → s.heap.get? b = some o ∧ H b = none := fun b o e =>
  ⟨I.base.keep b o (I.ok.bs b o e).1 (I.ok.bs b o e).2 (I.ok.nofr e) (I.ok.noex b o e), I.base.free b o (I.ok.bs b o e).1 (I.ok.bs b o e).2 (I.ok.noex b o e)⟩
theorem Inv.bk (I : Inv X pins σ H s) : ∀ b o, X.base.get? b = some o → s.heap.get? b = some o := fun b o e => (I.bs b o e).1
theorem Inv.mod (I : Inv X pins σ H s) : Mod X.K X.mg X.base := I.ok.mod
theorem Inv.kIn (I : Inv X pins σ H s) : X.K.In s.heap := I.ok.mod.kin.keeps I.bk
theorem Inv.fr (I : Inv X pins σ H s) : ∃ m, Fr X.base X.env.locals s.heap m :=
  let ⟨m, hn, _⟩ := I.loc
  ⟨m, hn, I.bk, Nat.le_trans I.ok.bsz I.ok.above⟩
theorem Inv.lt (I : Inv X pins σ H s) : X.env.locals < s.heap.objs.size := let ⟨_, hn, _⟩ := I.loc; hn.lt
theorem Inv.sz (I : Inv X pins σ H s) : X.s_0.heap.objs.size ≤ s.heap.objs.size := Nat.le_trans I.ok.above (Nat.le_of_lt I.lt)
theorem Inv.nofs (I : Inv X pins σ H s) {a : Addr} (h : s.heap.objs.size ≤ a) : a ∉ X.fs := fun hb => by
  obtain ⟨_, o, ho, _⟩ := I.ok.funs.mem hb
  exact absurd (Nat.lt_of_lt_of_le (Heap.lt_size ho) (Nat.le_trans I.sz h)) (Nat.lt_irrefl _)
theorem Inv.cne (I : Inv X pins σ H s) : ∀ x c, X.env.cells.lookup x = some c → c ≠ X.env.locals := fun x c e z => by
  obtain ⟨v, o, ho, hd⟩ := I.cell x c e
  obtain ⟨m, ⟨o', es, ep, ho', hd', _⟩, _⟩ := I.loc
  rw [z, ho'] at ho; cases ho; rw [hd'] at hd; cases hd
theorem Inv.funs (I : Inv X pins σ H s) : s.heap.FunFrames X.base X.outer := by
  have all : ∀ (l : List Env), (∀ b ∈ frs l, b ∈ X.fs) → X.s_0.heap.FunFrames X.base l → s.heap.FunFrames X.base l := by
    intro l
    induction l with
    | nil => intro _ _; trivial
    | cons env r ih =>
      intro hs hl
      obtain ⟨hk, ⟨L, o, hf, hn, ho, hd⟩, hr⟩ := hl
      have hL : L ∈ X.fs := hs L (by unfold frs; rw [List.filterMap_cons, hf]; exact List.mem_cons_self)
      obtain ⟨sl, e⟩ := I.base.slot L o ho (I.ok.frf L hL) hL fun z => I.ok.exfs L z hL
      exact ⟨hk, ⟨L, _, hf, hn, e, hd⟩, ih (fun b hb => hs b (by unfold frs; rw [List.filterMap_cons, hf]; exact List.mem_cons_of_mem _ hb)) hr⟩
  exact all X.outer (fun _ hb => hb) I.ok.funs
theorem Inv.stack (I : Inv X pins σ H s) : s.heap.FunFrames X.base X.stack := by
  rcases I.ok.stk with e | ⟨e, hf⟩
  · rw [e]; exact I.funs
  · rw [e]
    obtain ⟨m, hn, _⟩ := I.loc
    refine .cons (by rw [I.ok.kind]; decide) hf hn ?_ I.funs
    exact Heap.get?_none_of_le (Nat.le_trans I.ok.bsz I.ok.above)
theorem Inv.stkSub (I : Inv X pins σ H s) : ∀ b ∈ frs X.stack, b ∈ X.env.locals :: X.fs := fun b hb => by
  rcases I.ok.stk with e | ⟨e, hf⟩
  · rw [e] at hb; exact List.mem_cons_of_mem _ hb
  · rw [e] at hb
    unfold frs at hb
    rw [List.filterMap_cons, hf] at hb
    exact hb
theorem Inv.stkFree (I : Inv X pins σ H s) : ∀ b ∈ frs X.stack, H b = none := fun b hb => by
  rcases List.mem_cons.mp (I.stkSub b hb) with e | hb
  · rw [e]; exact I.free
  · obtain ⟨_, o, ho, _⟩ := I.ok.funs.mem hb
    exact I.base.free b o ho (I.ok.frf b hb) fun z => I.ok.exfs b z hb
theorem Inv.step {g' : Array GenState} {t' : Nat} {d' : Drawn} {ch : List Addr} (I : Inv X pins σ H s)
    (hch : ∀ b ∈ ch, (b ∈ X.ex ∨ X.s_0.heap.objs.size ≤ b) ∧ b ≠ X.env.locals ∧ (∀ x c, X.env.cells.lookup x = some c → c ≠ b) ∧ ∀ p ∈ X.pn ++ pins, p.1 ≠ b)
    (keep : ∀ b o, b ≠ X.env.locals → b ∉ X.fs → b ∉ ch → s.heap.get? b = some o → H b = none → h'.get? b = some o)
    (slot : ∀ b o, b ≠ X.env.locals → b ∈ X.fs → b ∉ ch → s.heap.get? b = some o → H b = none → ∃ sl, h'.get? b = some { o with slots := sl }) (free : ∀ b o, b ∉ ch → s.heap.get? b = some o → H b = none → H' b = none)
    (there : ∀ b o, b ∉ ch → s.heap.get? b = some o → ∃ o', h'.get? b = some o')
    (tups : ∀ b xs, H b = some (.tup xs) → H' b = some (.tup xs)) (frzs : ∀ b o u, H b = some (.frz o u) → H' b = some (.frz o u)) (tbls : ∀ b ps, H b = some (.tbl ps) → ∃ more, H' b = some (.tbl (ps ++ more)))
    (ns : ∀ m, s.heap.Ns X.env.locals m → h'.Ns X.env.locals m) (hok : HOk X.prog X.w H' h') (hg : AllBare g') :
    Inv X pins σ H' { s with heap := h', gens := g', drawn := d', toks := t' } := by
  have neL : ∀ b o, X.s_0.heap.get? b = some o → b ≠ X.env.locals := fun b o e => Nat.ne_of_lt (Nat.lt_of_lt_of_le (Heap.lt_size e) I.ok.above)
  have neC : ∀ b o, X.s_0.heap.get? b = some o → b ∉ X.ex → b ∉ ch := fun b o e hx hb => by
    rcases (hch b hb).1 with z | z
    · exact hx z
    · exact absurd (Nat.lt_of_lt_of_le (Heap.lt_size e) z) (Nat.lt_irrefl _)
  have cellK : ∀ x c, X.env.cells.lookup x = some c → ∀ v, s.heap.IsCell c v → h'.IsCell c v := fun x c e v ⟨o, ho, hd⟩ => by
    have nch : c ∉ ch := fun z => (hch c z).2.2.1 x c e rfl
    by_cases hc : c ∈ X.fs
    · obtain ⟨sl, q⟩ := slot c o (I.cne x c e) hc nch ho (I.freeC x c e)
      exact ⟨_, q, hd⟩
    · exact ⟨o, keep c o (I.cne x c e) hc nch ho (I.freeC x c e), hd⟩
  refine ⟨I.ok, I.os, hg, ⟨fun b o e n hb hx => ?_, fun b o e n hb hx => ?_, fun b o e n hx => ?_, fun b o e hx => ?_, fun b xs e => tups b xs (I.base.tups b xs e), fun b o xs e => frzs b o xs (I.base.frzs b o xs e), fun b ps e => ?_⟩, ?_, fun x c e => ?_, ?_, fun x c e => ?_, fun p hp => ?_, hok, I.len⟩
  · exact keep b o (neL b o e) hb (neC b o e hx) (I.base.keep b o e n hb hx) (I.base.free b o e n hx)
  · obtain ⟨sl, e1⟩ := I.base.slot b o e n hb hx
    obtain ⟨sl', e2⟩ := slot b _ (neL b o e) hb (neC b o e hx) e1 (I.base.free b o e n hx)
    exact ⟨sl', e2⟩
  · obtain ⟨o', e1⟩ := I.base.there b o e hx
    exact free b o' (neC b o e hx) e1 (I.base.free b o e n hx)
  · obtain ⟨o', e1⟩ := I.base.there b o e hx
    exact there b o' (neC b o e hx) e1
  · obtain ⟨m1, e1⟩ := I.base.tbls b ps e
    obtain ⟨m2, e2⟩ := tbls b _ e1
    exact ⟨m1 ++ m2, by rw [e2, Array.append_assoc]⟩
  · obtain ⟨m, hn, hl⟩ := I.loc
    refine ⟨m, ns m hn, fun i x v e1 e2 e3 => ?_⟩
    obtain ⟨u, r, l⟩ := hl i x v e1 e2 e3
    refine ⟨u, r, ?_⟩
    rcases l with l | ⟨k, c, e, z⟩
    · exact .inl l
    · exact .inr ⟨k, c, e, cellK x c e _ z⟩
  · obtain ⟨v, z⟩ := I.cell x c e
    exact ⟨v, cellK x c e v z⟩
  · obtain ⟨m, ⟨o, _, _, ho, _⟩, _⟩ := I.loc
    exact free _ o (fun z => (hch _ z).2.1 rfl) ho I.free
  · obtain ⟨v, o, ho, hd⟩ := I.cell x c e
    exact free c o (fun z => (hch c z).2.2.1 x c e rfl) ho (I.freeC x c e)
  · obtain ⟨e, n, ne, nf, d⟩ := I.pin p hp
    have nch : p.1 ∉ ch := fun z => (hch p.1 z).2.2.2 p hp rfl
    exact ⟨keep p.1 p.2 ne nf nch e n, free p.1 p.2 nch e n, ne, nf, d⟩
theorem Inv.un {t' : Nat} (I : Inv X pins σ H s) (u : Un X.fs [] H H' s.heap h') (hok : HOk X.prog X.w H' h') : Inv X pins σ H' { s with heap := h', toks := t' } := by
  obtain ⟨m, ⟨o, es, ep, ho, r⟩, _⟩ := id I.loc
  obtain ⟨sl, hL⟩ := u.any ho I.free (by simp)
  exact I.step (g' := s.gens) (d' := s.drawn) (ch := []) (fun _ z => nomatch z) (fun b o _ hb _ e n => u.keep b o e n hb (by simp)) (fun b o _ hb _ e n => u.slot b o e n hb (by simp)) (fun b o _ e n => u.free b o e n (by simp)) (fun b o _ e => u.there b o e (by simp)) u.tups u.frzs u.tbls (fun m' hm => by
    obtain ⟨o', es', ep', ho', r'⟩ := hm
    rw [ho] at ho'; cases ho'
    exact ⟨_, es', ep', hL, r'⟩) hok I.bare
theorem Inv.call {g' : Array GenState} {t' : Nat} {d' : Drawn} {ch : List Addr} (I : Inv X pins σ H s) (u : Un (frs X.stack) ch H H' s.heap h') (hok : HOk X.prog X.w H' h') (hg : AllBare g')
    (hch : ∀ b ∈ ch, (b ∈ X.ex ∨ X.s_0.heap.objs.size ≤ b) ∧ b ≠ X.env.locals ∧ (∀ x c, X.env.cells.lookup x = some c → c ≠ b) ∧ ∀ p ∈ X.pn ++ pins, p.1 ≠ b) :
    Inv X pins σ H' { s with heap := h', gens := g', drawn := d', toks := t' } := by
  obtain ⟨m, ⟨o, es, ep, ho, r⟩, _⟩ := id I.loc
  obtain ⟨sl, hL⟩ := u.any ho I.free fun z => (hch _ z).2.1 rfl
  exact I.step (ch := ch) hch (fun b o hL hb hc e n => u.keep b o e n (fun z => (List.mem_cons.mp (I.stkSub b z)).elim hL hb) hc) (fun b o _ _ hc e n => u.any e n hc) (fun b o hc e n => u.free b o e n hc) (fun b o hc e => u.there b o e hc) u.tups u.frzs u.tbls (fun m' hm => by
    obtain ⟨o', es', ep', ho', r'⟩ := hm
    rw [ho] at ho'; cases ho'
    exact ⟨_, es', ep', hL, r'⟩) hok hg
theorem Inv.turned {t' : Nat} {it : Addr} (I : Inv X pins σ H s) (k : ∀ b o, b ≠ it → s.heap.get? b = some o → h'.get? b = some o) (hn : H it = none) (hL : it ≠ X.env.locals)
    (h1 : it ∈ X.ex ∨ X.s_0.heap.objs.size ≤ it) (h2 : ∀ x c, X.env.cells.lookup x = some c → c ≠ it) (h3 : ∀ p ∈ X.pn ++ pins, p.1 ≠ it) : Inv X pins σ H { s with heap := h', toks := t' } := by
  have nit : ∀ b u, H b = some u → b ≠ it := fun b u e z => by rw [z, hn] at e; cases e
  refine I.step (g' := s.gens) (d' := s.drawn) (ch := [it]) (fun b hb => ?_) (fun b o _ _ hc e _ => k b o (fun z => hc (by simp [z])) e) (fun b o _ _ hc e _ => ⟨o.slots, k b o (fun z => hc (by simp [z])) e⟩) (fun _ _ _ _ n => n)
    (fun b o hc e => ⟨o, k b o (fun z => hc (by simp [z])) e⟩) (fun _ _ e => e) (fun _ _ _ e => e) (fun b ps e => ⟨#[], by rw [e]; simp⟩) (fun m hm => ?_) (fun b u e => ?_) I.bare
  · have e : b = it := by simpa using hb
    subst e
    exact ⟨h1, hL, h2, h3⟩
  · obtain ⟨o, es, ep, ho, r⟩ := hm
    exact ⟨o, es, ep, k _ o (Ne.symm hL) ho, r⟩
  · refine (I.hok b u e).stay (fun c v hc q => k c v ?_ q) (fun _ q => q) fun _ _ q => q
    rcases hc with z | z
    · rw [z]; exact nit b u e
    · exact nit c _ z
theorem Inv.tok (I : Inv X pins σ H s) (t : Nat) : Inv X pins σ H { s with toks := t } := I.un (h' := s.heap) (t' := t) Un.refl I.hok
theorem Inv.kept {t' : Nat} (I : Inv X pins σ H s) (k : ∀ b u, s.heap.get? b = some u → h'.get? b = some u) : Inv X pins σ H { s with heap := h', toks := t' } := I.un (Un.kept k) (I.hok.kept k)
theorem Inv.laid {a : Addr} {o : HO} {t' : Nat} (I : Inv X pins σ H s) (k : ∀ b u, s.heap.get? b = some u → h'.get? b = some u) (hp : s.heap.objs.size ≤ a) (new : ObjOk X.prog X.w (upd H a o) h' a o) :
    Inv X pins σ (upd H a o) { s with heap := h', toks := t' } := I.un (Un.laid k hp (I.hok.fresh hp)) (I.hok.laid k hp new)
theorem Inv.write {x e : Addr} {o : HO} {t' : Nat} (I : Inv X pins σ H s) (mu : Mut (H x)) (he : e = x ∨ H e = some (.own x)) (k : ∀ b u, b ≠ e → s.heap.get? b = some u → h'.get? b = some u) (heo : ∃ u, h'.get? e = some u)
    (new : ObjOk X.prog X.w (upd H x o) h' x o) : Inv X pins σ (upd H x o) { s with heap := h', toks := t' } := I.un (Un.write mu he k heo) (I.hok.write mu he k heo new)
theorem Inv.weak {σ' : List (Option V)} (I : Inv X pins σ H s) (hl : σ'.length = σ.length) (w : ∀ (i : Nat) v, σ'[i]? = some (some v) → σ[i]? = some (some v)) : Inv X pins σ' H s :=
  ⟨I.ok, I.os, I.bare, I.base, let ⟨m, hn, hl'⟩ := I.loc; ⟨m, hn, fun i x v e1 e2 e3 => hl' i x v e1 (w i v e2) e3⟩, I.cell, I.free, I.freeC, I.pin, I.hok, hl.trans I.len⟩
theorem Inv.pins_of {pins' : List (Addr × Obj)} (I : Inv X pins σ H s) (h : ∀ p ∈ pins', s.heap.get? p.1 = some p.2 ∧ H p.1 = none ∧ p.1 ≠ X.env.locals ∧ p.1 ∉ X.fs ∧ ∀ v, p.2.data ≠ .cell v) : Inv X pins' σ H s :=
  ⟨I.ok, I.os, I.bare, I.base, I.loc, I.cell, I.free, I.freeC, fun p hp => (List.mem_append.mp hp).elim (fun z => I.pin p (List.mem_append_left _ z)) (h p), I.hok, I.len⟩
theorem nodup_ix {N : List Str} (hN : N.Nodup) {i j : Nat} {x : Str} (a : N[i]? = some x) (b : N[j]? = some x) : i = j := by
  obtain ⟨h1, e1⟩ := List.getElem?_eq_some_iff.mp a
  obtain ⟨h2, e2⟩ := List.getElem?_eq_some_iff.mp b
  exact (List.getElem_inj hN).mp (e1.trans e2.symm)
theorem store_ok2 {M : Model} {A : Around} {E : Value → Shared → Prop} {i : Nat} {x : Str} {v : V} {u : Value} {Q : Unit → Shared → Prop} (I : Inv X pins σ H s) (hN : X.N.Nodup) (hi : X.N[i]? = some x) (hx : Loc X.env.scope x) (r : RelV v u)
    (h : ∀ s', Inv X pins (σ.set i (some v)) H s' → (∃ a, Heap.SameBut a s.heap s'.heap ∧ (a = X.env.locals ∨ X.env.cells.lookup x = some a)) → Q () s') (hf : X.fn x = true ∨ X.env.scope.names.lookup x = some .local := by first | exact .inl rfl | exact .inr rfl | assumption) : wpAny M A (storeName X.env x u) Q E s := by
  obtain ⟨m, hn, hl⟩ := id I.loc
  have hcls : (X.env.scope.kind == .class || (X.env.scope.kind == .module && X.env.locals != X.env.globals)) = false := by rw [I.ok.kind]; rfl
  have hiσ : i < σ.length := by rw [I.len]; exact (List.getElem?_eq_some_iff.mp hi).1
  have cne := I.cne
  have tracked : ∀ {a : Addr} {h' : Heap}, (∃ o, s.heap.get? a = some o ∧ H a = none) → Heap.SameBut a s.heap h' → HOk X.prog X.w H h' := fun {a h'} ha hs b ob e => by
    obtain ⟨_, _, hfree⟩ := ha
    refine (I.hok b ob e).stay (fun c w' hc q => (hs.2 c ?_).trans q) (fun _ q => q) fun _ _ q => q
    rintro rfl
    rcases hc with rfl | hc
    · rw [hfree] at e; cases e
    · rw [hfree] at hc; cases hc
  rcases hx with hk | hk
  · refine wpAny_storeName_local hk hn (fun h' hn' hs => ?_) hcls
    obtain ⟨oL, _, _, hoL, _⟩ := id hn
    refine h _ ⟨I.ok, I.os, I.bare, ⟨fun b o e n hb hx => ?_, fun b o e n hb hx => ?_, I.base.free, fun b o e hx => ?_, I.base.tups, I.base.frzs, I.base.tbls⟩, ⟨_, hn', fun j y v' e1 e2 e3 => ?_⟩, fun y c e => ?_, I.free, I.freeC, fun p hp => ?_, tracked ⟨oL, hoL, I.free⟩ hs, by simpa using I.len⟩ ⟨_, hs, .inl rfl⟩
    · exact (hs.2 b (Nat.ne_of_lt (Nat.lt_of_lt_of_le (Heap.lt_size e) I.ok.above))).trans (I.base.keep b o e n hb hx)
    · obtain ⟨sl, e1⟩ := I.base.slot b o e n hb hx
      exact ⟨sl, (hs.2 b (Nat.ne_of_lt (Nat.lt_of_lt_of_le (Heap.lt_size e) I.ok.above))).trans e1⟩
    · obtain ⟨o', e1⟩ := I.base.there b o e hx
      exact ⟨o', (hs.2 b (Nat.ne_of_lt (Nat.lt_of_lt_of_le (Heap.lt_size e) I.ok.above))).trans e1⟩
    · by_cases hj : j = i
      · subst hj
        rw [hi] at e1; cases e1
        rw [List.getElem?_set_self hiσ] at e2
        cases e2
        exact ⟨u, r, .inl ⟨hk, by simp⟩⟩
      · rw [List.getElem?_set_ne (Ne.symm hj)] at e2
        obtain ⟨u', r', q⟩ := hl j y v' e1 e2 e3
        refine ⟨u', r', ?_⟩
        rcases q with ⟨k, e⟩ | ⟨k, c, e, z⟩
        · refine .inl ⟨k, ?_⟩
          have : y ≠ x := fun e => hj (nodup_ix hN e1 (e ▸ hi))
          simp [this, e]
        · exact .inr ⟨k, c, e, z.sameBut hs (cne y c e)⟩
    · obtain ⟨w', z⟩ := I.cell y c e
      exact ⟨w', z.sameBut hs (cne y c e)⟩
    · obtain ⟨e, n, ne, nf, d⟩ := I.pin p hp
      exact ⟨(hs.2 p.1 ne).trans e, n, ne, nf, d⟩
  · have hfn : X.fn x = true := by
      rcases hf with z | z
      · exact z
      · rw [z] at hk; cases hk
    obtain ⟨c, hc⟩ := I.ok.has x (.inl hk)
    obtain ⟨w', z⟩ := I.cell x c hc
    refine wpAny_storeName_cell I.ok.kind hk hc z (fun h' hc' hs => ?_)
    obtain ⟨oc, hoc, hocd⟩ := id z
    refine h { s with heap := h' } ⟨I.ok, I.os, I.bare, ⟨fun b o e n hb hx => ?_, fun b o e n hb hx => ?_, I.base.free, fun b o e hx => ?_, I.base.tups, I.base.frzs, I.base.tbls⟩, ⟨m, hn.sameBut hs (Ne.symm (cne x c hc)), fun j y v' e1 e2 e3 => ?_⟩, fun y c' e => ?_, I.free, I.freeC, fun p hp => ?_, tracked ⟨oc, hoc, I.freeC x c hc⟩ hs, by simpa using I.len⟩ ⟨c, hs, .inr hc⟩
    · exact (hs.2 b (Nat.ne_of_lt (Nat.lt_of_lt_of_le (Heap.lt_size e) (I.ok.cab x c hfn hc)))).trans (I.base.keep b o e n hb hx)
    · obtain ⟨sl, e1⟩ := I.base.slot b o e n hb hx
      exact ⟨sl, (hs.2 b (Nat.ne_of_lt (Nat.lt_of_lt_of_le (Heap.lt_size e) (I.ok.cab x c hfn hc)))).trans e1⟩
    · obtain ⟨o', e1⟩ := I.base.there b o e hx
      exact ⟨o', (hs.2 b (Nat.ne_of_lt (Nat.lt_of_lt_of_le (Heap.lt_size e) (I.ok.cab x c hfn hc)))).trans e1⟩
    · by_cases hj : j = i
      · subst hj
        rw [hi] at e1; cases e1
        rw [List.getElem?_set_self hiσ] at e2
        cases e2
        exact ⟨u, r, .inr ⟨.inl hk, c, hc, hc'⟩⟩
      · rw [List.getElem?_set_ne (Ne.symm hj)] at e2
        obtain ⟨u', r', q⟩ := hl j y v' e1 e2 e3
        refine ⟨u', r', ?_⟩
        rcases q with q | ⟨k, c', e, z'⟩
        · exact .inl q
        · refine .inr ⟨k, c', e, z'.sameBut hs ?_⟩
          rintro rfl
          exact hj (nodup_ix hN e1 (I.ok.inj _ _ _ e hc ▸ hi))
    · by_cases hcc : c' = c
      · subst hcc; exact ⟨_, hc'⟩
      · obtain ⟨w2, z2⟩ := I.cell y c' e
        exact ⟨w2, z2.sameBut hs hcc⟩
    · obtain ⟨e, n, ne, nf, d⟩ := I.pin p hp
      refine ⟨(hs.2 p.1 ?_).trans e, n, ne, nf, d⟩
      intro q
      rw [q, hoc] at e
      have q' : oc = p.2 := Option.some.inj e
      exact d w' (by rw [← q']; exact hocd)
theorem store_ok {M : Model} {A : Around} {E : Value → Shared → Prop} {i : Nat} {x : Str} {v : V} {u : Value} {Q : Unit → Shared → Prop} (I : Inv X pins σ H s) (hN : X.N.Nodup) (hi : X.N[i]? = some x) (hx : Loc X.env.scope x) (r : RelV v u)
    (h : ∀ s', Inv X pins (σ.set i (some v)) H s' → Q () s') (hf : X.fn x = true ∨ X.env.scope.names.lookup x = some .local := by first | exact .inl rfl | exact .inr rfl | assumption) : wpAny M A (storeName X.env x u) Q E s :=
  store_ok2 I hN hi hx r (fun s' I' _ => h s' I') hf
theorem Inv.call' {s' : Shared} {ch : List Addr} (I : Inv X pins σ H s) (ho : s'.os = s.os) (u : Un (frs X.stack) ch H H' s.heap s'.heap) (hok : HOk X.prog X.w H' s'.heap) (hg : AllBare s'.gens)
    (hch : ∀ b ∈ ch, (b ∈ X.ex ∨ X.s_0.heap.objs.size ≤ b) ∧ b ≠ X.env.locals ∧ (∀ x c, X.env.cells.lookup x = some c → c ≠ b) ∧ ∀ p ∈ X.pn ++ pins, p.1 ≠ b) : Inv X pins σ H' s' := by
  obtain ⟨h', g', d', t', o'⟩ := s'
  have e : o' = s.os := ho
  subst e
  exact I.call (g' := g') (t' := t') (d' := d') u hok hg hch
end
abbrev XK := Value → Option Addr → Hp → Prop
abbrev St := List (Option V)
abbrev VK := V → Hp → Prop
abbrev TE := St → Hp → VK → Prop
abbrev TT := St → Hp → (Bool → Hp → Prop) → Prop
abbrev TA := St → Hp → (List V → Hp → Prop) → Prop
structure Ends where
  nx : St → Hp → Prop
  rt : VK
  bk : St → Hp → Prop := fun _ _ => False
  ct : St → Hp → Prop := fun _ _ => False
abbrev TS := Ends → St → Hp → Prop
def EP (X : Cx) (pins : List (Addr × Obj)) (σ : St) (Q : VK) (u : Value) (s' : Shared) : Prop := ∃ v H', Inv X pins σ H' s' ∧ RelV v u ∧ Q v H'
def TP (X : Cx) (pins : List (Addr × Obj)) (σ : St) (Q : Bool → Hp → Prop) (b : Bool) (s' : Shared) : Prop := ∃ H', Inv X pins σ H' s' ∧ Q b H'
def AP (X : Cx) (pins : List (Addr × Obj)) (σ : St) (Q : List V → Hp → Prop) (us : List Value) (s' : Shared) : Prop := ∃ vs H', Inv X pins σ H' s' ∧ Vals vs us ∧ Q vs H'
def SP (X : Cx) (pins : List (Addr × Obj)) (D : Ends) (f : Flow) (s' : Shared) : Prop :=
  match f with
  | .next => ∃ σ' H', Inv X pins σ' H' s' ∧ D.nx σ' H'
  | .brk => ∃ σ' H', Inv X pins σ' H' s' ∧ D.bk σ' H'
  | .cont => ∃ σ' H', Inv X pins σ' H' s' ∧ D.ct σ' H'
  | .ret u => ∃ v σ' H', Inv X pins σ' H' s' ∧ RelV v u ∧ D.rt v H'
def PE (X : Cx) (e : Expr) (t : TE) : Prop :=
  ∀ (pins : List (Addr × Obj)) (s : Shared) (σ : St) (H : Hp) (Q : VK), Inv X pins σ H s → t σ H Q → wpAny (model X.prog X.w) X.A (eval e X.env) (EP X pins σ Q) X.xe s
def PT (X : Cx) (e : Expr) (t : TT) : Prop :=
  ∀ (pins : List (Addr × Obj)) (s : Shared) (σ : St) (H : Hp) (Q : Bool → Hp → Prop), Inv X pins σ H s → t σ H Q → wpAny (model X.prog X.w) X.A (isTrue e X.env (eval e X.env)) (TP X pins σ Q) X.xe s
def PW (X : Cx) (e : Expr) (t : TT) : Prop :=
  ∀ (whole : Sem Value) (pins : List (Addr × Obj)) (s : Shared) (σ : St) (H : Hp) (Q : Bool → Hp → Prop), Inv X pins σ H s → t σ H Q → wpAny (model X.prog X.w) X.A (isTrue e X.env whole) (TP X pins σ Q) X.xe s
theorem PW.pt {X : Cx} {e : Expr} {t : TT} (h : PW X e t) : PT X e t := h _
def PA (X : Cx) (es : List Expr) (t : TA) : Prop :=
  ∀ (pos : Pos) (pins : List (Addr × Obj)) (s : Shared) (σ : St) (H : Hp) (Q : List V → Hp → Prop), Inv X pins σ H s → t σ H Q → wpAny (model X.prog X.w) X.A (spliced (backTo pos (starEach es X.env))) (AP X pins σ Q) X.xe s
def PS (X : Cx) (st : Stmt) (t : TS) : Prop :=
  ∀ (pins : List (Addr × Obj)) (s : Shared) (σ : St) (H : Hp) (D : Ends), Inv X pins σ H s → t D σ H → wpAny (model X.prog X.w) X.A (exec st X.env) (SP X pins D) X.xe s
def PSs (X : Cx) (st : List Stmt) (t : TS) : Prop :=
  ∀ (pins : List (Addr × Obj)) (s : Shared) (σ : St) (H : Hp) (D : Ends), Inv X pins σ H s → t D σ H → wpAny (model X.prog X.w) X.A (execs st X.env) (SP X pins D) X.xe s
theorem thn {α : Type} {t : Sem α} {Q Q' : α → Shared → Prop} {M : Model} {A : Around} {E : Value → Shared → Prop} {s : Shared} (h : wpAny M A t Q E s) (hQ : ∀ a s, Q a s → Q' a s) : wpAny M A t Q' E s := wpAny_mono h hQ fun _ _ x => x
end L2
namespace L2
open PySem PySem.Spec PyProof.Rows
section
variable {X : Cx}
theorem bin {a b : Expr} {ta tb : TE} (ha : PE X a ta) (hb : PE X b tb) {pins : List (Addr × Obj)} {s : Shared} {σ : St} {H : Hp} {R : V → V → Hp → Prop} (I : Inv X pins σ H s) (h : ta σ H fun x H1 => tb σ H1 fun y H2 => R x y H2)
    {α : Type} {Q : α → Shared → Prop} {f : Value → Value → Sem α}
    (hf : ∀ v u s2 x y H2, Inv X pins σ H2 s2 → RelV x v → RelV y u → R x y H2 → wpAny (model X.prog X.w) X.A (f v u) Q X.xe s2) :
    wpAny (model X.prog X.w) X.A (eval a X.env) (fun v s₁ => wpAny (model X.prog X.w) X.A (eval b X.env) (fun u s₂ => wpAny (model X.prog X.w) X.A (f v u) Q X.xe s₂) X.xe s₁) X.xe s := by
  refine thn (ha pins s σ H _ I h) fun v s1 ⟨x, H1, I1, r1, q1⟩ => ?_
  refine thn (hb pins s1 σ H1 _ I1 q1) fun u s2 ⟨y, H2, I2, r2, q2⟩ => ?_
  exact hf v u s2 x y H2 I2 r1 r2 q2
def tVar (i : Nat) : TE := fun σ H Q => ∃ v, σ[i]? = some (some v) ∧ Q v H
def tC (v : V) : TE := fun _ H Q => Q v H
theorem pe_var {i : Nat} {x : Str} {pos : Pos} (hN : X.N[i]? = some x) (hv : Vis X.env.scope x) (hd : (x == ("__debug__" : Str)) = false := by decide) (hcd : (x == ("__classdict__" : Str)) = false := by decide) : PE X (.Name x pos) (tVar i) := by
  intro pins s σ H Q I h
  obtain ⟨v, e, h⟩ := h
  obtain ⟨m, hn, hl⟩ := I.loc
  obtain ⟨u, r, l⟩ := hl i x v hN e hv
  have fin : EP X pins σ Q u s := ⟨v, H, I, r, h⟩
  rcases l with ⟨hk, hm⟩ | ⟨hk, c, hc, hcell⟩
  · exact wpAny_Name (wpAny_loadName_local I.ok.kind hk hn hm fin) hd
  · rcases hk with hk | hk
    · exact wpAny_Name (wpAny_loadName_cell I.ok.kind hk hc hcell fin) hd
    · exact wpAny_Name (wpAny_loadName_free I.ok.kind hk hc hcell fin hcd) hd
theorem pe_int {i j pos} : PE X (.Constant (.int i) j pos) (tC (.int i)) := fun _ _ _ H _ I h => wpAny_Constant_int ⟨.int i, H, I.tok _, ⟨_, rfl⟩, h⟩
theorem pe_bl {b j pos} : PE X (.Constant (.bool b) j pos) (tC (.bl b)) := fun _ _ _ H _ I h => Constant_bool ⟨.bl b, H, I, rfl, h⟩
theorem pe_non {j pos} : PE X (.Constant .none j pos) (tC .non) := fun _ _ _ H _ I h => Constant_none ⟨.non, H, I, rfl, h⟩
def Gl (X : Cx) (x : Str) : Prop := X.env.kindOf x = some .globalImplicit
theorem ld_glob {E : Value → Shared → Prop} {pins : List (Addr × Obj)} {s : Shared} {σ : St} {H : Hp} {x : Str} {u : Value} {pos : Pos} {Q : Value → Shared → Prop} (I : Inv X pins σ H s) (hg : Gl X x) (hm : X.mg x = some u) (h : Q u s)
    (hd : (x == ("__debug__" : Str)) = false := by decide) : wpAny (model X.prog X.w) X.A (eval (.Name x pos) X.env) Q E s :=
  Calls.Name_function_global I.ok.kind hg (Calls.loadGlobal_global (by rw [I.ok.glob]; exact I.mod.glob.keeps I.bk) hm h) hd
theorem ld_blt {E : Value → Shared → Prop} {pins : List (Addr × Obj)} {s : Shared} {σ : St} {H : Hp} {x : Str} {u : Value} {pos : Pos} {Q : Value → Shared → Prop} (I : Inv X pins σ H s) (hg : Gl X x) (hm : X.mg x = none) (hv : bootBuiltins x = some u) (h : Q u s)
    (hn : x ≠ "__name__" := by decide) (hd : (x == ("__debug__" : Str)) = false := by decide) : wpAny (model X.prog X.w) X.A (eval (.Name x pos) X.env) Q E s := by
  obtain ⟨mb, h1, h2⟩ := I.mod.blt
  exact Calls.Name_function_global I.ok.kind hg (Calls.loadGlobal_builtin (by rw [I.ok.glob]; exact I.mod.glob.keeps I.bk) hm (by rw [I.ok.blt]; exact h1.keeps I.bk) ((h2 x hn).trans hv) h) hd
theorem pe_glob {x : Str} {v : V} {u : Value} {pos : Pos} (hg : Gl X x) (hm : X.mg x = some u) (r : RelV v u) (hd : (x == ("__debug__" : Str)) = false := by decide) : PE X (.Name x pos) (tC v) :=
  fun _ _ _ H _ I h => ld_glob I hg hm ⟨v, H, I, r, h⟩ hd
variable {a b : Expr} {ta tb : TE} {pos : Pos}
def PC (X : Cx) (op : CmpOp) (a b : Expr) (t : TE) : Prop :=
  ∀ (pins : List (Addr × Obj)) (s : Shared) (σ : St) (H : Hp) (Q : VK), Inv X pins σ H s → t σ H Q →
    wpAny (model X.prog X.w) X.A (eval a X.env) (fun v s₁ => wpAny (model X.prog X.w) X.A (eval b X.env) (fun u s₂ => wpAny (model X.prog X.w) X.A (compareOp op v u) (EP X pins σ Q) X.xe s₂) X.xe s₁) X.xe s
theorem nobehind (b : Expr) {op : CmpOp} (h : op ≠ .In) (h2 : op ≠ .NotIn) : behindInMarks op b = false := by
  have e1 : (op == CmpOp.In) = false := by cases op <;> first | rfl | exact absurd rfl h
  have e2 : (op == CmpOp.NotIn) = false := by cases op <;> first | rfl | exact absurd rfl h2
  cases b <;> simp [behindInMarks, e1, e2]
def tIsN (ta : TE) : TE := fun σ H Q => ta σ H fun x H1 => Q (.bl (decide (x = .non))) H1
def tNotN (ta : TE) : TE := fun σ H Q => ta σ H fun x H1 => Q (.bl (!decide (x = .non))) H1
theorem RelV.none_iff {x : V} {v : Value} (r : RelV x v) : (v == Value.none) = decide (x = .non) := by
  cases x with
  | non => cases r; rfl
  | bl _ => cases r; rfl
  | int _ => obtain ⟨t, rfl⟩ := r; rfl
  | str _ => obtain ⟨t, rfl⟩ := r; rfl
  | byt _ => obtain ⟨t, rfl⟩ := r; rfl
  | flt _ => obtain ⟨t, rfl⟩ := r; rfl
  | ref _ => cases r; rfl
  | ty _ => cases r; rfl
theorem pc_isN {j pos'} (ha : PE X a ta) : PC X .Is a (.Constant .none j pos') (tIsN ta) := by
  intro pins s σ H Q I h
  refine thn (ha pins s σ H _ I h) fun v s1 ⟨x, H1, I1, r1, q1⟩ => ?_
  exact Constant_none (is_none_gen ⟨.bl _, H1, I1, by rw [r1.none_iff]; rfl, q1⟩)
theorem pc_notN {j pos'} (ha : PE X a ta) : PC X .IsNot a (.Constant .none j pos') (tNotN ta) := by
  intro pins s σ H Q I h
  refine thn (ha pins s σ H _ I h) fun v s1 ⟨x, H1, I1, r1, q1⟩ => ?_
  exact Constant_none (isnot_none_gen ⟨.bl _, H1, I1, by rw [r1.none_iff]; rfl, q1⟩)
def tB (t : TE) : TT := fun σ H Q => t σ H fun x H1 => ∃ c, x = .bl c ∧ Q c H1
theorem pe_cmp {op : CmpOp} {t : TE} (h : PC X op a b t) (h1 : behindInMarks op b = false := by first | exact nobehind _ (by decide) (by decide) | rfl) : PE X (.Compare a [op] [b] pos) t := fun pins s σ H Q I hw => wpAny_Compare1 (h pins s σ H Q I hw) h1
theorem pt_cmp {op : CmpOp} {t : TE} (h : PC X op a b t) (h1 : behindInMarks op b = false := by first | exact nobehind _ (by decide) (by decide) | rfl) : PT X (.Compare a [op] [b] pos) (tB t) := by
  intro pins s σ H Q I hw
  refine wpAny_isTrue_Compare1 (thn (h pins s σ H _ I hw) fun v s1 h1 => thn h1 fun u s2 h2 => thn h2 fun c s3 ⟨x, H1, I1, r1, q1⟩ => ?_) h1
  obtain ⟨d, rfl, q⟩ := q1
  cases r1
  exact wpAny_truthy_bool ⟨H1, I1, q⟩
theorem pt_val {e : Expr} {t : TE} (h : PE X e t) (he : ∀ whole, isTrue e X.env whole = (do let v ← whole; standAt e.pos; holding [v] (truthy v)) := by intro _; rfl) : PT X e (tB t) := by
  intro pins s σ H Q I hw
  refine isTrue_plain (thn (h pins s σ H _ I hw) fun v s1 ⟨x, H1, I1, r1, q1⟩ => ?_) (he _)
  obtain ⟨d, rfl, q⟩ := q1
  cases r1
  exact wpAny_truthy_bool ⟨H1, I1, q⟩
variable {tA tB' : TT} {rest : List Expr}
def tAnd (t u : TT) : TT := fun σ H Q => t σ H fun c H1 => if c = true then u σ H1 Q else Q false H1
def tOr (t u : TT) : TT := fun σ H Q => t σ H fun c H1 => if c = true then Q true H1 else u σ H1 Q
def tNot (t : TT) : TT := fun σ H Q => t σ H fun c H1 => Q (!c) H1
theorem pw_and1 (ha : PT X a tA) : PW X (.BoolOp .And [a] pos) tA := by
  intro wh pins s σ H Q I h
  refine isTrue_and (thn (ha pins s σ H Q I h) fun c s1 e => ?_)
  cases c with
  | true => exact isTrue_and_nil e
  | false => exact e
theorem pw_or1 (ha : PT X a tA) : PW X (.BoolOp .Or [a] pos) tA := by
  intro wh pins s σ H Q I h
  refine isTrue_or (thn (ha pins s σ H Q I h) fun c s1 e => ?_)
  cases c with
  | false => exact isTrue_or_nil e
  | true => exact e
theorem pw_and (ha : PT X a tA) (hb : PW X (.BoolOp .And (b :: rest) pos) tB') : PW X (.BoolOp .And (a :: b :: rest) pos) (tAnd tA tB') := by
  intro wh pins s σ H Q I h
  refine isTrue_and (thn (ha pins s σ H _ I h) fun c s1 ⟨H1, I1, q1⟩ => ?_)
  cases c with
  | true => exact hb wh pins s1 σ H1 Q I1 q1
  | false => exact ⟨H1, I1, q1⟩
theorem pw_or (ha : PT X a tA) (hb : PW X (.BoolOp .Or (b :: rest) pos) tB') : PW X (.BoolOp .Or (a :: b :: rest) pos) (tOr tA tB') := by
  intro wh pins s σ H Q I h
  refine isTrue_or (thn (ha pins s σ H _ I h) fun c s1 ⟨H1, I1, q1⟩ => ?_)
  cases c with
  | true => exact ⟨H1, I1, q1⟩
  | false => exact hb wh pins s1 σ H1 Q I1 q1
theorem pt_not (ha : PT X a tA) : PT X (.UnaryOp .Not a pos) (tNot tA) := by
  intro pins s σ H Q I h
  exact isTrue_not (ha pins s σ H (fun c H1 => Q (!c) H1) I h)
def tAndV (ta tb : TE) : TE := fun σ H Q => ta σ H fun x H1 => ∃ c, x = .bl c ∧ if c = true then tb σ H1 Q else Q (.bl false) H1
def tOrV (ta tb : TE) : TE := fun σ H Q => ta σ H fun x H1 => ∃ c, x = .bl c ∧ if c = true then Q (.bl true) H1 else tb σ H1 Q
theorem pe_one {op} {t : TE} (h : PE X a t) : PE X (.BoolOp op [a] pos) t := fun pins s σ H Q I hw => BoolOp_one (h pins s σ H Q I hw)
theorem pe_and (ha : PE X a ta) (hb : PE X (.BoolOp .And (b :: rest) pos) tb) : PE X (.BoolOp .And (a :: b :: rest) pos) (tAndV ta tb) := by
  intro pins s σ H Q I h
  refine BoolOp_and (thn (ha pins s σ H _ I h) fun v s1 ⟨x, H1, I1, r1, q1⟩ => ?_)
  obtain ⟨c, rfl, q1⟩ := q1
  cases r1
  refine wpAny_truthy_bool ?_
  cases c with
  | true => exact hb pins s1 σ H1 Q I1 q1
  | false => exact ⟨.bl false, H1, I1, rfl, q1⟩
theorem pe_or (ha : PE X a ta) (hb : PE X (.BoolOp .Or (b :: rest) pos) tb) : PE X (.BoolOp .Or (a :: b :: rest) pos) (tOrV ta tb) := by
  intro pins s σ H Q I h
  refine BoolOp_or (thn (ha pins s σ H _ I h) fun v s1 ⟨x, H1, I1, r1, q1⟩ => ?_)
  obtain ⟨c, rfl, q1⟩ := q1
  cases r1
  refine wpAny_truthy_bool ?_
  cases c with
  | false => exact hb pins s1 σ H1 Q I1 q1
  | true => exact ⟨.bl true, H1, I1, rfl, q1⟩
def tIf (t : TT) (ta tb : TE) : TE := fun σ H Q => t σ H fun c H1 => if c = true then ta σ H1 Q else tb σ H1 Q
theorem pe_ifExp {c : Expr} (hc : PT X c tA) (ha : PE X a ta) (hb : PE X b tb) : PE X (.IfExp c a b pos) (tIf tA ta tb) := by
  intro pins s σ H Q I h
  refine wpAny_IfExp (thn (hc pins s σ H _ I h) fun d s1 ⟨H1, I1, q1⟩ => ?_)
  cases d with
  | true => exact ha pins s1 σ H1 Q I1 q1
  | false => exact hb pins s1 σ H1 Q I1 q1
end
end L2
namespace L2
open PySem PySem.Spec PyProof.Rows
def SqL (K : PySem.W.Frag) (H : Hp) (a : Addr) (xs : List V) : Prop :=
  Rd H a (.lst xs) ∨
    ∃ (o : Obj) (its : Array Value) (n : Nat), K.lookup a = some o ∧ o.cls = .type "list" ∧ o.dict = none ∧ o.data = .seq its n ∧ its.size ≤ sizeLine ∧ Vals xs its.toList
def SqT (K : PySem.W.Frag) (H : Hp) (a : Addr) (xs : List V) : Prop :=
  Rd H a (.tup xs) ∨
    ∃ (o : Obj) (its : Array Value) (n : Nat), K.lookup a = some o ∧ o.cls = .type "tuple" ∧ o.data = .seq its n ∧ its.size ≤ sizeLine ∧ Vals xs its.toList
def absV : Value → Option V
  | .none => some .non
  | .bool b => some (.bl b)
  | .int i _ => some (.int i)
  | .str x _ => some (.str x)
  | .bytes b _ => some (.byt b)
  | .float b _ => some (.flt b)
  | .ref a => some (.ref a)
  | .type n => some (.ty n)
  | _ => none
theorem RelV.abs {x : V} {u : Value} (r : RelV x u) : absV u = some x := by
  cases x with
  | non => cases r; rfl
  | bl _ => cases r; rfl
  | int _ => obtain ⟨t, rfl⟩ := r; rfl
  | str _ => obtain ⟨t, rfl⟩ := r; rfl
  | byt _ => obtain ⟨t, rfl⟩ := r; rfl
  | flt _ => obtain ⟨t, rfl⟩ := r; rfl
  | ref _ => cases r; rfl
  | ty _ => cases r; rfl
theorem RelV.inj {x y : V} {u : Value} (r : RelV x u) (q : RelV y u) : x = y := Option.some.inj (r.abs.symm.trans q.abs)
theorem Vals.inj : ∀ {xs ys : List V} {us : List Value}, Vals xs us → Vals ys us → xs = ys
  | _, _, _, .nil, .nil => rfl
  | _, _, _, .cons r t, .cons r' t' => by rw [r.inj r', Vals.inj t t']
section
variable {X : Cx} {pins : List (Addr × Obj)} {σ : St} {H : Hp} {s : Shared} {a : Addr} {xs ys : List V}
theorem SqL.of {K : PySem.W.Frag} (h : H a = some (.lst xs)) : SqL K H a xs := .inl (.inl h)
theorem SqT.of {K : PySem.W.Frag} (h : H a = some (.tup xs)) : SqT K H a xs := .inl (.inl h)
theorem Inv.list (I : Inv X pins σ H s) (h : SqL X.K H a xs) : ∃ its : List Value, Vals xs its ∧ PlainL s.heap a its.toArray ∧ xs.length ≤ sizeLine := by
  rcases h with h | ⟨o, its, n, hk, hc, hd, hs, hz, r⟩
  · obtain ⟨z, its, n, r, e⟩ := h.ok I.hok
    exact ⟨its, r, ⟨_, n, e, rfl, rfl, rfl⟩, z⟩
  · refine ⟨its.toList, r, ⟨o, n, I.kIn a o hk, hc, hd, by simpa using hs⟩, ?_⟩
    have e := r.length
    simp only [Array.length_toList] at e
    omega
theorem Inv.tuple (I : Inv X pins σ H s) (h : SqT X.K H a xs) : ∃ its : List Value, Vals xs its ∧ IsTup s.heap a its.toArray ∧ xs.length ≤ sizeLine := by
  rcases h with h | ⟨o, its, n, hk, hc, hs, hz, r⟩
  · obtain ⟨z, its, r, p⟩ := h.ok I.hok
    exact ⟨its, r, p, z⟩
  · refine ⟨its.toList, r, ⟨o, I.kIn a o hk, hc, n, by simpa using hs⟩, ?_⟩
    have e := r.length
    simp only [Array.length_toList] at e
    omega
theorem Inv.list_inj (I : Inv X pins σ H s) (h : SqL X.K H a xs) (h' : SqL X.K H a ys) : xs = ys := by
  obtain ⟨its, r, ⟨o, n, e, _, _, d⟩, _⟩ := I.list h
  obtain ⟨its', r', ⟨o', n', e', _, _, d'⟩, _⟩ := I.list h'
  rw [e] at e'; cases e'
  rw [d] at d'
  injection d' with d1 _
  have : its = its' := by simpa using congrArg Array.toList d1
  subst this
  exact r.inj r'
end
abbrev Cx.wish (X : Cx) (E : Value → Shared → Prop) : Cx := { X with xe := E }
abbrev Cx.nox (X : Cx) : Cx := X.wish fun _ _ => False
theorem Cx.Ok.wish {X : Cx} (ok : X.Ok) (E : Value → Shared → Prop) : (X.wish E).Ok :=
  ⟨ok.mod, ok.kind, ok.glob, ok.blt, ok.above, ok.inj, ok.has, ok.cab, ok.hd, ok.frames, ok.stk, ok.exf, ok.bs, ok.bsz, ok.noex, ok.exfs, ok.funs, ok.frf⟩
theorem Cx.Ok.unwish {X : Cx} {E : Value → Shared → Prop} (ok : (X.wish E).Ok) : X.Ok :=
  ⟨ok.mod, ok.kind, ok.glob, ok.blt, ok.above, ok.inj, ok.has, ok.cab, ok.hd, ok.frames, ok.stk, ok.exf, ok.bs, ok.bsz, ok.noex, ok.exfs, ok.funs, ok.frf⟩
section
variable {X : Cx} {pins : List (Addr × Obj)} {σ : St} {H : Hp} {s : Shared} {E : Value → Shared → Prop}
theorem Inv.wish (I : Inv X pins σ H s) (E : Value → Shared → Prop) : Inv (X.wish E) pins σ H s := ⟨I.ok.wish E, I.os, I.bare, I.base, I.loc, I.cell, I.free, I.freeC, I.pin, I.hok, I.len⟩
theorem Inv.unwish (I : Inv (X.wish E) pins σ H s) : Inv X pins σ H s := ⟨I.ok.unwish, I.os, I.bare, I.base, I.loc, I.cell, I.free, I.freeC, I.pin, I.hok, I.len⟩
theorem SP.unwish {D : Ends} {f : Flow} {s' : Shared} (h : SP (X.wish E) pins D f s') : SP X pins D f s' := by
  cases f with
  | next => obtain ⟨σ', H', I, q⟩ := h; exact ⟨σ', H', I.unwish, q⟩
  | brk => obtain ⟨σ', H', I, q⟩ := h; exact ⟨σ', H', I.unwish, q⟩
  | cont => obtain ⟨σ', H', I, q⟩ := h; exact ⟨σ', H', I.unwish, q⟩
  | ret u => obtain ⟨v, σ', H', I, r, q⟩ := h; exact ⟨v, σ', H', I.unwish, r, q⟩
theorem PSs.nox {st : List Stmt} {t : TS} (h : PSs X.nox st t) : PSs X st t := fun pins s σ H D I hw =>
  wpAny_mono (h pins s σ H D (I.wish _) hw) (fun _ _ q => q.unwish) fun _ _ z => False.elim z
end
section
variable {X : Cx} {st : Stmt} {rest : List Stmt} {t u : TS} {e : Expr} {te : TE} {pos : Pos}
def tNext : TS := fun D σ H => D.nx σ H
def tSeq (t u : TS) : TS := fun D σ H => t { D with nx := u D } σ H
theorem pss_nil : PSs X [] tNext := fun _ _ σ H _ I h => wpAny_execs_nil ⟨σ, H, I, h⟩
theorem pss_cons (h1 : PS X st t) (h2 : PSs X rest u) : PSs X (st :: rest) (tSeq t u) := by
  intro pins s σ H D I h
  refine wpAny_execs_cons (thn (h1 pins s σ H { D with nx := u D } I h) fun f s1 q => ?_)
  cases f with
  | next =>
    obtain ⟨σ', H', I', q⟩ := q
    exact h2 pins s1 σ' H' D I' q
  | ret v => exact q
  | brk => exact q
  | cont => exact q
theorem pss_one (h1 : PS X st t) : PSs X [st] t := by
  intro pins s σ H D I h
  refine wpAny_execs_cons (thn (h1 pins s σ H D I h) fun f s1 q => ?_)
  cases f with
  | next => exact wpAny_execs_nil q
  | ret v => exact q
  | brk => exact q
  | cont => exact q
theorem Inv.quiet {pins : List (Addr × Obj)} {σ : St} {H : Hp} {s : Shared} (I : Inv X pins σ H s) : interactive X.env = false := by simp [interactive, I.ok.kind]
def tDrop (te : TE) : TS := fun D σ H => te σ H fun _ H1 => D.nx σ H1
theorem ps_expr (he : PE X e te) (hs : swapsWith e none pos.line X.env = pure false := by rfl) : PS X (.Expr e pos) (tDrop te) := by
  intro pins s σ H D I h
  exact wpAny_Expr_any (thn (he pins s σ H _ I h) fun v s1 ⟨x, H1, I1, r1, q1⟩ => ⟨σ, H1, I1, q1⟩) I.quiet hs
def tRet (te : TE) : TS := fun D σ H => te σ H D.rt
theorem ps_ret (he : PE X e te) : PS X (.Return (some e) pos) (tRet te) := by
  intro pins s σ H D I h
  exact wpAny_Return_some (thn (he pins s σ H _ I h) fun v s1 ⟨x, H1, I1, r1, q1⟩ => ⟨x, σ, H1, I1, r1, q1⟩)
def tIfS (c : TT) (t u : TS) : TS := fun D σ H => c σ H fun b H1 => if b = true then t D σ H1 else u D σ H1
theorem ps_if {c : Expr} {a b : List Stmt} {tc : TT} (hc : PT X c tc) (ha : PSs X a t) (hb : PSs X b u) : PS X (.If c a b pos) (tIfS tc t u) := by
  intro pins s σ H D I h
  refine wpAny_If (thn (hc pins s σ H _ I h) fun d s1 ⟨H1, I1, q1⟩ => ?_)
  cases d with
  | true => exact ha pins s1 σ H1 D I1 q1
  | false => exact hb pins s1 σ H1 D I1 q1
def tNever : TS := fun _ _ _ => False
theorem ps_never : PS X st tNever := fun _ _ _ _ _ _ h => h.elim
end
abbrev TG := V → St → Hp → (St → Hp → Prop) → Prop
abbrev TGs := List V → St → Hp → (St → Hp → Prop) → Prop
def PG (X : Cx) (target : Expr) (t : TG) : Prop :=
  ∀ (pins : List (Addr × Obj)) (s : Shared) (σ : St) (H : Hp) (v : V) (u : Value) (Q : St → Hp → Prop), Inv X pins σ H s → RelV v u → t v σ H Q →
    wpAny (model X.prog X.w) X.A (assign target X.env u) (fun _ s' => ∃ σ' H', Inv X pins σ' H' s' ∧ Q σ' H') X.xe s
def PGs (X : Cx) (ts : List Expr) (t : TGs) : Prop :=
  ∀ (pins : List (Addr × Obj)) (s : Shared) (σ : St) (H : Hp) (vs : List V) (us : List Value) (Q : St → Hp → Prop), Inv X pins σ H s → Vals vs us → t vs σ H Q →
    wpAny (model X.prog X.w) X.A (assignInOrder ((assignEach ts X.env).map (·.2)) us) (fun _ s' => ∃ σ' H', Inv X pins σ' H' s' ∧ Q σ' H') X.xe s
abbrev TSet := V → V → V → Hp → (Hp → Prop) → Prop
def PSet (X : Cx) (t : TSet) : Prop :=
  ∀ (pins : List (Addr × Obj)) (s : Shared) (σ : St) (H : Hp) (o i v : V) (ov iv u : Value) (Q : Hp → Prop), Inv X pins σ H s → RelV o ov → RelV i iv → RelV v u → t o i v H Q →
    wpAny (model X.prog X.w) X.A (setItem ov iv u) (fun _ s' => ∃ H', Inv X pins σ H' s' ∧ Q H') X.xe s
section
variable {X : Cx} {pos : Pos}
def gName (i : Nat) : TG := fun v σ H Q => Q (σ.set i (some v)) H
theorem pg_name {i : Nat} {x : Str} (hN : X.N.Nodup) (hi : X.N[i]? = some x) (hx : Loc X.env.scope x) (hf : X.fn x = true ∨ X.env.scope.names.lookup x = some .local := by first | exact .inl rfl | exact .inr rfl | assumption) : PG X (.Name x pos) (gName i) := by
  intro pins s σ H v u Q I r h
  exact wpAny_assign_Name (store_ok I hN hi hx r (fun s' I' => ⟨_, H, I', h⟩) hf)
def gNil : TGs := fun vs σ H Q => vs = [] ∧ Q σ H
def gCons (t : TG) (u : TGs) : TGs := fun vs σ H Q => ∃ v r, vs = v :: r ∧ t v σ H fun σ' H' => u r σ' H' Q
theorem pgs_nil : PGs X [] gNil := by
  intro pins s σ H vs us Q I r h
  obtain ⟨e, h⟩ := h
  subst e
  cases r
  exact assignInOrder_nil ⟨σ, H, I, h⟩
theorem pgs_cons {e : Expr} {es : List Expr} {t : TG} {u : TGs} (h1 : PG X e t) (h2 : PGs X es u)
    (hs : (assignEach (e :: es) X.env).map (·.2) = assign e X.env :: (assignEach es X.env).map (·.2) := by rfl) : PGs X (e :: es) (gCons t u) := by
  intro pins s σ H vs us Q I r h
  obtain ⟨v, vr, e1, h⟩ := h
  subst e1
  cases r with
  | cons r rr =>
    rw [hs]
    refine assignInOrder_cons (thn (h1 pins s σ H _ _ _ I r h) fun _ s1 ⟨σ1, H1, I1, q1⟩ => ?_)
    exact h2 pins s1 σ1 H1 _ _ Q I1 rr q1
def gTup (K : PySem.W.Frag) (n : Nat) (t : TGs) : TG := fun v σ H Q => ∃ a xs, v = .ref a ∧ SqT K H a xs ∧ xs.length = n ∧ t xs σ H Q
theorem pg_tup {es : List Expr} {k : Nat} {t : TGs} {n : Nat} (hc : X.calm = true) (h : PGs X es t)
    (hn : (assignEach es X.env).length = n := by rfl) (hst : (assignEach es X.env).findIdx? (·.1) = none := by rfl) : PG X (.Tuple es k pos) (gTup X.K n t) := by
  intro pins s σ H v u Q I r hw
  obtain ⟨a, xs, e1, hq, hl, hw⟩ := hw
  subst e1
  cases r
  obtain ⟨its, rv, ht, hz⟩ := I.tuple hq
  refine assign_Tuple_tuple (I.ok.hd hc) ht (by simp [hn, ← hl, rv.length]) hst fun h' hx => ?_
  have I1 : Inv X pins σ H { s with heap := h' } := I.kept (t' := s.toks) fun b o e => hx b o (Nat.ne_of_lt (Heap.lt_size e)) e
  exact h pins _ σ H xs _ Q I1 (by simpa using rv) hw
def gSub (to ti : TE) (t : TSet) : TG := fun v σ H Q => to σ H fun o H1 => ti σ H1 fun i H2 => t o i v H2 fun H3 => Q σ H3
theorem pg_sub {o i : Expr} {to ti : TE} {t : TSet} (ho : PE X o to) (hi : PE X i ti) (hs : PSet X t)
    (ha : ∀ v, assign (.Subscript o i pos) X.env v = (do
      let ov ← holding [v] (eval o X.env)
      let iv ← holding [v, ov] (eval i X.env)
      standAt pos
      holding [v, ov, iv] (setItem ov iv v)
      release [v, ov, iv] []) := by intro _; rfl) : PG X (.Subscript o i pos) (gSub to ti t) := by
  intro pins s σ H v u Q I r h
  rw [ha]
  refine wpAny_bind (wpAny_holding (thn (ho pins s σ H _ I h) fun ov s1 ⟨x, H1, I1, r1, q1⟩ => ?_))
  refine wpAny_bind (wpAny_holding (thn (hi pins s1 σ H1 _ I1 q1) fun iv s2 ⟨y, H2, I2, r2, q2⟩ => ?_))
  refine wpAny_bind (wpAny_standAt (wpAny_bind (wpAny_holding (thn (hs pins s2 σ H2 x y v ov iv u _ I2 r1 r2 r q2) fun _ s3 ⟨H3, I3, q3⟩ => ?_))))
  exact wpAny_release ⟨σ, H3, I3, q3⟩
def tAsg (te : TE) (g : TG) : TS := fun D σ H => te σ H fun x H1 => g x σ H1 D.nx
theorem ps_asg {tg e : Expr} {te : TE} {g : TG} (he : PE X e te) (hg : PG X tg g) (hs : swapsWithSole [tg] e pos.line X.env = pure false := by rfl) (hw : swappedStores [tg] e X.env = pure none := by rfl)
    (h1 : (assignEach [tg] X.env).map (·.2) = [assign tg X.env] := by rfl) : PS X (.Assign [tg] e pos) (tAsg te g) := by
  intro pins s σ H D I h
  refine wpAny_Assign_stores (thn (he pins s σ H _ I h) fun v s1 ⟨x, H1, I1, r1, q1⟩ => ?_) hs hw
  rw [h1]
  exact thn (hg pins s1 σ H1 x v _ I1 r1 q1) fun _ s2 q => q
theorem ps_set {i : Nat} {x : Str} {e : Expr} {te : TE} {pos' : Pos} (hN : X.N.Nodup) (hi : X.N[i]? = some x) (hx : Loc X.env.scope x) (he : PE X e te) (hs : swapsWith e (some (.Name x pos')) pos.line X.env = pure false := by rfl) (hf : X.fn x = true ∨ X.env.scope.names.lookup x = some .local := by first | exact .inl rfl | exact .inr rfl | assumption) :
    PS X (.Assign [.Name x pos'] e pos) (tAsg te (gName i)) := by
  intro pins s σ H D I h
  refine wpAny_Assign_Name (thn (he pins s σ H _ I h) fun v s1 ⟨y, H1, I1, r1, q1⟩ => ?_) hs
  exact store_ok I1 hN hi hx r1 (fun s2 I2 => ⟨_, H1, I2, q1⟩) hf
end
section
variable {X : Cx} {pos : Pos}
def tWhile (c : TT) (tb : TS) : TS := fun D σ H => ∃ W : Nat → St → Hp → Prop, (∃ m, W m σ H) ∧ ∀ m σ H, W m σ H →
  c σ H fun b H1 => if b = true then ∃ N : St → Hp → Prop, (∀ σ' H', N σ' H' → ∃ m', m' < m ∧ W m' σ' H') ∧ tb { D with nx := N, ct := N, bk := D.nx } σ H1 else D.nx σ H1
theorem ps_while {c : Expr} {body : List Stmt} {tc : TT} {tb : TS} (hp : PassesOwn (model X.prog X.w) X.A X.env X.xe) (hc : PT X c tc) (hb : PSs X body tb) : PS X (.While c body [] pos) (tWhile tc tb) := by
  intro pins s σ H D I h
  obtain ⟨W, ⟨m0, w0⟩, turn⟩ := h
  refine wpAny_While (codeAny_whileLoop (fun n s' => ∃ σ' H', Inv X pins σ' H' s' ∧ W n σ' H') ?_ m0 ⟨σ, H, I, w0⟩)
  rintro n s1 ⟨σ1, H1, I1, w1⟩
  refine wpAny_passesOwn hp (thn (hc pins s1 σ1 H1 _ I1 (turn n σ1 H1 w1)) fun b s2 ⟨H2, I2, q2⟩ => ?_)
  cases b with
  | true =>
    obtain ⟨N, hN, q2⟩ := q2
    rw [if_pos rfl]
    refine wpAny_passesOwn hp (thn (hb pins s2 σ1 H2 _ I2 q2) fun f s3 q3 => ?_)
    cases f with
    | next =>
      obtain ⟨σ3, H3, I3, n3⟩ := q3
      obtain ⟨m', hm, w3⟩ := hN σ3 H3 n3
      exact ⟨m', hm, σ3, H3, I3, w3⟩
    | cont =>
      obtain ⟨σ3, H3, I3, n3⟩ := q3
      obtain ⟨m', hm, w3⟩ := hN σ3 H3 n3
      exact ⟨m', hm, σ3, H3, I3, w3⟩
    | brk => exact q3
    | ret v => exact q3
  | false =>
    rw [if_neg Bool.false_ne_true]
    exact wpAny_execs_nil ⟨σ1, H2, I2, q2⟩
end
structure It where
  go : Nat → Hp → Prop
  yld : Nat → Hp → V → Hp → Prop
  stop : Nat → Hp → Prop
def FpOk (X : Cx) (pins : List (Addr × Obj)) (H : Hp) (b : Addr) : Prop :=
  H b = none ∧ b ≠ X.env.locals ∧ b ∉ X.fs ∧ (b ∈ X.ex ∨ X.s_0.heap.objs.size ≤ b) ∧ (∀ x c, X.env.cells.lookup x = some c → c ≠ b) ∧ ∀ p ∈ X.pn ++ pins, p.1 ≠ b
theorem Inv.fpOk {X : Cx} {pins : List (Addr × Obj)} {σ : St} {H H' : Hp} {s : Shared} {b : Addr} (I : Inv X pins σ H s) (hb : s.heap.objs.size ≤ b) (hn : H' b = none) : FpOk X pins H' b := by
  refine ⟨hn, Nat.ne_of_gt (Nat.lt_of_lt_of_le I.lt hb), I.nofs hb, .inr (Nat.le_trans I.sz hb), fun x c e z => ?_, fun p hp z => ?_⟩
  · obtain ⟨v, q⟩ := I.cell x c e
    exact absurd (Nat.lt_of_lt_of_le q.lt (by rw [z]; exact hb)) (Nat.lt_irrefl _)
  · exact absurd (Nat.lt_of_lt_of_le (Heap.lt_size (I.pin p hp).1) (by rw [z]; exact hb)) (Nat.lt_irrefl _)
structure Turn (P : Program) (w : World) (K : PySem.W.Frag) (tg : Expr) (J : It) (fp : List Addr) (it : Addr) (tn : Nat → Heap → Prop) : Prop where
  mem : it ∈ fp
  obj : ∀ i h, tn i h → ∀ b ∈ fp, ∃ o, h.get? b = some o ∧ ∀ v, o.data ≠ .cell v
  keep : ∀ i h h', tn i h → (∀ b ∈ fp, ∀ o, h.get? b = some o → h'.get? b = some o) → tn i h'
  item : ∀ (X : Cx), X.prog = P → X.w = w → X.K = K → X.calm = true → ∀ (i : Nat) (pins : List (Addr × Obj)) (s : Shared) (σ : St) (H : Hp) (E : Value → Shared → Prop), Inv X pins σ H s → (∀ b ∈ fp, FpOk X pins H b) → tn i s.heap → J.go i H →
    wpAny (model P w) X.A (pyNext (.ref it)) (fun r s1 => ∃ u, r = some u ∧
      wpAny (model P w) X.A (letOwnedTupleGo tg (.ref it) u) (fun _ s2 => ∃ x H', Inv X pins σ H' s2 ∧ RelV x u ∧ J.yld i H x H' ∧ tn (i + 1) s2.heap ∧ ∀ b ∈ fp, H' b = none) E s1) E s
  done : ∀ (X : Cx), X.prog = P → X.w = w → X.K = K → X.calm = true → ∀ (i : Nat) (pins : List (Addr × Obj)) (s : Shared) (σ : St) (H : Hp) (E : Value → Shared → Prop), Inv X pins σ H s → (∀ b ∈ fp, FpOk X pins H b) → tn i s.heap → J.stop i H →
    wpAny (model P w) X.A (pyNext (.ref it)) (fun r s1 => r = none ∧ Inv X pins σ H s1) E s
  self : ∀ (A : Around) (i : Nat) (s : Shared) (Q : Value → Shared → Prop) (E : Value → Shared → Prop), tn i s.heap → Q (.ref it) s → wpAny (model P w) A (pyIter (.ref it)) Q E s
abbrev TI := St → Hp → (It → Hp → Prop) → Prop
def PIE (X : Cx) (pins : List (Addr × Obj)) (σ : St) (tg : Expr) (R : It → Hp → Prop) (itv : Value) (s2 : Shared) : Prop :=
  ∃ (it : Addr) (fp : List Addr) (tn : Nat → Heap → Prop) (J : It) (H' : Hp), itv = .ref it ∧ Inv X pins σ H' s2 ∧ Turn X.prog X.w X.K tg J fp it tn ∧ tn 0 s2.heap ∧ (∀ b ∈ fp, FpOk X pins H' b) ∧ R J H'
def PI (X : Cx) (tg iter : Expr) (wi : TI) : Prop :=
  ∀ (pins : List (Addr × Obj)) (s : Shared) (σ : St) (H : Hp) (R : It → Hp → Prop), Inv X pins σ H s → wi σ H R →
    wpAny (model X.prog X.w) X.A (eval iter X.env) (fun v s1 => wpAny (model X.prog X.w) X.A (pyIter v) (PIE X pins σ tg R) X.xe s1) X.xe s
theorem go_of {M : Model} {A : Around} {E : Value → Shared → Prop} {s : Shared} {tg : Expr} {it : Addr} {u : Value} {o : Obj} {n : String} {vs : Array Value} {Q : Unit → Shared → Prop} (ho : s.heap.get? it = some o) (hc : o.cls = .type n) (hd : o.data = .fields vs)
    (hn : ["enumerate", "zip", "dict_itemiterator", "dict_reverseitemiterator", "odict_iterator", "itertools.zip_longest", "itertools.pairwise"].contains n = false) (hQ : Q () s) : wpAny M A (letOwnedTupleGo tg (.ref it) u) Q E s := by
  unfold letOwnedTupleGo
  cases tg <;> first
    | exact wpAny_pure hQ
    | (cases u <;> first
        | exact wpAny_pure hQ
        | (refine wpAny_bind (wpAny_load ho ?_)
           rw [hc, hd]
           show wpAny M A (if (["enumerate", "zip", "dict_itemiterator", "dict_reverseitemiterator", "odict_iterator", "itertools.zip_longest", "itertools.pairwise"].contains n && vs[0]? == some (rawInt _)) = true then _ else _) Q E s
           rw [if_neg (by intro h; rw [hn, Bool.false_and] at h; cases h)]
           exact wpAny_pure hQ))
def Itl (K : PySem.W.Frag) (a : Addr) : It :=
  ⟨fun i H => ∃ xs x, SqL K H a xs ∧ xs[i]? = some x, fun i H x H' => H' = H ∧ ∀ xs, SqL K H a xs → xs[i]? = some x, fun i H => ∃ xs, SqL K H a xs ∧ xs.length ≤ i⟩
def Itr (lo : Int) (n : Nat) : It := ⟨fun i _ => i < n, fun i H x H' => H' = H ∧ x = .int (lo + i), fun i _ => n ≤ i⟩
theorem turn_list {P : Program} {w : World} {K : PySem.W.Frag} {tg : Expr} (a it : Addr) : Turn P w K tg (Itl K a) [it] it (fun i h => h.IsListIter it a i) where
  mem := by simp
  obj := fun i h st b hb => by
    have e : b = it := by simpa using hb
    subst e
    obtain ⟨o, e, c, d⟩ := st
    exact ⟨o, e, fun v z => by rw [d] at z; cases z⟩
  keep := fun i h h' st k => st.at fun o e => k it (by simp) o e
  item := by
    intro X hP hw hK hc i pins s σ H E I hf st hg
    subst hP hw hK
    obtain ⟨xs, x, hq, hx⟩ := hg
    obtain ⟨its, rv, p, hz⟩ := I.list hq
    obtain ⟨u, hu, ru⟩ := rv.get hx
    obtain ⟨f0, f1, f2, f3, f4, f5⟩ := hf it (by simp)
    refine wpAny_pyNext_list_item st p.isList (x := u) (by simpa using hu) fun h' st' sb => ?_
    have I1 : Inv X pins σ H { s with heap := h' } := I.turned (t' := s.toks) (fun b o hb e => (sb.2 b hb).trans e) f0 f1 f3 f4 f5
    obtain ⟨o, e, c, d⟩ := id st'
    exact ⟨u, rfl, go_of (s := { s with heap := h' }) e c d (by decide) ⟨x, H, I1, ru, ⟨rfl, fun ys hy => by rw [I.list_inj hy hq]; exact hx⟩, st', fun b hb => (hf b hb).1⟩⟩
  done := by
    intro X hP hw hK hc i pins s σ H E I hf st hg
    subst hP hw hK
    obtain ⟨xs, hq, hx⟩ := hg
    obtain ⟨its, rv, p, hz⟩ := I.list hq
    obtain ⟨f0, f1, f2, f3, f4, f5⟩ := hf it (by simp)
    have hl := rv.length
    exact wpAny_pyNext_list_end (I.ok.hd hc) st p.isList (by simp; omega) fun h' eb => ⟨rfl, I.turned (t' := s.toks) (fun b o hb e => eb b o hb e) f0 f1 f3 f4 f5⟩
  self := fun _ _ _ _ _ st h => wpAny_pyIter_listiter st h
theorem turn_range {P : Program} {w : World} {K : PySem.W.Frag} {tg : Expr} (it : Addr) (lo : Int) (n : Nat) : Turn P w K tg (Itr lo n) [it] it (fun i h => IsRangeIter h it (lo + (i : Nat) * 1) ((n : Int) - (i : Nat)) 1) where
  mem := by simp
  obj := fun i h st b hb => by
    have e : b = it := by simpa using hb
    subst e
    exact ⟨_, st, fun v z => by
      have z' : Data.fields _ = Data.cell v := z
      cases z'⟩
  keep := fun i h h' st k => k it (by simp) _ st
  item := by
    intro X hP hw hK hc i pins s σ H E I hf st hg
    subst hP hw hK
    obtain ⟨f0, f1, f2, f3, f4, f5⟩ := hf it (by simp)
    have W := Walks.range (prog := X.prog) (w := X.w) (I.ok.hd hc) it lo 1 n
    refine W.item i s _ _ hg st fun v h' tk hv st' kk => ?_
    obtain ⟨t, rfl⟩ := hv
    have I1 : Inv X pins σ H { s with heap := h', toks := tk } := I.turned (fun b o hb e => kk b o (by simpa using hb) e) f0 f1 f3 f4 f5
    refine ⟨_, rfl, go_of (s := { s with heap := h', toks := tk }) (n := "range_iterator") st' rfl rfl (by decide) ⟨.int (lo + i), H, I1, ⟨t, ?_⟩, ⟨rfl, rfl⟩, st', fun b hb => (hf b hb).1⟩⟩
    rw [Int.mul_one]
  done := by
    intro X hP hw hK hc i pins s σ H E I hf st hg
    subst hP hw hK
    obtain ⟨f0, f1, f2, f3, f4, f5⟩ := hf it (by simp)
    exact wpAny_pyNext_range_end (I.ok.hd hc) st (by have : n ≤ i := hg; omega) fun h' eb => ⟨rfl, I.turned (t' := s.toks) (fun b o hb e => eb b o hb e) f0 f1 f3 f4 f5⟩
  self := fun _ _ _ _ _ st h => wpAny_pyIter_rangeiter st h
end L2
namespace L2
open PySem PySem.Spec PyProof.Rows
section
variable {X : Cx} {tg : Expr}
def iList (K : PySem.W.Frag) (tl : TE) : TI := fun σ H R => tl σ H fun x H1 => ∃ a, x = .ref a ∧ (∃ xs, SqL K H1 a xs) ∧ R (Itl K a) H1
theorem pi_list {l : Expr} {tl : TE} (hl : PE X l tl) : PI X tg l (iList X.K tl) := by
  intro pins s σ H R I h
  refine thn (hl pins s σ H _ I h) fun v s1 ⟨x, H1, I1, r1, q1⟩ => ?_
  obtain ⟨a, e, ⟨xs, hq⟩, q⟩ := q1
  subst e
  cases r1
  obtain ⟨its, rv, p, hz⟩ := I1.list hq
  refine wpAny_pyIter_list p.isList ?_
  refine ⟨s1.heap.objs.size, [s1.heap.objs.size], _, _, H1, rfl, I1.kept (t' := s1.toks) fun b o e => Heap.get?_push_of_some _ e, turn_list a _, ⟨_, Heap.get?_push_size _ rfl, rfl, rfl⟩, fun b hb => ?_, q⟩
  have e : b = s1.heap.objs.size := by simpa using hb
  subst e
  exact I1.fpOk (Nat.le_refl _) (I1.hok.fresh (Nat.le_refl _))
theorem range_it {pins : List (Addr × Obj)} {σ : St} {H : Hp} {s : Shared} {R : It → Hp → Prop} {E : Value → Shared → Prop} {lo hi : Int} {t u v : Tok} {tk : Nat} (I : Inv X pins σ H s) (h1 : -(2 ^ 62) ≤ lo) (h2 : lo < 2 ^ 62) (h3 : -(2 ^ 62) ≤ hi) (h4 : hi < 2 ^ 62)
    (q : R (Itr lo (hi - lo).toNat) H) : wpAny (model X.prog X.w) X.A (pyIter (.ref s.heap.objs.size)) (PIE X pins σ tg R) E { s with heap := s.heap.push { cls := .type "range", data := .fields #[.int lo t, .int hi u, .int 1 v] }, toks := tk } := by
  refine wpAny_pyIter_range (IsRange.new ..) (small_one h1 h2 h3 h4) ?_
  have I1 : Inv X pins σ H { s with heap := s.heap.push { cls := .type "range", data := .fields #[.int lo t, .int hi u, .int 1 v] }, toks := tk } := I.kept fun b o e => Heap.get?_push_of_some _ e
  refine ⟨(s.heap.push { cls := .type "range", data := .fields #[.int lo t, .int hi u, .int 1 v] }).objs.size, [(s.heap.push { cls := .type "range", data := .fields #[.int lo t, .int hi u, .int 1 v] }).objs.size], _, _, H, rfl,
    I1.kept (t' := tk) fun b o e => Heap.get?_push_of_some _ e, turn_range _ lo (hi - lo).toNat, ?_, fun b hb => ?_, q⟩
  · have e1 : lo + ((0 : Nat) : Int) * 1 = lo := by simp
    have e2 : (((hi - lo).toNat : Nat) : Int) - ((0 : Nat) : Int) = Builtin.Range.rangeSize lo hi 1 := by rw [rangeSize_one]; split <;> omega
    show IsRangeIter _ _ (lo + ((0 : Nat) : Int) * 1) ((((hi - lo).toNat : Nat) : Int) - ((0 : Nat) : Int)) 1
    rw [e1, e2]
    exact Heap.get?_push_size _ rfl
  · have e : b = (s.heap.push { cls := .type "range", data := .fields #[.int lo t, .int hi u, .int 1 v] }).objs.size := by simpa using hb
    subst e
    exact I1.fpOk (Nat.le_refl _) (I1.hok.fresh (Nat.le_refl _))
def iRng1 (ta : TA) : TI := fun σ H R => ta σ H fun vs H1 => ∃ j : Int, vs = [.int j] ∧ -(2 ^ 62) ≤ j ∧ j < 2 ^ 62 ∧ R (Itr 0 j.toNat) H1
theorem pi_range1 {a : Expr} {ta : TA} {p pos : Pos} (hg : Gl X "range") (hm : X.mg "range" = none) (ha : PA X [a] ta) (hs : starEach [a] X.env = [(false, eval a X.env)] := by rfl) : PI X tg (.Call (.Name "range" p) [a] [] pos) (iRng1 ta) := by
  intro pins s σ H R I h
  refine Call_ (ld_blt I hg hm boot_range (PyProof.Rows.callWith_type1 (thn (ha pos pins s σ H _ I h) fun us s1 ⟨vs, H1, I1, r1, q1⟩ => ?_) hs rfl))
  obtain ⟨j, e, q1, q2, q⟩ := q1
  subst e
  cases r1 with
  | cons r rr =>
    cases rr
    obtain ⟨t, rfl⟩ := r
    exact call_range_1 (range_it I1 (by omega) (by omega) q1 q2 (by simpa using q))
def tFor (wi : TI) (g : TG) (tb : TS) : TS := fun D σ H => wi σ H fun J H1 => ∃ W : Nat → Nat → St → Hp → Prop, (∃ m, W 0 m σ H1) ∧ ∀ i m σ H, W i m σ H →
  (J.stop i H ∧ D.nx σ H) ∨ (J.go i H ∧ ∃ N : St → Hp → Prop, (∀ σ' H', N σ' H' → ∃ m', m' < m ∧ W (i + 1) m' σ' H') ∧ ∀ x H', J.yld i H x H' → g x σ H' fun σ2 H2 => tb { D with nx := N, ct := N, bk := D.nx } σ2 H2)
def pinsAt (fp : List Addr) (h : Heap) : List (Addr × Obj) := fp.filterMap fun b => (h.get? b).map fun o => (b, o)
theorem mem_pinsAt {fp : List Addr} {h : Heap} {b : Addr} {o : Obj} (hb : b ∈ fp) (e : h.get? b = some o) : (b, o) ∈ pinsAt fp h := List.mem_filterMap.mpr ⟨b, hb, by rw [e]; rfl⟩
theorem of_pinsAt {fp : List Addr} {h : Heap} {p : Addr × Obj} (hp : p ∈ pinsAt fp h) : p.1 ∈ fp ∧ h.get? p.1 = some p.2 := by
  obtain ⟨b, hb, e⟩ := List.mem_filterMap.mp hp
  cases q : h.get? b with
  | none => rw [q] at e; cases e
  | some o =>
    rw [q] at e
    have e' : (b, o) = p := Option.some.inj e
    subst e'
    exact ⟨hb, q⟩
theorem Inv.pinned {pins : List (Addr × Obj)} {σ : St} {H : Hp} {s : Shared} {fp : List Addr} (I : Inv X pins σ H s) (hf : ∀ b ∈ fp, FpOk X pins H b) (ho : ∀ b ∈ fp, ∃ o, s.heap.get? b = some o ∧ ∀ v, o.data ≠ .cell v) : Inv X (pins ++ pinsAt fp s.heap) σ H s :=
  I.pins_of fun p hp => (List.mem_append.mp hp).elim (fun z => I.pin p (List.mem_append_right _ z)) fun z => by
    obtain ⟨hb, e⟩ := of_pinsAt z
    obtain ⟨f0, f1, f2, _⟩ := hf p.1 hb
    obtain ⟨o, e', d⟩ := ho p.1 hb
    rw [e] at e'; cases e'
    exact ⟨e, f0, f1, f2, d⟩
theorem Inv.unpinned {pins pl : List (Addr × Obj)} {σ : St} {H : Hp} {s : Shared} (I : Inv X (pins ++ pl) σ H s) : Inv X pins σ H s := I.pins_of fun p hp => I.pin p (List.mem_append_right _ (List.mem_append_left _ hp))
theorem ps_for {iter : Expr} {body : List Stmt} {wi : TI} {g : TG} {tb : TS} {pos : Pos} (hp : PassesOwn (model X.prog X.w) X.A X.env X.xe) (hc : X.calm = true) (hi : PI X tg iter wi) (hg : PG X tg g) (hb : PSs X body tb)
    (hs : ∀ x, foldedSetIterable iter X.env x = pure x := by intro _; rfl) : PS X (.For tg iter body [] pos) (tFor wi g tb) := by
  intro pins s σ H D I h
  refine wpAny_For (thn (hi pins s σ H _ I h) fun v s1 h1 => thn h1 fun itv s2 h2 => ?_) hs
  obtain ⟨it, fp, tn, J, H2, e, I2, T, st2, f2, W, ⟨m0, w0⟩, turn⟩ := h2
  subst e
  -- what stays true of the iterator's objects through the loop
  have stat : ∀ {H' : Hp}, (∀ b ∈ fp, H' b = none) → ∀ b ∈ fp, FpOk X pins H' b := fun hn b hb => ⟨hn b hb, (f2 b hb).2⟩
  refine codeAny_forLoop_any (fun n s' => ∃ i σ' H', Inv X pins σ' H' s' ∧ tn i s'.heap ∧ (∀ b ∈ fp, H' b = none) ∧ W i n σ' H') ?_ m0 ⟨0, σ, H2, I2, st2, fun b hb => (f2 b hb).1, w0⟩
  rintro n s3 ⟨i, σ3, H3, I3, st3, fr3, w3⟩
  rcases turn i n σ3 H3 w3 with ⟨stop, qn⟩ | ⟨go, N, hN, step⟩
  · refine wpAny_passesOwn hp (thn (T.done X rfl rfl rfl hc i pins s3 σ3 H3 X.xe I3 (stat fr3) st3 stop) fun r s4 ⟨hr, I4⟩ => ?_)
    subst hr
    exact wpAny_execs_nil ⟨σ3, H3, I4, qn⟩
  · refine wpAny_passesOwn hp (thn (T.item X rfl rfl rfl hc i pins s3 σ3 H3 X.xe I3 (stat fr3) st3 go) fun r s4 ⟨u, hr, h4⟩ => ?_)
    subst hr
    refine wpAny_passesOwn hp (thn h4 fun _ s5 ⟨x, H5, I5, r5, y5, st5, fr5⟩ => ?_)
    have I5' := I5.pinned (stat fr5) (T.obj _ _ st5)
    refine wpAny_passesOwn hp (thn (hg _ s5 σ3 H5 x u _ I5' r5 (step x H5 y5)) fun _ s6 ⟨σ6, H6, I6, q6⟩ => ?_)
    refine wpAny_passesOwn hp (thn (hb _ s6 σ6 H6 _ I6 q6) fun f s7 q7 => ?_)
    have again : ∀ {σ7 : St} {H7 : Hp}, Inv X (pins ++ pinsAt fp s5.heap) σ7 H7 s7 → N σ7 H7 → ∃ m, m < n ∧ ∃ i σ' H', Inv X pins σ' H' s7 ∧ tn i s7.heap ∧ (∀ b ∈ fp, H' b = none) ∧ W i m σ' H' := fun {σ7 H7} I7 n7 => by
      obtain ⟨m', hm, w7⟩ := hN σ7 H7 n7
      refine ⟨m', hm, i + 1, σ7, H7, I7.unpinned, T.keep _ _ _ st5 fun b hb o e => (I7.pin (b, o) (List.mem_append_right _ (List.mem_append_right _ (mem_pinsAt hb e)))).1, fun b hb => ?_, w7⟩
      obtain ⟨o, e, d⟩ := T.obj _ _ st5 b hb
      exact (I7.pin (b, o) (List.mem_append_right _ (List.mem_append_right _ (mem_pinsAt hb e)))).2.1
    cases f with
    | next => obtain ⟨σ7, H7, I7, n7⟩ := q7; exact again I7 n7
    | cont => obtain ⟨σ7, H7, I7, n7⟩ := q7; exact again I7 n7
    | brk => obtain ⟨σ7, H7, I7, q7⟩ := q7; exact ⟨σ7, H7, I7.unpinned, q7⟩
    | ret v => obtain ⟨x7, σ7, H7, I7, r7, q7⟩ := q7; exact ⟨x7, σ7, H7, I7.unpinned, r7, q7⟩
end
theorem for_list {K : PySem.W.Frag} {a : Addr} {xs : List V} {g : TG} {tb : TS} {D : Ends} {σ : St} {H : Hp} (Pv : Nat → St → Hp → Prop) (h0 : Pv 0 σ H) (hl : ∀ i σ H, i ≤ xs.length → Pv i σ H → SqL K H a xs)
    (hs : ∀ i x σ H, xs[i]? = some x → Pv i σ H → g x σ H fun σ2 H2 => tb { D with nx := Pv (i + 1), ct := Pv (i + 1), bk := D.nx } σ2 H2) (hd : ∀ σ H, Pv xs.length σ H → D.nx σ H) :
    ∃ W : Nat → Nat → St → Hp → Prop, (∃ m, W 0 m σ H) ∧ ∀ i m σ H, W i m σ H →
      ((Itl K a).stop i H ∧ D.nx σ H) ∨ ((Itl K a).go i H ∧ ∃ N : St → Hp → Prop, (∀ σ' H', N σ' H' → ∃ m', m' < m ∧ W (i + 1) m' σ' H') ∧ ∀ x H', (Itl K a).yld i H x H' → g x σ H' fun σ2 H2 => tb { D with nx := N, ct := N, bk := D.nx } σ2 H2) := by
  refine ⟨fun i m σ H => m = xs.length - i ∧ i ≤ xs.length ∧ Pv i σ H, ⟨xs.length, by simp, Nat.zero_le _, h0⟩, ?_⟩
  rintro i m σ H ⟨rfl, hi, p⟩
  have q := hl i σ H hi p
  by_cases hlt : i < xs.length
  · refine .inr ⟨⟨xs, xs[i], q, by simp [hlt]⟩, Pv (i + 1), fun σ' H' p' => ⟨xs.length - (i + 1), by omega, rfl, hlt, p'⟩, fun x H' y => ?_⟩
    obtain ⟨e, y⟩ := y
    subst e
    exact hs i x σ _ (y xs q) p
  · have e : i = xs.length := by omega
    subst e
    exact .inl ⟨⟨xs, q, Nat.le_refl _⟩, hd σ H p⟩
theorem for_range {lo : Int} {n : Nat} {g : TG} {tb : TS} {D : Ends} {σ : St} {H : Hp} (Pv : Nat → St → Hp → Prop) (h0 : Pv 0 σ H)
    (hs : ∀ i σ H, i < n → Pv i σ H → g (.int (lo + i)) σ H fun σ2 H2 => tb { D with nx := Pv (i + 1), ct := Pv (i + 1), bk := D.nx } σ2 H2) (hd : ∀ σ H, Pv n σ H → D.nx σ H) :
    ∃ W : Nat → Nat → St → Hp → Prop, (∃ m, W 0 m σ H) ∧ ∀ i m σ H, W i m σ H →
      ((Itr lo n).stop i H ∧ D.nx σ H) ∨ ((Itr lo n).go i H ∧ ∃ N : St → Hp → Prop, (∀ σ' H', N σ' H' → ∃ m', m' < m ∧ W (i + 1) m' σ' H') ∧ ∀ x H', (Itr lo n).yld i H x H' → g x σ H' fun σ2 H2 => tb { D with nx := N, ct := N, bk := D.nx } σ2 H2) := by
  refine ⟨fun i m σ H => m = n - i ∧ i ≤ n ∧ Pv i σ H, ⟨n, by simp, Nat.zero_le _, h0⟩, ?_⟩
  rintro i m σ H ⟨rfl, hi, p⟩
  by_cases hlt : i < n
  · refine .inr ⟨hlt, Pv (i + 1), fun σ' H' p' => ⟨n - (i + 1), by omega, rfl, hlt, p'⟩, fun x H' y => ?_⟩
    obtain ⟨e, y⟩ := y
    subst e y
    exact hs i σ _ hlt p
  · have e : i = n := by omega
    subst e
    exact .inl ⟨Nat.le_refl _, hd σ H p⟩
end L2
namespace L2
open PySem PySem.Spec PyProof.Rows
abbrev R2 := V → V → Hp → VK → Prop
def OpR (X : Cx) (f : Value → Value → Sem Value) (r : R2) : Prop :=
  ∀ (pins : List (Addr × Obj)) (s : Shared) (σ : St) (H : Hp) (x y : V) (v u : Value) (Q : VK), Inv X pins σ H s → RelV x v → RelV y u → r x y H Q →
    wpAny (model X.prog X.w) X.A (f v u) (EP X pins σ Q) X.xe s
def UnR (X : Cx) (f : Value → Sem Value) (r : V → Hp → VK → Prop) : Prop :=
  ∀ (pins : List (Addr × Obj)) (s : Shared) (σ : St) (H : Hp) (x : V) (v : Value) (Q : VK), Inv X pins σ H s → RelV x v → r x H Q →
    wpAny (model X.prog X.w) X.A (f v) (EP X pins σ Q) X.xe s
def CallR (X : Cx) (f : Value) (r : List V → Hp → VK → Prop) : Prop :=
  ∀ (pins : List (Addr × Obj)) (s : Shared) (σ : St) (H : Hp) (xs : List V) (us : List Value) (Q : VK), Inv X pins σ H s → Vals xs us → r xs H Q →
    wpAny (model X.prog X.w) X.A (call f us) (EP X pins σ Q) X.xe s
def tOp (r : R2) (ta tb : TE) : TE := fun σ H Q => ta σ H fun x H1 => tb σ H1 fun y H2 => r x y H2 Q
def tUn (r : V → Hp → VK → Prop) (ta : TE) : TE := fun σ H Q => ta σ H fun x H1 => r x H1 Q
def rI (C : Int → Int → Prop) (g : Int → Int → V) : R2 := fun x y H Q => ∃ i j, x = .int i ∧ y = .int j ∧ C i j ∧ Q (g i j) H
def rI0 (g : Int → Int → V) : R2 := fun x y H Q => ∃ i j, x = .int i ∧ y = .int j ∧ Q (g i j) H
def rU (g : Int → V) : V → Hp → VK → Prop := fun x H Q => ∃ i, x = .int i ∧ Q (g i) H
section
variable {X : Cx} {a b c : Expr} {ta tb tc : TE} {pos : Pos}
theorem binT (ha : PE X a ta) (hb : PE X b tb) {pins : List (Addr × Obj)} {s : Shared} {σ : St} {H : Hp} {R : V → V → Hp → Prop} (I : Inv X pins σ H s)
    (h : ta σ H fun x H1 => tb σ H1 fun y H2 => R x y H2) {Q : Value → Shared → Prop} {f : Value → Value → Sem Value}
    (hf : ∀ v u s2 x y H2, Inv X pins σ H2 s2 → RelV x v → RelV y u → R x y H2 → wpAny (model X.prog X.w) X.A (f v u) Q X.xe s2) :
    wpAny (model X.prog X.w) X.A (eval a X.env) (fun v s₁ => wpAny (model X.prog X.w) X.A (eval b X.env) (fun u s₂ => wpAny (model X.prog X.w) X.A (f v u) Q X.xe s₂) X.xe s₁) X.xe s := by
  refine thn (ha pins s σ H _ I h) fun v s1 ⟨x, H1, I1, r1, q1⟩ => ?_
  refine thn (hb pins s1 σ H1 _ I1 q1) fun u s2 ⟨y, H2, I2, r2, q2⟩ => ?_
  exact hf v u s2 x y H2 I2 r1 r2 q2
theorem pe_op {op : Operator} {r : R2} (ho : OpR X (binaryOp op) r) (ha : PE X a ta) (hb : PE X b tb) : PE X (.BinOp a op b pos) (tOp r ta tb) := by
  intro pins s σ H Q I h
  exact wpAny_BinOp (binT ha hb I h fun v u s2 x y H2 I2 rx ry q => ho pins s2 σ H2 x y v u Q I2 rx ry q)
theorem pe_un {op : UnaryOp} {r : V → Hp → VK → Prop} (ho : UnR X (unaryOp op) r) (ha : PE X a ta) : PE X (.UnaryOp op a pos) (tUn r ta) := by
  intro pins s σ H Q I h
  exact UnaryOp_ (thn (ha pins s σ H _ I h) fun v s1 ⟨x, H1, I1, r1, q1⟩ => ho pins s1 σ H1 x v Q I1 r1 q1)
theorem opI {f : Value → Value → Sem Value} {C : Int → Int → Prop} {g : Int → Int → Int}
    (rule : ∀ (i j : Int) (t u : Tok) (s : Shared) (Q : Value → Shared → Prop) (E : Value → Shared → Prop), C i j → Q (.int (g i j) s.toks) { s with toks := s.toks + 1 } → wpAny (model X.prog X.w) X.A (f (.int i t) (.int j u)) Q E s) :
    OpR X f (rI C fun i j => .int (g i j)) := by
  intro pins s σ H x y v u Q I rx ry h
  obtain ⟨i, j, rfl, rfl, hc, q⟩ := h
  obtain ⟨t, rfl⟩ := rx
  obtain ⟨t', rfl⟩ := ry
  exact rule i j t t' s _ _ hc ⟨.int (g i j), H, I.tok _, ⟨_, rfl⟩, q⟩
theorem opI0 {f : Value → Value → Sem Value} {g : Int → Int → Int}
    (rule : ∀ (i j : Int) (t u : Tok) (s : Shared) (Q : Value → Shared → Prop) (E : Value → Shared → Prop), Q (.int (g i j) s.toks) { s with toks := s.toks + 1 } → wpAny (model X.prog X.w) X.A (f (.int i t) (.int j u)) Q E s) :
    OpR X f (rI0 fun i j => .int (g i j)) := by
  intro pins s σ H x y v u Q I rx ry h
  obtain ⟨i, j, rfl, rfl, q⟩ := h
  obtain ⟨t, rfl⟩ := rx
  obtain ⟨t', rfl⟩ := ry
  exact rule i j t t' s _ _ ⟨.int (g i j), H, I.tok _, ⟨_, rfl⟩, q⟩
theorem opB0 {f : Value → Value → Sem Value} {g : Int → Int → Bool}
    (rule : ∀ (i j : Int) (t u : Tok) (s : Shared) (Q : Value → Shared → Prop) (E : Value → Shared → Prop), Q (.bool (g i j)) s → wpAny (model X.prog X.w) X.A (f (.int i t) (.int j u)) Q E s) :
    OpR X f (rI0 fun i j => .bl (g i j)) := by
  intro pins s σ H x y v u Q I rx ry h
  obtain ⟨i, j, rfl, rfl, q⟩ := h
  obtain ⟨t, rfl⟩ := rx
  obtain ⟨t', rfl⟩ := ry
  exact rule i j t t' s _ _ ⟨.bl (g i j), H, I, rfl, q⟩
def CDiv (i j : Int) : Prop := 0 < j ∧ j < 1073741824
def CPow (i j : Int) : Prop := 0 ≤ j ∧ j ≤ 1000000 ∧ i.natAbs < 2 ^ 64
def CMul (i j : Int) : Prop := (-(2 ^ 64) < i ∧ i < 2 ^ 64) ∨ (-(2 ^ 64) < j ∧ j < 2 ^ 64)
theorem CMul.ok {i j : Int} (h : CMul i j) : IntMulOk i j := by
  rcases h with ⟨h1, h2⟩ | ⟨h1, h2⟩
  · exact .of_left (intBits_le_64 h1 h2)
  · exact .of_right (intBits_le_64 h1 h2)
theorem op_add : OpR X (binaryOp .Add) (rI0 fun i j => .int (i + j)) := opI0 fun _ _ _ _ _ _ _ q => add_int q
theorem op_sub : OpR X (binaryOp .Sub) (rI0 fun i j => .int (i - j)) := opI0 fun _ _ _ _ _ _ _ q => sub_int q
theorem op_mul : OpR X (binaryOp .Mult) (rI CMul fun i j => .int (i * j)) := opI fun _ _ _ _ _ _ _ hc q => mul_int q hc.ok
theorem op_fdiv : OpR X (binaryOp .FloorDiv) (rI CDiv fun i j => .int (i / j)) := opI fun i j _ _ _ _ _ hc q => by
  have h1 : (0 : Int) < j := hc.1
  have h2 : j < 1073741824 := hc.2
  exact floordiv_int (by omega) (by rw [Int.fdiv_eq_ediv_of_nonneg i (by omega)]; exact q) (.inl (PyProof.noPylong_small (by omega)))
theorem op_pow : OpR X (binaryOp .Pow) (rI CPow fun i j => .int (i ^ j.toNat)) := opI fun _ _ _ _ _ _ _ hc q => pow_int_small hc.1 hc.2.1 hc.2.2 q
theorem unI {f : Value → Sem Value} {g : Int → Int}
    (rule : ∀ (i : Int) (t : Tok) (s : Shared) (Q : Value → Shared → Prop) (E : Value → Shared → Prop), Q (.int (g i) s.toks) { s with toks := s.toks + 1 } → wpAny (model X.prog X.w) X.A (f (.int i t)) Q E s) :
    UnR X f (rU fun i => .int (g i)) := by
  intro pins s σ H x v Q I rx h
  obtain ⟨i, rfl, q⟩ := h
  obtain ⟨t, rfl⟩ := rx
  exact rule i t s _ _ ⟨.int (g i), H, I.tok _, ⟨_, rfl⟩, q⟩
theorem un_neg : UnR X (unaryOp .USub) (rU fun i => .int (-i)) := unI fun _ _ _ _ _ q => neg_int q
end
def scal : V → V → Bool
  | .non, .non => true | .non, .int _ => true | .int _, .non => true | .non, .bl _ => true | .bl _, .non => true | .non, .str _ => true | .str _, .non => true
  | .int _, .int _ => true | .bl _, .bl _ => true | .str _, .str _ => true | .byt _, .byt _ => true
  | .int _, .str _ => true | .str _, .int _ => true | .bl _, .str _ => true | .str _, .bl _ => true
  | _, _ => false
def rEq : R2 := fun x y H Q => scal x y = true ∧ Q (.bl (decide (x = y))) H
def rNe : R2 := fun x y H Q => scal x y = true ∧ Q (.bl (!decide (x = y))) H
theorem dec_int {i j : Int} : decide (V.int i = V.int j) = (i == j) := by
  rw [Bool.eq_iff_iff]
  simp
theorem dec_bl {i j : Bool} : decide (V.bl i = V.bl j) = (i == j) := by
  rw [Bool.eq_iff_iff]
  simp
theorem dec_str {i j : Str} : decide (V.str i = V.str j) = (i == j) := by
  rw [Bool.eq_iff_iff]
  simp
theorem dec_byt {i j : Array UInt8} : decide (V.byt i = V.byt j) = (i.toList == j.toList) := by
  rw [Bool.eq_iff_iff]
  cases i
  cases j
  simp
section
variable {X : Cx} {a b c : Expr} {ta tb tc : TE} {pos : Pos}
theorem fin_bl {pins : List (Addr × Obj)} {σ : St} {H : Hp} {s : Shared} {Q : VK} {k k' : Bool} (I : Inv X pins σ H s) (q : Q (.bl k) H) (e : k = k') : EP X pins σ Q (.bool k') s := by
  subst e
  exact ⟨.bl k, H, I, rfl, q⟩
theorem op_eq : OpR X (compareOp .Eq) rEq := by
  intro pins s σ H x y v u Q I rx ry h
  obtain ⟨hs, q⟩ := h
  cases x with
  | non =>
    cases rx
    cases y with
    | non => cases ry; exact PySem.EqNone.eq_none_none (fin_bl I q (by simp))
    | bl j => cases ry; exact PySem.EqNone.eq_none_bool (fin_bl I q (by simp))
    | int j => obtain ⟨t', rfl⟩ := ry; exact PySem.EqNone.eq_none_int (fin_bl I q (by simp))
    | str j => obtain ⟨t', rfl⟩ := ry; exact PySem.EqNone.eq_none_str (fin_bl I q (by simp))
    | _ => exact absurd (show false = true from hs) Bool.false_ne_true
  | bl i =>
    cases rx
    cases y with
    | non => cases ry; exact PySem.EqNone.eq_bool_none (fin_bl I q (by simp))
    | bl j => cases ry; exact eq_bool (fin_bl I q dec_bl)
    | str j => obtain ⟨t', rfl⟩ := ry; exact PySem.EqMixed.eq_bool_str (fin_bl I q (by simp))
    | _ => exact absurd (show false = true from hs) Bool.false_ne_true
  | int i =>
    obtain ⟨t, rfl⟩ := rx
    cases y with
    | non => cases ry; exact PySem.EqNone.eq_int_none (fin_bl I q (by simp))
    | int j => obtain ⟨t', rfl⟩ := ry; exact eq_int (fin_bl I q dec_int)
    | str j => obtain ⟨t', rfl⟩ := ry; exact PySem.EqMixed.eq_int_str (fin_bl I q (by simp))
    | _ => exact absurd (show false = true from hs) Bool.false_ne_true
  | str i =>
    obtain ⟨t, rfl⟩ := rx
    cases y with
    | non => cases ry; exact PySem.EqNone.eq_str_none (fin_bl I q (by simp))
    | bl j => cases ry; exact PySem.EqMixed.eq_str_bool (fin_bl I q (by simp))
    | int j => obtain ⟨t', rfl⟩ := ry; exact PySem.EqMixed.eq_str_int (fin_bl I q (by simp))
    | str j => obtain ⟨t', rfl⟩ := ry; exact eq_str (fin_bl I q dec_str)
    | _ => exact absurd (show false = true from hs) Bool.false_ne_true
  | byt i =>
    obtain ⟨t, rfl⟩ := rx
    cases y with
    | byt j => obtain ⟨t', rfl⟩ := ry; exact PySem.W.eq_bytes (fin_bl I q dec_byt)
    | _ => exact absurd (show false = true from hs) Bool.false_ne_true
  | _ => cases y <;> exact absurd (show false = true from hs) Bool.false_ne_true
theorem op_ne : OpR X (compareOp .NotEq) rNe := by
  intro pins s σ H x y v u Q I rx ry h
  obtain ⟨hs, q⟩ := h
  cases x with
  | non =>
    cases rx
    cases y with
    | non => cases ry; exact PySem.EqNone.ne_none_none (fin_bl I q (by simp))
    | bl j => cases ry; exact PySem.EqNone.ne_none_bool (fin_bl I q (by simp))
    | int j => obtain ⟨t', rfl⟩ := ry; exact PySem.EqNone.ne_none_int (fin_bl I q (by simp))
    | str j => obtain ⟨t', rfl⟩ := ry; exact PySem.EqNone.ne_none_str (fin_bl I q (by simp))
    | _ => exact absurd (show false = true from hs) Bool.false_ne_true
  | bl i =>
    cases rx
    cases y with
    | non => cases ry; exact PySem.EqNone.ne_bool_none (fin_bl I q (by simp))
    | bl j => cases ry; exact ne_bool (fin_bl I q (congrArg not dec_bl))
    | str j => obtain ⟨t', rfl⟩ := ry; exact PySem.EqMixed.ne_bool_str (fin_bl I q (by simp))
    | _ => exact absurd (show false = true from hs) Bool.false_ne_true
  | int i =>
    obtain ⟨t, rfl⟩ := rx
    cases y with
    | non => cases ry; exact PySem.EqNone.ne_int_none (fin_bl I q (by simp))
    | int j => obtain ⟨t', rfl⟩ := ry; exact ne_int (fin_bl I q (congrArg not dec_int))
    | str j => obtain ⟨t', rfl⟩ := ry; exact PySem.EqMixed.ne_int_str (fin_bl I q (by simp))
    | _ => exact absurd (show false = true from hs) Bool.false_ne_true
  | str i =>
    obtain ⟨t, rfl⟩ := rx
    cases y with
    | non => cases ry; exact PySem.EqNone.ne_str_none (fin_bl I q (by simp))
    | bl j => cases ry; exact PySem.EqMixed.ne_str_bool (fin_bl I q (by simp))
    | int j => obtain ⟨t', rfl⟩ := ry; exact PySem.EqMixed.ne_str_int (fin_bl I q (by simp))
    | str j => obtain ⟨t', rfl⟩ := ry; exact ne_str (fin_bl I q (congrArg not dec_str))
    | _ => exact absurd (show false = true from hs) Bool.false_ne_true
  | byt i =>
    obtain ⟨t, rfl⟩ := rx
    cases y with
    | byt j => obtain ⟨t', rfl⟩ := ry; exact PySem.W.ne_bytes (fin_bl I q (congrArg not dec_byt))
    | _ => exact absurd (show false = true from hs) Bool.false_ne_true
  | _ => cases y <;> exact absurd (show false = true from hs) Bool.false_ne_true
theorem op_lt : OpR X (compareOp .Lt) (rI0 fun i j => .bl (decide (i < j))) := opB0 fun _ _ _ _ _ _ _ q => lt_int q
theorem op_le : OpR X (compareOp .LtE) (rI0 fun i j => .bl (decide (i ≤ j))) := opB0 fun _ _ _ _ _ _ _ q => le_int q
theorem op_gt : OpR X (compareOp .Gt) (rI0 fun i j => .bl (decide (j < i))) := opB0 fun _ _ _ _ _ _ _ q => gt_int q
theorem op_ge : OpR X (compareOp .GtE) (rI0 fun i j => .bl (decide (j ≤ i))) := opB0 fun _ _ _ _ _ _ _ q => ge_int q
theorem nomark (b : Expr) {op : CmpOp} (h : op ≠ .In := by decide) (h2 : op ≠ .NotIn := by decide) : behindInMarks op b = false := by
  have e1 : (op == CmpOp.In) = false := by cases op <;> first | rfl | exact absurd rfl h
  have e2 : (op == CmpOp.NotIn) = false := by cases op <;> first | rfl | exact absurd rfl h2
  cases b <;> simp [behindInMarks, e1, e2]
theorem pe_cmpR {op : CmpOp} {r : R2} (ho : OpR X (compareOp op) r) (ha : PE X a ta) (hb : PE X b tb) (hm : behindInMarks op b = false) : PE X (.Compare a [op] [b] pos) (tOp r ta tb) := by
  intro pins s σ H Q I h
  exact wpAny_Compare1 (binT ha hb I h fun v u s2 x y H2 I2 rx ry q => ho pins s2 σ H2 x y v u Q I2 rx ry q) hm
def tTest (t : TE) : TT := fun σ H Q => t σ H fun x H' => ∃ k, x = .bl k ∧ Q k H'
theorem pt_cmpR {op : CmpOp} {r : R2} (ho : OpR X (compareOp op) r) (ha : PE X a ta) (hb : PE X b tb) (hm : behindInMarks op b = false) : PT X (.Compare a [op] [b] pos) (tTest (tOp r ta tb)) := by
  intro pins s σ H Q I h
  refine wpAny_isTrue_Compare1 (thn (ha pins s σ H _ I h) fun v s1 ⟨x, H1, I1, r1, q1⟩ => thn (hb pins s1 σ H1 _ I1 q1) fun u s2 ⟨y, H2, I2, r2, q2⟩ =>
    thn (ho pins s2 σ H2 x y v u _ I2 r1 r2 q2) fun c s3 ⟨z, H3, I3, r3, k, e, q3⟩ => ?_) hm
  subst e
  cases r3
  exact wpAny_truthy_bool ⟨H3, I3, q3⟩
def tChain (r r' : R2) (ta tb tc : TE) : TE := fun σ H Q => ta σ H fun x H1 => tb σ H1 fun y H2 => r x y H2 fun z H3 => ∃ k, z = .bl k ∧
  (if k = true then tc σ H3 fun w' H4 => r' y w' H4 Q else Q (.bl false) H3)
theorem pe_chain {op op' : CmpOp} {r r' : R2} (ho : OpR X (compareOp op) r) (ho' : OpR X (compareOp op') r') (ha : PE X a ta) (hb : PE X b tb) (hc : PE X c tc)
    (hm : lastMarks [op, op'] [b, c] = false := by with_unfolding_all rfl) : PE X (.Compare a [op, op'] [b, c] pos) (tChain r r' ta tb tc) := by
  intro pins s σ H Q I h
  refine Compare_chain (thn (ha pins s σ H _ I h) fun v s1 ⟨x, H1, I1, r1, q1⟩ => chain_link (thn (hb pins s1 σ H1 _ I1 q1) fun u s2 ⟨y, H2, I2, r2, q2⟩ =>
    thn (ho pins s2 σ H2 x y v u _ I2 r1 r2 q2) fun d s3 ⟨z, H3, I3, r3, k, e, q3⟩ => ?_)) hm
  subst e
  cases r3
  refine wpAny_truthy_bool ?_
  cases k with
  | false => exact ite_ff ⟨.bl false, H3, I3, rfl, q3⟩
  | true => exact ite_tt (chain_last (thn (hc pins s3 σ H3 _ I3 q3) fun w' s4 ⟨z', H4, I4, r4, q4⟩ => ho' pins s4 σ H4 y z' u w' Q I4 r2 r4 q4))
theorem pt_chain {op op' : CmpOp} {r r' : R2} (ho : OpR X (compareOp op) r) (ho' : OpR X (compareOp op') r') (ha : PE X a ta) (hb : PE X b tb) (hc : PE X c tc)
    (hm : lastMarks [op, op'] [b, c] = false := by with_unfolding_all rfl) : PT X (.Compare a [op, op'] [b, c] pos) (tTest (tChain r r' ta tb tc)) := by
  intro pins s σ H Q I h
  refine isTrue_chain (thn (ha pins s σ H _ I h) fun v s1 ⟨x, H1, I1, r1, q1⟩ => test_link (thn (hb pins s1 σ H1 _ I1 q1) fun u s2 ⟨y, H2, I2, r2, q2⟩ =>
    thn (ho pins s2 σ H2 x y v u _ I2 r1 r2 q2) fun d s3 ⟨z, H3, I3, r3, k, e, q3⟩ => ?_)) hm
  subst e
  cases r3
  refine wpAny_truthy_bool ?_
  cases k with
  | false =>
    obtain ⟨k', e', q'⟩ := q3
    cases e'
    exact ite_ff ⟨H3, I3, q'⟩
  | true =>
    refine ite_tt (test_last (thn (hc pins s3 σ H3 _ I3 q3) fun w' s4 ⟨z', H4, I4, r4, q4⟩ => thn (ho' pins s4 σ H4 y z' u w' _ I4 r2 r4 q4) fun d' s5 ⟨z2, H5, I5, r5, k2, e2, q5⟩ => ?_))
    subst e2
    cases r5
    exact wpAny_truthy_bool ⟨H5, I5, q5⟩
theorem line63 : (sizeLine : Nat) < 2 ^ 63 := by rw [sizeLine_eq]; decide
theorem vals1 {x : V} {us : List Value} (r : Vals [x] us) : ∃ u, us = [u] ∧ RelV x u := by
  cases r with
  | cons r1 r2 => cases r2; exact ⟨_, rfl, r1⟩
theorem vals2 {x y : V} {us : List Value} (r : Vals [x, y] us) : ∃ u w', us = [u, w'] ∧ RelV x u ∧ RelV y w' := by
  cases r with
  | cons r1 r2 =>
    cases r2 with
    | cons r3 r4 => cases r4; exact ⟨_, _, rfl, r1, r3⟩
theorem call_abs : CallR X (.builtin "abs") (fun xs H Q => ∃ i, xs = [.int i] ∧ Q (.int (if i < 0 then -i else i)) H) := by
  intro pins s σ H xs us Q I r h
  obtain ⟨i, rfl, q⟩ := h
  obtain ⟨u, rfl, t, rfl⟩ := vals1 r
  exact call_abs_int fun u tk => ⟨.int (if i < 0 then -i else i), H, I.tok _, ⟨_, rfl⟩, q⟩
end
end L2
namespace L2
open PySem PySem.Spec PyProof.Rows
structure ObjM (h : Heap) (x dx C : Addr) (mA : Str → Option Value) : Prop where
  obj : h.get? x = some (PySem.W.instObj C dx)
  ns : h.Ns1 dx mA
  ne : dx ≠ x
theorem lookIn_ns {h : Heap} {dx : Addr} {mA : Str → Option Value} (n : h.Ns1 dx mA) : ∃ od, h.get? dx = some od ∧ ∀ name, PySem.W.lookIn name od = some (mA name) := by
  obtain ⟨o, es, ep, ho, hd, hk, _, hm⟩ := n
  refine ⟨o, ho, fun name => ?_⟩
  have e := hm name
  unfold nsFind findBy at e
  rw [← Array.find?_toList] at e
  unfold PySem.W.lookIn
  rw [hd]
  dsimp only
  split
  · rename_i y q
    rw [q] at e
    exact congrArg some e
  · rename_i q
    rw [q] at e
    have a : es.toList.any (·.refKey) = false := by
      rw [List.any_eq_false]
      intro y hy
      obtain ⟨z, t, hkey⟩ := hk y (Array.mem_toList_iff.mp hy)
      simp [DictEntry.refKey, hkey]
    have a' : ¬ es.toList.any (·.refKey) = true := by rw [a]; exact Bool.false_ne_true
    rw [if_neg a']
    exact congrArg some e
theorem ObjM.look {h : Heap} {x dx C : Addr} {mA : Str → Option Value} (I : ObjM h x dx C mA) : ∃ od, PySem.W.InstAt h x (PySem.W.instObj C dx) C (some od) ∧ ∀ name, PySem.W.lookIn name od = some (mA name) :=
  let ⟨od, ho, hl⟩ := lookIn_ns I.ns
  ⟨od, ⟨I.obj, rfl, rfl, ho⟩, hl⟩
section
variable {prog : Program} {w : World} {A : Around} {E : Value → Shared → Prop} {s : Shared} {K : PySem.W.Frag} {x dx C f : Addr} {mA : Str → Option Value} {name : Str} {v : Value}
theorem get_map {expr : Bool} {Q : Value → Shared → Prop} (X : K.In s.heap) (I : ObjM s.heap x dx C mA) (hg : PySem.W.plainGet K C name = true) (hh : PySem.W.hasDictIn K C = true)
    (ha : PySem.W.findIn K (.ref C) name = some none) (hv : mA name = some v) (hv' : PySem.W.handedIn v = true) (h : Q v { s with toks := s.toks + 1 }) :
    wpAny (model prog w) A (getAttr (.ref x) name expr) Q E s := by
  obtain ⟨od, J, hl⟩ := I.look
  exact PySem.W.get_value X J (PySem.W.plainGet_of hg).1 (PySem.W.findObj_own hh ha rfl (by rw [hl, hv])) hv' h
theorem get_meth {pl : Sem Bool} {Q : Value × List Value → Shared → Prop} (X : K.In s.heap) (I : ObjM s.heap x dx C mA) (hg : PySem.W.plainGet K C name = true)
    (hf : PySem.W.findIn K (.ref C) name = some (some (.ref f))) (ht : PySem.W.isFn K (.ref f) = true) (hv : mA name = none) (h : Q (.ref f, [.ref x]) s) :
    wpAny (model prog w) A (getMethod (.ref x) name pl) Q E s := by
  obtain ⟨od, J, hl⟩ := I.look
  exact PySem.W.method_fn X J (PySem.W.plainGet_of hg).1 (PySem.W.plainGet_of hg).2 hf (beq_iff_eq.mp ht) (by show (PySem.W.lookIn name od).map (·.isSome) = some false; rw [hl, hv]; rfl) h
theorem set_map {ns : List Str} {Q : Unit → Shared → Prop} (X : K.In s.heap) (I : ObjM s.heap x dx C mA)
    (hs : PySem.W.findIn K (.ref C) "__setattr__" = some (some (.builtin "object.__setattr__"))) (hp : PySem.W.plainOver K C = true) (ht : PySem.W.takerIn K C name = some none) (hh : PySem.W.hasDictIn K C = true)
    (hw : PySem.Within mA ns) (hsz : ns.length ≤ sizeLine)
    (h : ∀ h', ObjM h' x dx C (fun y => if y = name then some v else mA y) → Heap.SameBut dx s.heap h' → Q () { s with heap := h', toks := s.toks + 2 }) :
    wpAny (model prog w) A (setAttr (.ref x) name v) Q E s := by
  obtain ⟨od, J, hl⟩ := I.look
  refine PySem.W.set_plain X J hs (PySem.W.osa_open (s := { s with toks := s.toks + 1 }) (r := none) X J hp ht fun b => ?_)
  obtain ⟨cd, hc, hd'⟩ := PySem.W.any_some hh
  have hx : s.heap.get? x = some ⟨.ref C, some dx, .plain, #[]⟩ := I.obj
  refine wpAny_bind (wpAny_pure (wpAny_bind (wpAny_bind (wpAny_loadPart hx (wpAny_bind (PySem.W.Looks.here (s := { s with toks := s.toks + 1 }) (PySem.W.looks_clsIn X hc) ?_))))))
  rw [hd']
  refine wpAny_pure (a := some dx) (wpAny_bind (wpAny_pure (wpAny_bind ?_)))
  refine wpAny_nsSet1 (s := { s with toks := s.toks + 1 }) I.ns fun h' hn2 hs2 => ?_
  obtain ⟨oD, esD, epD, hoD, hdD, hcD⟩ := hn2.count (PySem.Within.cons name v hw)
  refine wpAny_bind (wpAny_lookBehind hoD (by rw [hdD]; exact pastItsLine_dict (Nat.le_trans hcD (by rw [List.length_cons]; omega))) ?_)
  exact wpAny_pure (h _ ⟨(hs2.2 _ (Ne.symm I.ne)).trans I.obj, hn2, I.ne⟩ hs2)
theorem make_map {R : Result → Shared → Prop} {vs : List Value} {kw : List (Str × Value)} (X : K.In s.heap) (hm : PySem.W.makesIn K C = true)
    (hi : PySem.W.findIn K (.ref C) "__init__" = some (some (.ref f))) (hf : PySem.W.typeIn K (.ref f) = some (.type "function"))
    (h : codeAny (model prog w) (A.under (.builtin "type.__call__" ⟨.ref C :: vs, kw⟩)) (.call (.ref f) ⟨.ref (s.heap.objs.size + 1) :: vs, kw⟩) (PySem.W.InitBack (s.heap.objs.size + 1) R)
      { s with heap := (s.heap.push PySem.W.emptyDict).push (PySem.W.instObj C s.heap.objs.size) }) :
    codeAny (model prog w) A (.call (.ref C) ⟨vs, kw⟩) R s := by
  obtain ⟨hh, g, d, t, os⟩ := s
  exact PySem.W.make_core (PySem.W.makes_of X hm) (PySem.W.looks_findIn X hi) (fun self => PySem.W.bind_fn X self hf) (.inl rfl) h
end
def putF (f : Str) (v : V) : List (Str × V) → List (Str × V)
  | [] => [(f, v)]
  | (g, x) :: r => if g = f then (g, v) :: r else (g, x) :: putF f v r
theorem lookup_putF (f g : Str) (v : V) : ∀ fs : List (Str × V), (putF f v fs).lookup g = if g = f then some v else fs.lookup g
  | [] => by
    show List.lookup g [(f, v)] = _
    by_cases h : g = f
    · have hb : (g == f) = true := beq_iff_eq.mpr h
      simp only [List.lookup, hb, if_pos h]
    · have hb : (g == f) = false := beq_eq_false_iff_ne.mpr h
      simp only [List.lookup, hb, if_neg h]
  | (k, x) :: r => by
    have ih := lookup_putF f g v r
    rw [show putF f v ((k, x) :: r) = (if k = f then (k, v) :: r else (k, x) :: putF f v r) from rfl]
    by_cases hk : k = f
    · rw [if_pos hk]
      by_cases h : g = k
      · have hb : (g == k) = true := beq_iff_eq.mpr h
        simp only [List.lookup, hb, if_pos (h.trans hk)]
      · have hb : (g == k) = false := beq_eq_false_iff_ne.mpr h
        simp only [List.lookup, hb, if_neg (fun e : g = f => h (e.trans hk.symm))]
    · rw [if_neg hk]
      by_cases h : g = k
      · have hb : (g == k) = true := beq_iff_eq.mpr h
        simp only [List.lookup, hb, if_neg (fun e : g = f => hk (h.symm.trans e))]
      · have hb : (g == k) = false := beq_eq_false_iff_ne.mpr h
        simp only [List.lookup, hb]
        exact ih
theorem keys_putF (f : Str) (v : V) : ∀ fs : List (Str × V), f ∈ (putF f v fs).map (·.1) ∧ ∀ g, g ∈ fs.map (·.1) → g ∈ (putF f v fs).map (·.1)
  | [] => ⟨by simp [putF], fun g h => by simp at h⟩
  | (k, x) :: r => by
    obtain ⟨i1, i2⟩ := keys_putF f v r
    rw [show putF f v ((k, x) :: r) = (if k = f then (k, v) :: r else (k, x) :: putF f v r) from rfl]
    by_cases hk : k = f
    · rw [if_pos hk]
      subst hk
      exact ⟨by simp, fun g h => by simpa using h⟩
    · rw [if_neg hk]
      refine ⟨?_, fun g h => ?_⟩
      · rw [List.map_cons]
        exact List.mem_cons_of_mem _ i1
      · rw [List.map_cons] at h ⊢
        rcases List.mem_cons.mp h with e | e
        · exact List.mem_cons.mpr (.inl e)
        · exact List.mem_cons_of_mem _ (i2 g e)
theorem length_putF (f : Str) (v : V) : ∀ fs : List (Str × V), (putF f v fs).length ≤ fs.length + 1
  | [] => by simp [putF]
  | (k, x) :: r => by
    have ih := length_putF f v r
    rw [show putF f v ((k, x) :: r) = (if k = f then (k, v) :: r else (k, x) :: putF f v r) from rfl]
    by_cases hk : k = f
    · rw [if_pos hk, List.length_cons, List.length_cons]; omega
    · rw [if_neg hk, List.length_cons, List.length_cons]; omega
theorem RelO.some_of {v : V} {o : Option Value} (r : RelO (some v) o) : ∃ u, o = some u ∧ RelV v u := by
  cases o with
  | none => exact (show False from r).elim
  | some u => exact ⟨u, rfl, r⟩
theorem RelO.none_of {o : Option Value} (r : RelO none o) : o = none := by
  cases o with
  | none => rfl
  | some u => exact (show False from r).elim
theorem handed_of {v : V} {u : Value} (r : RelV v u) : PySem.W.handedIn u = true := by
  cases v with
  | non => cases (show u = Value.none from r); rfl
  | bl b => cases (show u = Value.bool b from r); rfl
  | int i => obtain ⟨t, e⟩ := (show ∃ t, u = Value.int i t from r); cases e; rfl
  | str x => obtain ⟨t, e⟩ := (show ∃ t, u = Value.str x t from r); cases e; rfl
  | byt b => obtain ⟨t, e⟩ := (show ∃ t, u = Value.bytes b t from r); cases e; rfl
  | flt b => obtain ⟨t, e⟩ := (show ∃ t, u = Value.float b t from r); cases e; rfl
  | ref a => cases (show u = Value.ref a from r); rfl
  | ty n => cases (show u = Value.type n from r); rfl
section
variable {P : Program} {w : World} {H H' : Hp} {h h' : Heap} {a C dx : Addr} {fs fs' : List (Str × V)}
theorem ins_get (hok : HOk P w H h) (e : H a = some (.ins C dx fs)) : ∃ mA, ObjM h a dx C mA ∧ (∀ f, RelO (fs.lookup f) (mA f)) ∧ PySem.Within mA (fs.map (·.1)) ∧ fs.length ≤ 1000 ∧ H dx = some (.own a) := by
  obtain ⟨d, z, ne, ob, mA, n, r, q⟩ := (show ObjOk P w H h a (.ins C dx fs) from hok a _ e)
  exact ⟨mA, ⟨ob, n, ne⟩, r, q, z, d⟩
end
structure Cls (K : PySem.W.Frag) (C : Addr) : Prop where
  pg : PySem.W.plainGet K C Str.empty = true
  hd : PySem.W.hasDictIn K C = true
  po : PySem.W.plainOver K C = true
  sa : PySem.W.findIn K (.ref C) "__setattr__" = some (some (.builtin "object.__setattr__"))
theorem Cls.get {K : PySem.W.Frag} {C : Addr} (c : Cls K C) (f : Str) : PySem.W.plainGet K C f = true := c.pg
def NoAttr (K : PySem.W.Frag) (C : Addr) (f : Str) : Prop := PySem.W.findIn K (.ref C) f = some none
theorem NoAttr.taker {K : PySem.W.Frag} {C : Addr} {f : Str} (n : NoAttr K C f) : PySem.W.takerIn K C f = some none := by
  unfold PySem.W.takerIn
  rw [show PySem.W.findIn K (.ref C) f = some none from n]
  rfl
structure Meth (K : PySem.W.Frag) (C : Addr) (m : Str) (f : Addr) : Prop where
  at_ : PySem.W.findIn K (.ref C) m = some (some (.ref f))
  fn : PySem.W.isFn K (.ref f) = true
  kp : PySem.W.keepIn K (.ref f) = true
section
variable {X : Cx} {pins : List (Addr × Obj)} {σ : St} {H : Hp} {s : Shared} {a C dx : Addr} {fs : List (Str × V)} {f : Str} {v : V} {A : Around} {E : Value → Shared → Prop}
theorem getattr_ok {b : Bool} {Q : Value → Shared → Prop} (I : Inv X pins σ H s) (e : H a = some (.ins C dx fs)) (c : Cls X.K C) (n : NoAttr X.K C f) (l : fs.lookup f = some v)
    (h : ∀ u s', Inv X pins σ H s' → RelV v u → Q u s') : wpAny (model X.prog X.w) A (getAttr (.ref a) f b) Q E s := by
  obtain ⟨mA, O, r, _, _, _⟩ := ins_get I.hok e
  obtain ⟨u, hu, ru⟩ := RelO.some_of (v := v) (o := mA f) (by rw [← l]; exact r f)
  exact get_map I.kIn O (c.get f) c.hd n hu (handed_of ru) (h u _ (I.tok _) ru)
theorem getmeth_ok {m : Str} {g : Addr} {pl : Sem Bool} {Q : Value × List Value → Shared → Prop} (I : Inv X pins σ H s) (e : H a = some (.ins C dx fs)) (c : Cls X.K C) (k : Meth X.K C m g) (l : fs.lookup m = none)
    (h : Q (.ref g, [.ref a]) s) : wpAny (model X.prog X.w) A (getMethod (.ref a) m pl) Q E s := by
  obtain ⟨mA, O, r, _, _, _⟩ := ins_get I.hok e
  have hn : mA m = none := RelO.none_of (by rw [← l]; exact r m)
  exact get_meth I.kIn O (c.get m) k.at_ k.fn hn h
theorem setattr_ok {y : V} {u : Value} {Q : Unit → Shared → Prop} (I : Inv X pins σ H s) (e : H a = some (.ins C dx fs)) (c : Cls X.K C) (n : NoAttr X.K C f) (hl : fs.length < 1000) (ry : RelV y u)
    (h : ∀ s', Inv X pins σ (upd H a (.ins C dx (putF f y fs))) s' → Q () s') : wpAny (model X.prog X.w) A (setAttr (.ref a) f u) Q E s := by
  obtain ⟨mA, O, r, wi, _, ho⟩ := ins_get I.hok e
  have hz : (fs.map (·.1)).length ≤ sizeLine := by rw [List.length_map, sizeLine_eq]; omega
  refine set_map I.kIn O c.sa c.po n.taker c.hd wi hz fun h' O' sb => h _ ?_
  have hd : ∃ o, h'.get? dx = some o := let ⟨o, _, _, e', _⟩ := O'.ns; ⟨o, e'⟩
  refine I.write (x := a) (e := dx) (by rw [e]; exact True.intro) (.inr ho) (fun b q hb z => (sb.2 b hb).trans z) hd ?_
  refine ⟨by rw [upd_ne O.ne]; exact ho, ?_, O.ne, O'.obj, _, O'.ns, fun g => ?_, fun g hg => ?_⟩
  · have := length_putF f y fs; omega
  · show RelO ((putF f y fs).lookup g) (if g = f then some u else mA g)
    rw [lookup_putF]
    by_cases q : g = f
    · rw [if_pos q, if_pos q]; exact ry
    · rw [if_neg q, if_neg q]; exact r g
  · by_cases q : g = f
    · rw [q]; exact (keys_putF f y fs).1
    · refine (keys_putF f y fs).2 g (wi g fun z => hg ?_)
      show (if g = f then some u else mA g) = none
      rw [if_neg q]; exact z
theorem Inv.made (I : Inv X pins σ H s) : Inv X pins σ (upd (upd H s.heap.objs.size (.own (s.heap.objs.size + 1))) (s.heap.objs.size + 1) (.ins C s.heap.objs.size []))
    { s with heap := (s.heap.push PySem.W.emptyDict).push (PySem.W.instObj C s.heap.objs.size) } := by
  have e1 : (s.heap.push PySem.W.emptyDict).get? s.heap.objs.size = some PySem.W.emptyDict := Heap.get?_push_size s.heap rfl
  have e2 : ((s.heap.push PySem.W.emptyDict).push (PySem.W.instObj C s.heap.objs.size)).get? (s.heap.objs.size + 1) = some (PySem.W.instObj C s.heap.objs.size) := by
    have := Heap.get?_push_size (s.heap.push PySem.W.emptyDict) (o := PySem.W.instObj C s.heap.objs.size) rfl
    rwa [Heap.size_push] at this
  have e3 : (s.heap.push PySem.W.emptyDict).Ns s.heap.objs.size (fun _ => none) := ⟨PySem.W.emptyDict, #[], _, e1, rfl, (fun e he => absurd he (by simp)), fun _ => rfl⟩
  have I1 := I.laid (a := s.heap.objs.size) (o := .own (s.heap.objs.size + 1)) (h' := s.heap.push PySem.W.emptyDict) (t' := s.toks) (fun b u q => Heap.get?_push_of_some _ q) (Nat.le_refl _) ⟨_, e1⟩
  refine I1.laid (a := s.heap.objs.size + 1) (o := .ins C s.heap.objs.size []) (t' := s.toks) (fun b u q => Heap.get?_push_of_some _ q) (Nat.le_of_eq (Heap.size_push _ _)) ?_
  have ne : s.heap.objs.size ≠ s.heap.objs.size + 1 := Nat.ne_of_lt (Nat.lt_succ_self _)
  refine ⟨by rw [upd_ne ne, upd_same], Nat.zero_le _, ne, e2, fun _ => none, (Heap.Ns1.of_empty e3).at fun o q => Heap.get?_push_of_some _ q, fun _ => True.intro, fun y hy => absurd rfl hy⟩
theorem attr_of {prog : Program} {w : World} {env : Env} {e : Expr} {f : Str} {pos : Pos} {s : Shared} {Q : Value → Shared → Prop} (hb : attributeBase e f env (eval e env) = eval e env)
    (h : wpAny (model prog w) A (eval e env) (fun o s₁ => wpAny (model prog w) A (getAttr o f true) Q E s₁) E s) : wpAny (model prog w) A (eval (.Attribute e f pos) env) Q E s :=
  Attribute_any_ h (by rw [arm_eval_Attribute, hb])
end
def tFld (K : PySem.W.Frag) (ta : TE) (f : Str) : TE := fun σ H Q => ta σ H fun x H1 => ∃ a C dx fs v, x = .ref a ∧ H1 a = some (.ins C dx fs) ∧ Cls K C ∧ NoAttr K C f ∧ fs.lookup f = some v ∧ Q v H1
def sFld (K : PySem.W.Frag) (ta tv : TE) (f : Str) : TS := fun D σ H => tv σ H fun y H1 => ta σ H1 fun x H2 => ∃ a C dx fs, x = .ref a ∧ H2 a = some (.ins C dx fs) ∧ Cls K C ∧ NoAttr K C f ∧ fs.length < 1000 ∧
  D.nx σ (upd H2 a (.ins C dx (putF f y fs)))
section
variable {X : Cx} {o e value : Expr} {f : Str} {pos pos' tpos : Pos} {ta tv : TE}
theorem pe_fld (he : PE X e ta) (hb : attributeBase e f X.env (eval e X.env) = eval e X.env) : PE X (.Attribute e f pos) (tFld X.K ta f) := by
  intro pins s σ H Q I h
  refine attr_of hb (thn (he pins s σ H _ I h) fun u s1 ⟨x, H1, I1, rx, a, C, dx, fs, v, ex, ea, c, n, l, q⟩ => ?_)
  subst ex
  obtain rfl : u = Value.ref a := rx
  exact getattr_ok I1 ea c n l fun u' s2 I2 ru => ⟨v, H1, I2, ru, q⟩
theorem ps_fld (ha : PE X o ta) (hv : PE X value tv) (hs : swapsWith value (some (.Attribute o f pos')) pos.line X.env = pure false) : PS X (.Assign [.Attribute o f pos'] value pos) (sFld X.K ta tv f) := by
  intro pins s σ H D I h
  refine plainObj_wpAny_Assign_Attribute (thn (hv pins s σ H _ I h) fun u s1 ⟨y, H1, I1, ry, q⟩ => thn (ha pins s1 σ H1 _ I1 q) fun ov s2 ⟨x, H2, I2, rx, a, C, dx, fs, ex, ea, c, n, l, q2⟩ => ?_) hs
  subst ex
  obtain rfl : ov = Value.ref a := rx
  exact setattr_ok I2 ea c n l ry fun s3 I3 => ⟨σ, _, I3, q2⟩
theorem methcall_of {pl : Sem Bool} {m : Str} {apos : Pos} {args : List Expr} {pins : List (Addr × Obj)} {s : Shared} {σ : St} {H : Hp} {Q : Value → Shared → Prop} {te : TE} (he : PE X e te) (I : Inv X pins σ H s)
    (h : te σ H fun x H1 => ∃ a C dx fs g, x = .ref a ∧ H1 a = some (.ins C dx fs) ∧ Cls X.K C ∧ Meth X.K C m g ∧ fs.lookup m = none ∧
      ∀ s1, Inv X pins σ H1 s1 → wpAny (model X.prog X.w) X.A (callWith pos (.ref g) [.ref a] (backTo pos (starEach args X.env)) (backToKw pos (keywordEach [] X.env))) Q X.xe s1)
    (ht : eval (.Call (.Attribute e m apos) args [] pos) X.env = (do
      let ov ← eval e X.env
      standAt apos.atName
      let (f, first) ← holding [ov] (getMethod ov m pl)
      callWith pos f first (backTo pos (starEach args X.env)) (backToKw pos (keywordEach [] X.env)))) :
    wpAny (model X.prog X.w) X.A (eval (.Call (.Attribute e m apos) args [] pos) X.env) Q X.xe s := by
  refine PySem.W.methodCall_KW (pl := pl) (thn (he pins s σ H _ I h) fun u s1 ⟨x, H1, I1, rx, a, C, dx, fs, g, ex, ea, c, k, l, q⟩ => ?_) ht
  subst ex
  obtain rfl : u = Value.ref a := rx
  exact getmeth_ok I1 ea c k l (q s1 I1)
end
end L2
namespace L2
open PySem PySem.Spec PyProof.Rows
structure Room (k : Nat) (A : Around) : Prop where
  hd : A.handled = none
  dp : A.depth + 3 * k + 5 < recursionLimit
  un : A.units + 16 * k + 200 < cLine
theorem Room.mono {j k : Nat} {A : Around} (r : Room k A) (h : j ≤ k) : Room j A := ⟨r.hd, by have := r.dp; omega, by have := r.un; omega⟩
theorem Room.deeper {k : Nat} {A : Around} (r : Room (k + 1) A) (env : Env) : Room k (A.deeper env) :=
  ⟨r.hd, by have := r.dp; show A.depth + 1 + 3 * k + 5 < _; omega, by have := r.un; show A.units + 3 + 16 * k + 200 < _; omega⟩
theorem make_depth {A : Around} {C : Addr} {us : List Value} {kw : List (Str × Value)} : (A.under (.builtin "type.__call__" ⟨.ref C :: us, kw⟩)).depth = A.depth + 1 := by
  first | rfl | simp [Around.under, Code.weight, Code.isCreation, Code.isGuard, Code.isCaller, Code.frames, Code.isFrame, guardIds]
theorem make_units {A : Around} {C : Addr} {us : List Value} {kw : List (Str × Value)} : (A.under (.builtin "type.__call__" ⟨.ref C :: us, kw⟩)).units = A.units + 1 := by
  first | rfl | simp [Around.under, Code.cUnits, Code.frames, Code.isFrame]
theorem Room.make {k : Nat} {A : Around} (r : Room (k + 1) A) (C : Addr) (us : List Value) (kw : List (Str × Value)) : Room k (A.under (.builtin "type.__call__" ⟨.ref C :: us, kw⟩)) :=
  ⟨r.hd, by have := r.dp; rw [make_depth]; omega, by have := r.un; rw [make_units]; omega⟩
theorem Room.depth {k : Nat} {A : Around} (r : Room k A) : A.depth < recursionLimit := by have := r.dp; omega
theorem Room.units {k : Nat} {A : Around} (r : Room k A) : A.units + 64 < cLine := by have := r.un; omega
def tNil : TA := fun _ H Q => Q [] H
def tCons (ta : TE) (tr : TA) : TA := fun σ H Q => ta σ H fun x H1 => tr σ H1 fun xs H2 => Q (x :: xs) H2
section
variable {X : Cx} {e : Expr} {es : List Expr} {te : TE} {t : TA} {pos : Pos}
theorem pa_nil : PA X [] tNil := fun _ _ _ _ H Q I h => Calls.spliced_nil ⟨[], H, I, .nil, h⟩
theorem pa_cons (ha : PE X e te) (hr : PA X es t) (hs : starEach (e :: es) X.env = (false, eval e X.env) :: starEach es X.env := by rfl) : PA X (e :: es) (tCons te t) := by
  intro pos pins s σ H Q I h
  rw [hs]
  show wpAny _ _ (spliced ((false, eval e X.env) :: backTo pos (starEach es X.env))) _ _ s
  refine Calls.spliced_cons (thn (ha pins s σ H _ I h) fun u s1 ⟨x, H1, I1, r1, q1⟩ => ?_)
  exact thn (hr pos pins s1 σ H1 _ I1 q1) fun us s2 ⟨xs, H2, I2, r2, q2⟩ => ⟨x :: xs, H2, I2, .cons r1 r2, q2⟩
def tTup (t : TA) : TE := fun σ H Q => t σ H fun xs H1 => xs.length ≤ sizeLine ∧ ∀ p, H1 p = none → Q (.ref p) (upd H1 p (.tup xs))
def tLst (t : TA) : TE := fun σ H Q => t σ H fun xs H1 => xs.length ≤ sizeLine ∧ ∀ p, H1 p = none → Q (.ref p) (upd H1 p (.lst xs))
theorem pe_tup {x1} (h : PA X es t) : PE X (.Tuple es x1 pos) (tTup t) := by
  intro pins s σ H Q I hq
  refine wpAny_Tuple_spliced (thn (h pos pins s σ H _ I hq) fun us s1 ⟨xs, H1, I1, r, z, q⟩ => ⟨by rw [← r.length]; exact z, ?_⟩)
  have hf : H1 s1.heap.objs.size = none := I1.hok.fresh (Nat.le_refl _)
  refine ⟨.ref s1.heap.objs.size, upd H1 s1.heap.objs.size (.tup xs), I1.laid (t' := s1.toks) (fun b u e => Heap.get?_push_of_some _ e) (Nat.le_refl _) ?_, rfl, q _ hf⟩
  exact ⟨z, us, r, ⟨_, Heap.get?_push_size _ rfl, rfl, _, rfl⟩⟩
theorem pe_lst (h : PA X es t) : PE X (.List es pos) (tLst t) := by
  intro pins s σ H Q I hq
  refine wpAny_List_spliced (thn (h pos pins s σ H _ I hq) fun us s1 ⟨xs, H1, I1, r, z, q⟩ => ⟨by rw [← r.length]; exact z, ?_⟩)
  have hf : H1 s1.heap.objs.size = none := I1.hok.fresh (Nat.le_refl _)
  refine ⟨.ref s1.heap.objs.size, upd H1 s1.heap.objs.size (.lst xs), I1.laid (t' := s1.toks) (fun b u e => Heap.get?_push_of_some _ e) (Nat.le_refl _) ?_, rfl, q _ hf⟩
  exact ⟨z, us, 0, r, Heap.get?_push_size _ rfl⟩
end
abbrev Sp := List V → Hp → VK → XK → Prop
abbrev CXT := List Env → Hp → Shared → XK → Value → Shared → Prop
structure Env0 (P : Program) (w : World) (K : PySem.W.Frag) (mg : Str → Option Value) (base : Heap) (A : Around) (outer : List Env) (s : Shared) (H : Hp) : Prop where
  frames : A.frames = some outer
  mod : Mod K mg base
  bs : ∀ b o, base.get? b = some o → s.heap.get? b = some o ∧ H b = none
  bsz : base.objs.size ≤ s.heap.objs.size
  funs : s.heap.FunFrames base outer
  frf : ∀ b ∈ frs outer, H b = none
  hok : HOk P w H s.heap
  bare : AllBare s.gens
def CE (outer : List Env) (P : Program) (w : World) (H : Hp) (s : Shared) (Q : VK) (u : Value) (s' : Shared) : Prop :=
  ∃ v H', s'.os = s.os ∧ AllBare s'.gens ∧ Un (frs outer) [] H H' s.heap s'.heap ∧ HOk P w H' s'.heap ∧ RelV v u ∧ Q v H'
def CR (CX : CXT) (outer : List Env) (P : Program) (w : World) (H : Hp) (s : Shared) (Q : VK) (E : XK) (r : Result) (s' : Shared) : Prop :=
  match r with
  | .ok (.ret u) => CE outer P w H s Q u s'
  | .ok _ => False
  | .error e => CX outer H s E e s'
structure FnOk (P : Program) (w : World) (K : PySem.W.Frag) (mg : Str → Option Value) (base : Heap) (CX : CXT) (k : Nat) (f : Addr) (fd : FuncData) (ps : List Str) (sp : Sp) : Prop where
  len : ∀ vs H Q E, sp vs H Q E → vs.length = ps.length
  run : ∀ (A : Around) (outer : List Env) (s : Shared) (H : Hp) (args : Args) (us : List Value) (vs : List V) (Q : VK) (E : XK), Room k A → Env0 P w K mg base A outer s H → BindsTo s fd args (ps.zip us) → Vals vs us → sp vs H Q E →
    codeAny (model P w) A (.call (.ref f) args) (CR CX outer P w H s Q E) s
theorem Env0.make {P : Program} {w : World} {K : PySem.W.Frag} {mg : Str → Option Value} {base : Heap} {A : Around} {outer : List Env} {s : Shared} {H : Hp} (e : Env0 P w K mg base A outer s H) (C : Addr) (us : List Value) (kw : List (Str × Value)) :
    Env0 P w K mg base (A.under (.builtin "type.__call__" ⟨.ref C :: us, kw⟩)) outer s H := ⟨by first | exact e.frames | (simpa [Around.under, Code.envs, Code.isFrame, pushEnvs] using e.frames), e.mod, e.bs, e.bsz, e.funs, e.frf, e.hok, e.bare⟩
section
variable {X : Cx} {pins : List (Addr × Obj)} {σ : St} {H : Hp} {s s' : Shared}
theorem Inv.env0 (I : Inv X pins σ H s) : Env0 X.prog X.w X.K X.mg X.base X.A X.stack s H :=
  ⟨I.ok.frames, I.ok.mod, I.bs, Nat.le_trans I.ok.bsz I.sz, I.stack, I.stkFree, I.hok, I.bare⟩
theorem Inv.after {Q : VK} {u : Value} (I : Inv X pins σ H s) (h : CE X.stack X.prog X.w H s Q u s') : EP X pins σ Q u s' := by
  obtain ⟨v, H', os, bare, un, hok, r, q⟩ := h
  obtain ⟨hh, g, d, t, os'⟩ := s'
  obtain rfl : os' = s.os := os
  exact ⟨v, H', I.call (h' := hh) (g' := g) (d' := d) (t' := t) (ch := []) un hok bare (fun b z => absurd z (by simp)), r, q⟩
end
def tCall (sp : Sp) (dvs : List V) (E : XK) (t : TA) : TE := fun σ H Q => t σ H fun vs H1 => sp (vs ++ dvs) H1 Q E
def tMeth (C : Addr) (m : Str) (sp : Sp) (dvs : List V) (E : XK) (ta : TE) (t : TA) : TE := fun σ H Q => ta σ H fun x H1 => ∃ a dx fs, x = .ref a ∧ H1 a = some (.ins C dx fs) ∧ fs.lookup m = none ∧
  t σ H1 fun vs H2 => sp (x :: (vs ++ dvs)) H2 Q E
def tMake (C : Addr) (sp : Sp) (dvs : List V) (E : XK) (t : TA) : TE := fun σ H Q => t σ H fun vs H1 => ∀ x dx, H1 x = none → H1 dx = none → dx ≠ x →
  sp (.ref x :: (vs ++ dvs)) (upd (upd H1 dx (.own x)) x (.ins C dx [])) (fun v H2 => v = .non ∧ Q (.ref x) H2) E
def Binds (K : PySem.W.Frag) (fd : FuncData) (ps : List Str) (ds : List Value) : Prop :=
  ∀ (s : Shared) (us : List Value), K.In s.heap → (us ++ ds).length = ps.length → BindsTo s fd ⟨us, []⟩ (ps.zip (us ++ ds))
theorem Binds.all {K : PySem.W.Frag} {fd : FuncData} {ps : List Str} (h : ∀ us : List Value, us.length = ps.length → bindArgs fd ⟨us, []⟩ = pure (ps.zip us)) : Binds K fd ps [] := fun s us _ hl => by
  rw [List.append_nil] at hl ⊢
  exact .of_eq (h us hl)
def Passes (CX : CXT) (X : Cx) (E : XK) : Prop := ∀ (pins : List (Addr × Obj)) (σ : St) (H : Hp) (s : Shared) (e : Value) (s' : Shared), Inv X pins σ H s → CX X.stack H s E e s' → X.xe e s'
section
variable {X : Cx} {CX : CXT} {k : Nat} {f C : Addr} {fd : FuncData} {ps : List Str} {sp : Sp} {dvs : List V} {ds : List Value} {E : XK} {x m : Str} {p pos apos : Pos} {e o : Expr} {es : List Expr} {ta : TE} {t : TA}
theorem run_fn {pins : List (Addr × Obj)} {σ : St} {H : Hp} {s : Shared} {Q : VK} {us : List Value} {vs : List V} (F : FnOk X.prog X.w X.K X.mg X.base CX k f fd ps sp) (hr : Room k X.A) (hb : Binds X.K fd ps ds) (hd : Vals dvs ds) (hx : Passes CX X E)
    (I : Inv X pins σ H s) (r : Vals vs us) (h : sp (vs ++ dvs) H Q E) : wpAny (model X.prog X.w) X.A (call (.ref f) us) (EP X pins σ Q) X.xe s := by
  have r2 : Vals (vs ++ dvs) (us ++ ds) := r.append hd
  have hl : (us ++ ds).length = ps.length := by rw [← r2.length]; exact F.len _ _ _ _ h
  refine wpAny_call (codeAny_mono (F.run X.A X.stack s H ⟨us, []⟩ (us ++ ds) (vs ++ dvs) Q E hr I.env0 (hb s us I.kIn hl) r2 h) fun r s' hq => ?_)
  cases r with
  | error e => exact hx pins σ H s e s' I hq
  | ok fl =>
    cases fl with
    | ret u => exact I.after hq
    | next => exact False.elim hq
    | brk => exact False.elim hq
    | cont => exact False.elim hq
theorem pe_call (F : FnOk X.prog X.w X.K X.mg X.base CX k f fd ps sp) (hr : Room k X.A) (hg : Gl X x) (hm : X.mg x = some (.ref f)) (hk : PySem.W.keepIn X.K (.ref f) = true) (hb : Binds X.K fd ps ds) (hd : Vals dvs ds) (hx : Passes CX X E)
    (ha : PA X (e :: es) t) (hdb : (x == ("__debug__" : Str)) = false := by decide) (he : starEach (e :: es) X.env = (false, eval e X.env) :: starEach es X.env := by rfl) (hpl : (backTo pos (starEach es X.env)).any (·.1) = false := by rfl) :
    PE X (.Call (.Name x p) (e :: es) [] pos) (tCall sp dvs E t) := by
  intro pins s σ H Q I h
  refine wpAny_Call_Name_kw (ld_glob I hg hm ?_ hdb)
  refine PySem.W.callWith_K (h₀ := X.base) I.ok.mod.kin hk (thn (ha pos pins s σ H _ I h) fun us s1 ⟨vs, H1, I1, r, q⟩ => ⟨I1.kIn, ?_⟩) he hpl
  exact run_fn F hr hb hd hx I1 r q
theorem pe_meth {pl : Sem Bool} (he : PE X o ta) (c : Cls X.K C) (hm : Meth X.K C m f) (F : FnOk X.prog X.w X.K X.mg X.base CX k f fd ps sp) (hr : Room k X.A) (hb : Binds X.K fd ps ds) (hd : Vals dvs ds) (hx : Passes CX X E) (ha : PA X (e :: es) t)
    (hst : starEach (e :: es) X.env = (false, eval e X.env) :: starEach es X.env := by rfl) (hpl : (backTo pos (starEach es X.env)).any (·.1) = false := by rfl)
    (ht : eval (.Call (.Attribute o m apos) (e :: es) [] pos) X.env = (do
      let ov ← eval o X.env
      standAt apos.atName
      let (f, first) ← holding [ov] (getMethod ov m pl)
      callWith pos f first (backTo pos (starEach (e :: es) X.env)) (backToKw pos (keywordEach [] X.env))) := by rfl) :
    PE X (.Call (.Attribute o m apos) (e :: es) [] pos) (tMeth C m sp dvs E ta t) := by
  intro pins s σ H Q I h
  refine PySem.W.methodCall_KW (pl := pl) (thn (he pins s σ H _ I h) fun u s1 ⟨x, H1, I1, rx, a, dx, fs, ex, ea, l, q⟩ => ?_) ht
  subst ex
  obtain rfl : u = Value.ref a := rx
  refine getmeth_ok I1 ea c hm l ?_
  refine PySem.W.callWith_K (first := [.ref a]) (h₀ := X.base) I.ok.mod.kin hm.kp (thn (ha pos pins s1 σ H1 _ I1 q) fun us s2 ⟨vs, H2, I2, r, q2⟩ => ⟨I2.kIn, ?_⟩) hst hpl
  exact run_fn (us := .ref a :: us) (vs := .ref a :: vs) F hr hb hd hx I2 (.cons rfl r) q2
theorem pe_meth0 {pl : Sem Bool} (he : PE X o ta) (c : Cls X.K C) (hm : Meth X.K C m f) (F : FnOk X.prog X.w X.K X.mg X.base CX k f fd ps sp) (hr : Room k X.A) (hb : Binds X.K fd ps ds) (hd : Vals dvs ds) (hx : Passes CX X E)
    (ht : eval (.Call (.Attribute o m apos) [] [] pos) X.env = (do
      let ov ← eval o X.env
      standAt apos.atName
      let (f, first) ← holding [ov] (getMethod ov m pl)
      callWith pos f first (backTo pos (starEach [] X.env)) (backToKw pos (keywordEach [] X.env))) := by rfl) :
    PE X (.Call (.Attribute o m apos) [] [] pos) (tMeth C m sp dvs E ta tNil) := by
  intro pins s σ H Q I h
  refine PySem.W.methodCall_KW (pl := pl) (thn (he pins s σ H _ I h) fun u s1 ⟨x, H1, I1, rx, a, dx, fs, ex, ea, l, q⟩ => ?_) ht
  subst ex
  obtain rfl : u = Value.ref a := rx
  refine getmeth_ok I1 ea c hm l ?_
  exact PySem.W.callWith_K0 (first := [.ref a]) I1.kIn hm.kp (run_fn (us := [.ref a]) (vs := [.ref a]) F hr hb hd hx I1 (.cons rfl .nil) q)
structure Mk (K : PySem.W.Frag) (C f : Addr) : Prop where
  makes : PySem.W.makesIn K C = true
  init : PySem.W.findIn K (.ref C) "__init__" = some (some (.ref f))
  fn : PySem.W.isFn K (.ref f) = true
  kp : PySem.W.keepIn K (.ref C) = true
theorem run_make {pins : List (Addr × Obj)} {σ : St} {H : Hp} {s : Shared} {Q : VK} {us : List Value} {vs : List V} (M : Mk X.K C f) (F : FnOk X.prog X.w X.K X.mg X.base CX k f fd ps sp) (hr : Room (k + 1) X.A) (hb : Binds X.K fd ps ds) (hd : Vals dvs ds)
    (hx : Passes CX X E) (I : Inv X pins σ H s) (r : Vals vs us)
    (h : ∀ x dx, H x = none → H dx = none → dx ≠ x → sp (.ref x :: (vs ++ dvs)) (upd (upd H dx (.own x)) x (.ins C dx [])) (fun v H2 => v = .non ∧ Q (.ref x) H2) E) :
    wpAny (model X.prog X.w) X.A (call (.ref C) us) (EP X pins σ Q) X.xe s := by
  have hq := h (s.heap.objs.size + 1) s.heap.objs.size (I.hok.fresh (Nat.le_succ _)) (I.hok.fresh (Nat.le_refl _)) (Nat.ne_of_lt (Nat.lt_succ_self _))
  have I2 := Inv.made (C := C) I
  have r2 : Vals (V.ref (s.heap.objs.size + 1) :: (vs ++ dvs)) (Value.ref (s.heap.objs.size + 1) :: (us ++ ds)) := .cons rfl (r.append hd)
  have hl : (Value.ref (s.heap.objs.size + 1) :: us ++ ds).length = ps.length := by
    have e := r2.length
    rw [F.len _ _ _ _ hq] at e
    exact e.symm
  refine wpAny_call (make_map (f := f) I.kIn M.makes M.init (beq_iff_eq.mp M.fn) (codeAny_mono (F.run _ X.stack _ _ ⟨Value.ref (s.heap.objs.size + 1) :: us, []⟩ (Value.ref (s.heap.objs.size + 1) :: (us ++ ds)) _ _ E (hr.make C us [])
    (I2.env0.make C us []) (hb _ (Value.ref (s.heap.objs.size + 1) :: us) I2.kIn hl) r2 hq) fun r s' hq' => ?_))
  cases r with
  | error e => exact hx pins σ _ _ e s' I2 hq'
  | ok fl =>
    cases fl with
    | ret u =>
      obtain ⟨v, H', I3, rv, ev, q3⟩ := I2.after hq'
      subst ev
      exact ⟨rv, ⟨V.ref (s.heap.objs.size + 1), H', I3, rfl, q3⟩⟩
    | next => exact False.elim hq'
    | brk => exact False.elim hq'
    | cont => exact False.elim hq'
theorem pe_make (M : Mk X.K C f) (F : FnOk X.prog X.w X.K X.mg X.base CX k f fd ps sp) (hr : Room (k + 1) X.A) (hg : Gl X x) (hm : X.mg x = some (.ref C)) (hb : Binds X.K fd ps ds) (hd : Vals dvs ds) (hx : Passes CX X E)
    (ha : PA X (e :: es) t) (hdb : (x == ("__debug__" : Str)) = false := by decide) (he : starEach (e :: es) X.env = (false, eval e X.env) :: starEach es X.env := by rfl) (hpl : (backTo pos (starEach es X.env)).any (·.1) = false := by rfl) :
    PE X (.Call (.Name x p) (e :: es) [] pos) (tMake C sp dvs E t) := by
  intro pins s σ H Q I h
  refine wpAny_Call_Name_kw (ld_glob I hg hm ?_ hdb)
  refine PySem.W.callWith_K (h₀ := X.base) I.ok.mod.kin M.kp (thn (ha pos pins s σ H _ I h) fun us s1 ⟨vs, H1, I1, r, q⟩ => ⟨I1.kIn, ?_⟩) he hpl
  exact run_make M F hr hb hd hx I1 r q
theorem pe_make0 (M : Mk X.K C f) (F : FnOk X.prog X.w X.K X.mg X.base CX k f fd ps sp) (hr : Room (k + 1) X.A) (hg : Gl X x) (hm : X.mg x = some (.ref C)) (hb : Binds X.K fd ps ds) (hd : Vals dvs ds) (hx : Passes CX X E)
    (hdb : (x == ("__debug__" : Str)) = false := by decide) : PE X (.Call (.Name x p) [] [] pos) (tMake C sp dvs E tNil) := by
  intro pins s σ H Q I h
  refine wpAny_Call_Name_kw (ld_glob I hg hm ?_ hdb)
  exact PySem.W.callWith_K0 I.kIn M.kp (run_make (us := []) M F hr hb hd hx I .nil h)
end
structure FnScope (N P : List Str) (sc : Scope) : Prop where
  kind : sc.kind = .function
  co : sc.isCoroutine = false
  gen : sc.isGenerator = false
  nd : N.Nodup
  pre : N.take P.length = P
  par : ∀ x ∈ P, sc.names.lookup x = some .local ∨ sc.names.lookup x = some .cell
  nofree : ∀ y ∈ sc.names, y.2 ≠ .free
theorem bindL_out {kindOf : Str → Option NameKind} {x : Str} : ∀ {binds : List (Str × Value)} {m : Str → Option Value}, (∀ v, (x, v) ∉ binds) → bindL kindOf binds m x = m x
  | [], _, _ => rfl
  | (n, v) :: r, m, h => by
    unfold bindL
    rw [bindL_out fun w hw => h w (List.mem_cons_of_mem _ hw)]
    split
    · have : x ≠ n := by rintro rfl; exact h v List.mem_cons_self
      simp [this]
    · rfl
theorem bindC_out {kindOf : Str → Option NameKind} {x : Str} : ∀ {binds : List (Str × Value)} {m : Str → Option Value}, (∀ v, (x, v) ∉ binds) → bindC kindOf binds m x = m x
  | [], _, _ => rfl
  | (n, v) :: r, m, h => by
    unfold bindC
    rw [bindC_out fun w hw => h w (List.mem_cons_of_mem _ hw)]
    split
    · rfl
    · have : x ≠ n := by rintro rfl; exact h v List.mem_cons_self
      simp [this]
theorem bindL_get {kindOf : Str → Option NameKind} {x : Str} {v : Value} : ∀ {P : List Str} {vs : List Value} {i : Nat} {m : Str → Option Value}, P.Nodup → P[i]? = some x → vs[i]? = some v → kindOf x = some .local →
    bindL kindOf (P.zip vs) m x = some v
  | [], _, _, _, _, h, _, _ => by simp at h
  | _ :: _, [], _, _, _, _, h, _ => by simp at h
  | p :: P, w :: vs, 0, m, nd, h1, h2, hk => by
    simp at h1 h2; subst h1; subst h2
    show bindL kindOf ((p, w) :: P.zip vs) m p = _
    unfold bindL
    rw [bindL_out fun v hv => (List.nodup_cons.mp nd).1 (List.of_mem_zip hv).1, if_pos hk]
    simp
  | p :: P, w :: vs, i + 1, m, nd, h1, h2, hk => by
    show bindL kindOf ((p, w) :: P.zip vs) m x = _
    unfold bindL
    exact bindL_get (i := i) (List.nodup_cons.mp nd).2 (by simpa using h1) (by simpa using h2) hk
theorem bindC_get {kindOf : Str → Option NameKind} {x : Str} {v : Value} : ∀ {P : List Str} {vs : List Value} {i : Nat} {m : Str → Option Value}, P.Nodup → P[i]? = some x → vs[i]? = some v → kindOf x ≠ some .local →
    bindC kindOf (P.zip vs) m x = some v
  | [], _, _, _, _, h, _, _ => by simp at h
  | _ :: _, [], _, _, _, _, h, _ => by simp at h
  | p :: P, w :: vs, 0, m, nd, h1, h2, hk => by
    simp at h1 h2; subst h1; subst h2
    show bindC kindOf ((p, w) :: P.zip vs) m p = _
    unfold bindC
    rw [bindC_out fun v hv => (List.nodup_cons.mp nd).1 (List.of_mem_zip hv).1, if_neg hk]
    simp
  | p :: P, w :: vs, i + 1, m, nd, h1, h2, hk => by
    show bindC kindOf ((p, w) :: P.zip vs) m x = _
    unfold bindC
    exact bindC_get (i := i) (List.nodup_cons.mp nd).2 (by simpa using h1) (by simpa using h2) hk
def start (N : List Str) (vs : List V) : St := vs.map some ++ List.replicate (N.length - vs.length) none
def cxOf (CX : CXT) (P : Program) (w : World) (K : PySem.W.Frag) (mg : Str → Option Value) (base : Heap) (N : List Str) (qual : Str) (scope : Scope) (f : Addr) (cd : Value) (A : Around) (outer : List Env) (s : Shared) (H : Hp) (E : XK) : Cx where
  prog := P
  w := w
  K := K
  mg := mg
  base := base
  A := A.deeper (envOfC qual scope s.heap.objs.size f cd)
  N := N
  s_0 := s
  H_0 := H
  env := envOfC qual scope s.heap.objs.size f cd
  outer := outer
  stack := envOfC qual scope s.heap.objs.size f cd :: outer
  ex := []
  calm := true
  fn := fun _ => true
  pn := []
  xe := fun e s' => wpAny (model P w) (A.deeper (envOfC qual scope s.heap.objs.size f cd)) (leaving (envOfC qual scope s.heap.objs.size f cd) e) (fun _ s'' => CX outer H s E e s'') (fun e' s'' => CX outer H s E e' s'') s'
theorem cell_has {sc : Scope} {n : Nat} {x : Str} (h : sc.names.lookup x = some .cell) : ∃ c, (cellsFrom n sc.names []).lookup x = some c := by
  have q := PySem.W.cellsFrom_some sc.names n [] (.inl h)
  exact Option.isSome_iff_exists.mp q
theorem inv_start {CX : CXT} {P : Program} {w : World} {K : PySem.W.Frag} {mg : Str → Option Value} {base : Heap} {N ps : List Str} {qual : Str} {scope : Scope} {f : Addr} {cd : Value} {A : Around} {outer : List Env} {s s1 : Shared} {H : Hp} {E : XK} {us : List Value} {vs : List V}
    (S : FnScope N ps scope) (hd : A.handled = none) (e0 : Env0 P w K mg base A outer s H) (hl : vs.length = ps.length) (r : Vals vs us)
    (x : InCallC s s.heap.objs.size (bindL (envOfC qual scope s.heap.objs.size f cd).kindOf (ps.zip us) fun _ => none) (cellsFrom (s.heap.objs.size + 1) scope.names []) (bindC (envOfC qual scope s.heap.objs.size f cd).kindOf (ps.zip us) fun _ => none) s1) :
    Inv (cxOf CX P w K mg base N qual scope f cd A outer s H E) [] (start N vs) H s1 := by
  have hpl : ps.length ≤ N.length := by have := congrArg List.length S.pre; rw [List.length_take] at this; omega
  obtain ⟨h1, tk, rfl, hk⟩ := x.done
  have noA : ∀ b : Addr, b ∉ (cxOf CX P w K mg base N qual scope f cd A outer s H E).ex := fun b z => absurd (show b ∈ ([] : List Addr) from z) (by simp)
  refine ⟨⟨e0.mod, S.kind, rfl, rfl, Nat.le_refl _, fun y z c h1 h2 => ?_, fun y hy => ?_, fun y c _ h => ?_, fun _ => hd, Around.frames_deeper e0.frames, .inr ⟨rfl, rfl⟩, fun b z => absurd z (noA b), e0.bs, e0.bsz, fun b _ _ => noA b, fun b z => absurd z (noA b), e0.funs, e0.frf⟩,
    rfl, e0.bare, Un.kept hk, ⟨_, x.toInCall.ns, fun i y v h1 h2 h3 => ?_⟩, fun y c h => ⟨_, x.cell y c h⟩, e0.hok.fresh (Nat.le_refl _), fun y c h => ?_, fun p hp => absurd (show p ∈ ([] : List (Addr × Obj)) from hp) (by simp), e0.hok.kept hk, ?_⟩
  · exact name_of_addr x.apart (PySem.mem_of_lookup h1) (PySem.mem_of_lookup h2)
  · have hy : scope.names.lookup y = some .cell ∨ scope.names.lookup y = some .free := hy
    rcases hy with hy | hy
    · exact cell_has hy
    · exact absurd rfl (S.nofree _ (PySem.mem_of_lookup hy))
  · exact Nat.le_of_lt (x.above y c (PySem.mem_of_lookup h))
  · have hi : i < vs.length := by
      unfold start at h2
      by_cases hi : i < vs.length
      · exact hi
      · rw [List.getElem?_append_right (by simpa using hi)] at h2
        rw [List.getElem?_replicate] at h2
        split at h2 <;> cases h2
    have ha : vs[i]? = some v := by
      unfold start at h2
      rw [List.getElem?_append_left (by simpa using hi), List.getElem?_map] at h2
      cases e : vs[i]? with
      | none => rw [e] at h2; cases h2
      | some a => rw [e] at h2; cases h2; rfl
    obtain ⟨u, hu, rv⟩ := r.get ha
    have hp : ps[i]? = some y := by
      rw [← S.pre, List.getElem?_take_of_lt (by omega)]; exact h1
    have ndP : ps.Nodup := by rw [← S.pre]; exact S.nd.sublist (List.take_sublist _ _)
    refine ⟨u, rv, ?_⟩
    rcases S.par y (List.mem_of_getElem? hp) with k | k
    · exact .inl ⟨k, bindL_get ndP hp hu k⟩
    · obtain ⟨c, e⟩ := cell_has (n := s.heap.objs.size + 1) k
      refine .inr ⟨.inl k, c, e, ?_⟩
      have q := x.cell y c e
      rw [bindC_get ndP hp hu (by show scope.names.lookup y ≠ _; rw [k]; decide)] at q
      exact q
  · exact e0.hok.fresh (Nat.le_of_lt (x.above y c (PySem.mem_of_lookup h)))
  · unfold start
    show _ = N.length
    rw [List.length_append, List.length_map, List.length_replicate]
    omega
theorem fn_of {CX : CXT} {P : Program} {w : World} {K : PySem.W.Frag} {mg : Str → Option Value} {base : Heap} {k : Nat} {f : Addr} {name qual : Str} {params : Arguments} {body : List Stmt} {scope : Scope} {dV kV doc pm cdv ct oc : Value} {an od : Option Addr}
    {osl : Array (Option Value)} {N ps : List Str} {sp : Sp} (lk : K.lookup f = some ⟨oc, od, .func (PySem.W.fnOf name qual params body scope dV kV doc pm an cdv ct), osl⟩) (hcd : PySem.W.codeIn K cdv qual = true) (S : FnScope N ps scope)
    (len : ∀ vs H Q E, sp vs H Q E → vs.length = ps.length)
    (hbody : ∀ (A : Around) (outer : List Env) (s : Shared) (H : Hp) (vs : List V) (Q : VK) (E : XK), Room k (A.deeper (envOfC qual scope s.heap.objs.size f cdv)) → sp vs H Q E →
      ∃ t, PSs (cxOf CX P w K mg base N qual scope f cdv A outer s H E) body t ∧ t { nx := fun _ H' => Q .non H', rt := Q } (start N vs) H) :
    FnOk P w K mg base CX (k + 1) f (PySem.W.fnOf name qual params body scope dV kV doc pm an cdv ct) ps sp := by
  refine ⟨len, fun A outer s H args us vs Q E hr e0 hb r hsp => ?_⟩
  have hl := len _ _ _ _ hsp
  have KX : K.In s.heap := e0.mod.kin.keeps fun b o e => (e0.bs b o e).1
  have lim : s.heap.NoLimit := e0.mod.nolimit.keeps fun b o e => (e0.bs b o e).1
  have hkind : ∀ y ∈ ps.zip us, scope.names.lookup y.1 = some .local ∨ (scope.names.lookup y.1 = some .cell ∧ ((cellsFrom (s.heap.objs.size + 1) scope.names []).lookup y.1).isSome = true) := fun ⟨n, v⟩ hy => by
    rcases S.par n (List.of_mem_zip hy).1 with q | q
    · exact .inl q
    · exact .inr ⟨q, PySem.W.cellsFrom_some _ _ _ (.inl q)⟩
  refine codeAny_call_function hr.depth (KX _ _ lk) rfl S.co S.gen rfl (PySem.W.codeRec_of KX hcd) (hb _ _ _ _ ?_)
  refine wpAny_newFunctionEnv_cells S.kind hkind fun env he s1 x => ?_
  subst he
  refine ⟨lim.keeps x.toInCall.keep, codeAny_func ?_⟩
  obtain ⟨t, ht, hq⟩ := hbody A outer s H vs Q E (hr.deeper _) hsp
  have I : Inv (cxOf CX P w K mg base N qual scope f cdv A outer s H E) [] (start N vs) H s1 := inv_start S hr.hd e0 hl r x
  refine wpAny_mono (ht [] s1 (start N vs) H _ I hq) (fun fl s' hs => ?_) fun e s' hs => hs
  have fin : ∀ {σ' : St} {H' : Hp} {v : V} {u : Value}, Inv (cxOf CX P w K mg base N qual scope f cdv A outer s H E) [] σ' H' s' → RelV v u → Q v H' → CE outer P w H s Q u s' :=
    fun {σ' H' v u} J rv q => ⟨v, H', J.os, J.bare, J.base, J.hok, rv, q⟩
  cases fl with
  | ret u =>
    obtain ⟨v, σ', H', J, rv, q⟩ := hs
    exact fin J rv q
  | next =>
    obtain ⟨σ', H', J, q⟩ := hs
    exact fin (v := V.non) (u := Value.none) J rfl q
  | brk =>
    obtain ⟨_, _, _, q⟩ := hs
    exact False.elim q
  | cont =>
    obtain ⟨_, _, _, q⟩ := hs
    exact False.elim q
end L2
namespace L2
open PySem PySem.Spec PyProof.Rows
section
variable {X : Cx} {x : Str} {p pos : Pos} {e : Expr} {es : List Expr} {t : TA} {id T : String} {r : List V → Hp → VK → Prop}
def tCB (r : List V → Hp → VK → Prop) (t : TA) : TE := fun σ H Q => t σ H fun vs H1 => r vs H1 Q
theorem pe_callB (hc : CallR X (.builtin id) r) (hg : Gl X x) (hm : X.mg x = none) (hv : bootBuiltins x = some (.builtin id)) (ha : PA X (e :: es) t) (hn : x ≠ "__name__" := by decide) (hdb : (x == ("__debug__" : Str)) = false := by decide)
    (he : starEach (e :: es) X.env = (false, eval e X.env) :: starEach es X.env := by rfl) (hpl : (backTo pos (starEach es X.env)).any (·.1) = false := by rfl) : PE X (.Call (.Name x p) (e :: es) [] pos) (tCB r t) := by
  intro pins s σ H Q I h
  refine wpAny_Call_Name_kw (ld_blt I hg hm hv ?_ hn hdb)
  exact PyProof.Rows.callWith_builtin1 (thn (ha pos pins s σ H _ I h) fun us s1 ⟨vs, H1, I1, r1, q1⟩ => hc pins s1 σ H1 vs us Q I1 r1 q1) he hpl
theorem pe_callTy (hc : CallR X (.type T) r) (hg : Gl X x) (hm : X.mg x = none) (hv : bootBuiltins x = some (.type T)) (ha : PA X (e :: es) t) (hn : x ≠ "__name__" := by decide) (hdb : (x == ("__debug__" : Str)) = false := by decide)
    (he : starEach (e :: es) X.env = (false, eval e X.env) :: starEach es X.env := by rfl) (hpl : (backTo pos (starEach es X.env)).any (·.1) = false := by rfl) : PE X (.Call (.Name x p) (e :: es) [] pos) (tCB r t) := by
  intro pins s σ H Q I h
  refine wpAny_Call_Name_kw (ld_blt I hg hm hv ?_ hn hdb)
  exact PyProof.Rows.callWith_type1 (thn (ha pos pins s σ H _ I h) fun us s1 ⟨vs, H1, I1, r1, q1⟩ => hc pins s1 σ H1 vs us Q I1 r1 q1) he hpl
end
end L2
namespace HT
open PySem PyProof.Rows
section
variable {prog : Program} {w : World} {A : Around} {E : Value → Shared → Prop} {s : Shared}
def sIx (n d : Nat) : Option Int → Nat
  | none => d
  | some v => if v < 0 then (v + (n : Int)).toNat else min v.toNat n
theorem sIx_none (n d : Nat) : sIx n d none = d := rfl
theorem sIx_nat (n d k : Nat) : sIx n d (some (k : Int)) = min k n := by
  show (if (k : Int) < 0 then ((k : Int) + (n : Int)).toNat else min (k : Int).toNat n) = min k n
  rw [if_neg (by omega), Int.toNat_natCast]
end
end HT
namespace L2
open PySem PySem.Spec PyProof.Rows
abbrev TO := St → Hp → (Option Int → Hp → Prop) → Prop
def PO (X : Cx) (e : Option Expr) (t : TO) : Prop :=
  ∀ (pins : List (Addr × Obj)) (s : Shared) (σ : St) (H : Hp) (Q : Option Int → Hp → Prop), Inv X pins σ H s → t σ H Q →
    wpAny (model X.prog X.w) X.A (evalPart e X.env) (fun u s' => ∃ o H', Inv X pins σ H' s' ∧ IsPart u o ∧ Q o H') X.xe s
def tNoPart : TO := fun _ H Q => Q none H
def tPart (t : TE) : TO := fun σ H Q => t σ H fun x H1 => ∃ i, x = .int i ∧ Q (some i) H1
section
variable {X : Cx} {e : Expr} {te : TE} {lo hi : Option Expr} {tl th : TO} {pos p2 : Pos}
theorem po_none : PO X none tNoPart := by
  intro pins s σ H Q I h
  rw [evalPart_none]
  exact wpAny_pure ⟨none, H, I, .none, h⟩
theorem po_some (h : PE X e te) : PO X (some e) (tPart te) := by
  intro pins s σ H Q I hw
  rw [evalPart_some]
  refine thn (h pins s σ H _ I hw) fun u s1 ⟨x, H1, I1, r1, q1⟩ => ?_
  obtain ⟨i, rfl, q⟩ := q1
  obtain ⟨t, rfl⟩ := r1
  exact ⟨some i, H1, I1, .int i t, q⟩
def SlR (X : Cx) (r : V → Option Int → Option Int → Hp → VK → Prop) : Prop :=
  ∀ (pins : List (Addr × Obj)) (s : Shared) (σ : St) (H : Hp) (x : V) (v vl vu : Value) (lo hi : Option Int) (sl : Addr) (Q : VK), Inv X pins σ H s → RelV x v → s.heap.IsSliceOf sl vl vu .none → IsPart vl lo → IsPart vu hi → r x lo hi H Q →
    ∃ T id, typeLookup (.type T) "__getitem__" = pure (some (.builtin id)) ∧ s.TypeIs v T ∧ wpAny (model X.prog X.w) X.A (getItem v (.ref sl)) (EP X pins σ Q) X.xe s
def tSl (r : V → Option Int → Option Int → Hp → VK → Prop) (te : TE) (tl th : TO) : TE := fun σ H Q => te σ H fun x H1 => tl σ H1 fun l H2 => th σ H2 fun u H3 => r x l u H3 Q
theorem pe_slice {r : V → Option Int → Option Int → Hp → VK → Prop} (hr : SlR X r) (he : PE X e te) (hl : PO X lo tl) (hu : PO X hi th) : PE X (.Subscript e (.Slice lo hi none p2) pos) (tSl r te tl th) := by
  intro pins s σ H Q I h
  refine Subscript_ (thn (he pins s σ H _ I h) fun v s1 ⟨x, H1, I1, r1, q1⟩ => ?_)
  refine wpAny_Slice (thn (hl pins s1 σ H1 _ I1 q1) fun vl s2 ⟨l, H2, I2, pl, q2⟩ => thn (hu pins s2 σ H2 _ I2 q2) fun vu s3 ⟨u, H3, I3, pu, q3⟩ => ?_)
  rw [evalPart_none]
  refine wpAny_pure ?_
  have I4 : Inv X pins σ H3 { s3 with heap := s3.heap.push { cls := .type "slice", data := .fields #[vl, vu, .none] } } := I3.kept (t' := s3.toks) fun b ob q => Heap.get?_push_of_some _ q
  obtain ⟨T, id, hT, ht, hg⟩ := hr pins { s3 with heap := s3.heap.push { cls := .type "slice", data := .fields #[vl, vu, .none] } } σ H3 x v vl vu l u s3.heap.objs.size Q I4 r1 (Heap.IsSliceOf.new ..) pl pu q3
  show wpAny (model X.prog X.w) X.A (subscriptTail e (.Slice lo hi none p2) v (.ref s3.heap.objs.size)) (EP X pins σ Q) X.xe { s3 with heap := s3.heap.push { cls := .type "slice", data := .fields #[vl, vu, .none] } }
  exact tail_any (ops := [.ref s3.heap.objs.size, v]) ht hT hg (by with_unfolding_all rfl)
def cutV (xs : List V) (lo hi : Option Int) : List V := (xs.drop (HT.sIx xs.length 0 lo)).take (HT.sIx xs.length xs.length hi - HT.sIx xs.length 0 lo)
theorem cutV_length (xs : List V) (lo hi : Option Int) : (cutV xs lo hi).length ≤ xs.length := by
  unfold cutV
  rw [List.length_take, List.length_drop]
  omega
end
end L2
namespace L2
open PySem PySem.Spec PyProof.Rows
def ixN (n : Nat) (i : Int) : Option Nat := if 0 ≤ i then (if i < n then some i.toNat else none) else if -(n : Int) ≤ i then some (i + n).toNat else none
def atI {α : Type} (xs : List α) (i : Int) : Option α := (ixN xs.length i).bind fun j => xs[j]?
theorem ixN_seq {n : Nat} {i : Int} {j : Nat} (h : ixN n i = some j) : seqIndex? i n = some j ∧ j < n ∧ -(n : Int) ≤ i ∧ i < n := by
  unfold ixN at h
  by_cases h0 : 0 ≤ i
  · rw [if_pos h0] at h
    by_cases h1 : i < n
    · rw [if_pos h1] at h
      have e : i.toNat = j := Option.some.inj h
      exact ⟨by rw [seqIndex_of h0 h1, e], by omega, by omega, h1⟩
    · rw [if_neg h1] at h; cases h
  · rw [if_neg h0] at h
    by_cases h1 : -(n : Int) ≤ i
    · rw [if_pos h1] at h
      have e : (i + n).toNat = j := Option.some.inj h
      exact ⟨by rw [seqIndex_neg (by omega) h1, e], by omega, h1, by omega⟩
    · rw [if_neg h1] at h; cases h
theorem atI_get {α : Type} {xs : List α} {i : Int} {v : α} (h : atI xs i = some v) : ∃ j, seqIndex? i xs.length = some j ∧ xs[j]? = some v ∧ j < xs.length ∧ -(xs.length : Int) ≤ i ∧ i < xs.length := by
  unfold atI at h
  cases e : ixN xs.length i with
  | none => rw [e] at h; cases h
  | some j =>
    rw [e] at h
    obtain ⟨h1, h2, h3, h4⟩ := ixN_seq e
    exact ⟨j, h1, h, h2, h3, h4⟩
theorem atI_nat {α : Type} {xs : List α} {j : Nat} {v : α} (h : xs[j]? = some v) : atI xs (j : Int) = some v := by
  have hj : j < xs.length := (List.getElem?_eq_some_iff.mp h).1
  have e : ixN xs.length (j : Int) = some j := by
    unfold ixN
    rw [if_pos (by omega), if_pos (by omega)]; simp
  unfold atI; rw [e]; exact h
def PlainIx (b : Expr) : Prop := ∀ o i, subscripted b false o i = operate [o, i] (getItem o i)
def IxR (X : Cx) (r : R2) : Prop :=
  ∀ (value slice : Expr) (pins : List (Addr × Obj)) (s : Shared) (σ : St) (H : Hp) (x y : V) (v u : Value) (Q : VK), Inv X pins σ H s → RelV x v → RelV y u → r x y H Q →
    subscripted slice false v u = operate [v, u] (getItem v u) → wpAny (model X.prog X.w) X.A (subscriptTail value slice v u) (EP X pins σ Q) X.xe s
def MtR (X : Cx) (id : String) (r : V → List V → Hp → VK → Prop) : Prop :=
  ∀ (pins : List (Addr × Obj)) (s : Shared) (σ : St) (H : Hp) (x : V) (xs : List V) (v : Value) (us : List Value) (Q : VK), Inv X pins σ H s → RelV x v → Vals xs us → r x xs H Q →
    wpAny (model X.prog X.w) X.A (call (.builtin id) (v :: us)) (EP X pins σ Q) X.xe s
section
variable {X : Cx} {a b : Expr} {ta tb : TE} {pos : Pos}
theorem pe_ix {r : R2} (hr : IxR X r) (ha : PE X a ta) (hb : PE X b tb) (hs : PlainIx b) : PE X (.Subscript a b pos) (tOp r ta tb) := by
  intro pins s σ H Q I h
  exact Subscript_ (binT ha hb I h fun v u s2 x y H2 I2 rx ry q => hr a b pins s2 σ H2 x y v u Q I2 rx ry q (hs _ _))
def rIxL (K : PySem.W.Frag) : R2 := fun x y H Q => ∃ p xs i v, x = .ref p ∧ y = .int i ∧ SqL K H p xs ∧ atI xs i = some v ∧ Q v H
def rIxT (K : PySem.W.Frag) : R2 := fun x y H Q => ∃ p xs i v, x = .ref p ∧ y = .int i ∧ SqT K H p xs ∧ atI xs i = some v ∧ Q v H
theorem ix_list : IxR X (rIxL X.K) := by
  intro value slice pins s σ H x y v u Q I rx ry h hs
  obtain ⟨p, xs, i, z, rfl, rfl, hq, he, q⟩ := h
  cases rx
  obtain ⟨t, rfl⟩ := ry
  obtain ⟨its, r, pl, hz⟩ := I.list hq
  obtain ⟨j, h1, h2, h3, h4, h5⟩ := atI_get he
  obtain ⟨w, ew, rw'⟩ := r.get h2
  have hl := r.length
  have hn := line63
  have fin : EP X pins σ Q w s := ⟨z, H, I, rw', q⟩
  by_cases h0 : 0 ≤ i
  · have hj : i.toNat = j := by
      rw [seqIndex_of h0 h5] at h1
      exact Option.some.inj h1
    exact item_listR pl.isList h0 (by omega) (by rw [hj]; simpa using ew) fin hs
  · have hj : (i + (its.toArray.size : Int)).toNat = j := by
      rw [seqIndex_neg (by omega) h4] at h1
      rw [List.size_toArray, ← hl]
      exact Option.some.inj h1
    exact subscriptTail_builtinR (x := w) pl.isList.typeIs slot_list_getitem.lookup
      (wpAny_getItem_list_neg (Q := fun r s' => r = w ∧ EP X pins σ Q r s') pl.isList (by omega) (by rw [List.size_toArray] <;> omega) (by omega) (by rw [hj]; simpa using ew) ⟨rfl, fin⟩) hs
theorem ix_tup : IxR X (rIxT X.K) := by
  intro value slice pins s σ H x y v u Q I rx ry h hs
  obtain ⟨p, xs, i, z, rfl, rfl, hq, he, q⟩ := h
  cases rx
  obtain ⟨t, rfl⟩ := ry
  obtain ⟨its, r, pl, hz⟩ := I.tuple hq
  obtain ⟨j, h1, h2, h3, h4, h5⟩ := atI_get he
  obtain ⟨w, ew, rw'⟩ := r.get h2
  have hl := r.length
  have hn := line63
  have fin : EP X pins σ Q w s := ⟨z, H, I, rw', q⟩
  exact subscriptTail_builtinR (x := w) pl.typeIs slot_tuple_getitem.lookup
    (getItem_tuple (j := j) (Q := fun r s' => r = w ∧ EP X pins σ Q r s') pl (by omega) (by omega) (by rw [List.size_toArray, ← hl]; exact h1) (by simpa using ew) ⟨rfl, fin⟩) hs
theorem mapSeq_set (its : List Value) (n j : Nat) (u : Value) : Obj.mapSeq (·.setIfInBounds j u) { cls := .type "list", data := .seq its.toArray n } = { cls := .type "list", data := .seq (its.set j u).toArray n } := by
  simp [Obj.mapSeq]
theorem Inv.lst {pins : List (Addr × Obj)} {σ : St} {H : Hp} {s : Shared} {p : Addr} {xs : List V} (I : Inv X pins σ H s) (h : H p = some (.lst xs)) :
    ∃ (its : List Value) (n : Nat), Vals xs its ∧ s.heap.get? p = some { cls := .type "list", data := .seq its.toArray n } ∧ xs.length ≤ sizeLine := by
  obtain ⟨z, its, n, r, e⟩ := I.hok p _ h
  exact ⟨its, n, r, e, z⟩
theorem Inv.lstUpd {pins : List (Addr × Obj)} {σ : St} {H : Hp} {s : Shared} {p : Addr} {xs ys : List V} {its its' : List Value} {n n' : Nat} {f : Obj → Obj} (I : Inv X pins σ H s) (h : H p = some (.lst xs))
    (ho : s.heap.get? p = some { cls := .type "list", data := .seq its.toArray n }) (hf : f { cls := .type "list", data := .seq its.toArray n } = { cls := .type "list", data := .seq its'.toArray n' }) (r : Vals ys its') (hz : ys.length ≤ sizeLine) (t : Nat) :
    Inv X pins σ (upd H p (.lst ys)) { s with heap := s.heap.update p f, toks := t } := by
  have e : (s.heap.update p f).get? p = some { cls := .type "list", data := .seq its'.toArray n' } := by
    rw [Heap.get?_update_self f ho (by rw [hf] <;> rfl), hf]
  refine I.write (x := p) (e := p) (by rw [h]; trivial) (.inl rfl) (fun b u hb q => (Heap.get?_update_other _ _ (Ne.symm hb)).trans q) ⟨_, e⟩ ?_
  exact ⟨hz, its', n', r, e⟩
def rSetL : V → V → V → Hp → (Hp → Prop) → Prop := fun o i v H Q => ∃ p xs k j, o = .ref p ∧ i = .int k ∧ H p = some (.lst xs) ∧ ixN xs.length k = some j ∧ Q (upd H p (.lst (xs.set j v)))
theorem set_list : PSet X rSetL := by
  intro pins s σ H o i v ov iv u Q I ro ri rv h
  obtain ⟨p, xs, k, j, rfl, rfl, hp, hj, q⟩ := h
  cases ro
  obtain ⟨t, rfl⟩ := ri
  obtain ⟨its, n, r, ho, hz⟩ := I.lst hp
  obtain ⟨h1, h2, h3, h4⟩ := ixN_seq hj
  have hl := r.length
  have hn := line63
  have I' : Inv X pins σ (upd H p (.lst (xs.set j v))) { s with heap := s.heap.update p (Obj.mapSeq (·.setIfInBounds j u)) } :=
    I.lstUpd hp ho (mapSeq_set its n j u) (r.set rv j) (by rw [List.length_set]; exact hz) s.toks
  by_cases h0 : 0 ≤ k
  · have hk : k.toNat = j := by
      rw [seqIndex_of h0 h4] at h1
      exact Option.some.inj h1
    exact PySem.W.ki_setAt ho h0 (by omega) (by rw [List.size_toArray, ← hl]; exact h4) (by rw [hk]; exact ⟨_, I', q⟩)
  · have hk : (k + (its.toArray.size : Int)).toNat = j := by
      rw [seqIndex_neg (by omega) h3] at h1
      rw [List.size_toArray, ← hl]
      exact Option.some.inj h1
    exact PySem.W.ki_setBack ho (by omega) (by rw [List.size_toArray, ← hl]; exact h3) (by omega) (by rw [hk]; exact ⟨_, I', q⟩)
theorem slice_bounds (lo hi : Option Int) (n : Nat) : (sliceBounds lo hi none n).1 = ((HT.sIx n 0 lo : Nat) : Int) ∧ (sliceBounds lo hi none n).2.1 = ((HT.sIx n n hi : Nat) : Int) ∧ (sliceBounds lo hi none n).2.2 = 1 := by
  refine ⟨?_, ?_, rfl⟩
  · cases lo with
    | none => simp [sliceBounds, HT.sIx]
    | some i =>
      simp only [sliceBounds, HT.sIx, Option.getD_none, show (1 : Int) > 0 by decide, if_true]
      by_cases h : i < 0
      · simp only [h, if_true] <;> omega
      · simp only [h, if_false] <;> omega
  · cases hi with
    | none => simp [sliceBounds, HT.sIx]
    | some i =>
      simp only [sliceBounds, HT.sIx, Option.getD_none, show (1 : Int) > 0 by decide, if_true]
      by_cases h : i < 0
      · simp only [h, if_true] <;> omega
      · simp only [h, if_false] <;> omega
theorem slicePick_cut (its : List Value) (lo hi : Option Int) : slicePick its.toArray lo hi none = ((its.drop (HT.sIx its.length 0 lo)).take (HT.sIx its.length its.length hi - HT.sIx its.length 0 lo)).toArray := by
  obtain ⟨h1, h2, h3⟩ := slice_bounds lo hi its.toArray.size
  unfold slicePick
  rw [h1, h2, h3]
  simp only [sliceRange_one, pick_run, List.size_toArray] <;> rfl
def rSlL (K : PySem.W.Frag) : V → Option Int → Option Int → Hp → VK → Prop := fun x lo hi H Q => ∃ a xs, x = .ref a ∧ SqL K H a xs ∧ ∀ p, H p = none → Q (.ref p) (upd H p (.lst (cutV xs lo hi)))
theorem sl_list : SlR X (rSlL X.K) := by
  intro pins s σ H x v vl vu lo hi sl Q I rx hs pl pu h
  obtain ⟨a, xs, rfl, hx, q⟩ := h
  cases rx
  obtain ⟨its, r, ht, hz⟩ := I.list hx
  have hlen := r.length
  refine ⟨"list", _, slot_list_getitem.lookup, ht.isList.typeIs, ?_⟩
  refine wpAny_getItem_list_slice ht.isList hs pl pu .none (by simp) ?_ (by rw [List.size_toArray] <;> omega)
  rw [slicePick_cut, ← hlen]
  refine ⟨.ref s.heap.objs.size, _, I.laid (t' := s.toks) (o := .lst (cutV xs lo hi)) (fun b ob q => Heap.get?_push_of_some _ q) (Nat.le_refl _) ?_, rfl, q _ (I.hok.fresh (Nat.le_refl _))⟩
  exact ⟨Nat.le_trans (cutV_length xs lo hi) hz, _, 0, (r.drop (HT.sIx xs.length 0 lo)).take (HT.sIx xs.length xs.length hi - HT.sIx xs.length 0 lo), Heap.get?_push_size _ rfl⟩
theorem call_len_seq : CallR X (.builtin "len") (fun xs H Q => ∃ p ys, xs = [.ref p] ∧ (SqL X.K H p ys ∨ SqT X.K H p ys) ∧ Q (.int ys.length) H) := by
  intro pins s σ H xs us Q I r h
  obtain ⟨p, ys, rfl, hq, q⟩ := h
  obtain ⟨u, rfl, rx⟩ := vals1 r
  cases rx
  have hn := line63
  rcases hq with hq | hq
  · obtain ⟨its, r', pl, hz⟩ := I.list hq
    have hlen := r'.length
    exact Calls.call_len_list pl.isList (by simp only [List.size_toArray] <;> omega) ⟨.int ys.length, H, I.tok _, ⟨s.toks + 1, by rw [List.size_toArray, hlen]⟩, q⟩
  · obtain ⟨its, r', pl, hz⟩ := I.tuple hq
    have hlen := r'.length
    exact len_tuple pl (by simp only [List.size_toArray] <;> omega) ⟨.int ys.length, H, I.tok _, ⟨s.toks + 1, by rw [List.size_toArray, hlen]⟩, q⟩
theorem call_list_of : CallR X (.type "list") (fun xs H Q => ∃ p ys, xs = [.ref p] ∧ (SqL X.K H p ys ∨ SqT X.K H p ys) ∧ ∀ l, H l = none → Q (.ref l) (upd H l (.lst ys))) := by
  intro pins s σ H xs us Q I r h
  obtain ⟨p, ys, rfl, hq, q⟩ := h
  obtain ⟨u, rfl, rx⟩ := vals1 r
  cases rx
  have fin : ∀ (its : List Value), Vals ys its → ys.length ≤ sizeLine → ∀ (h' : Heap) (c' : Nat), (∀ b o', s.heap.get? b = some o' → h'.get? b = some o') →
      h'.get? s.heap.objs.size = some { cls := .type "list", dict := none, data := .seq its.toArray c', slots := #[] } → EP X pins σ Q (.ref s.heap.objs.size) { s with heap := h' } := fun its r' hz h' c' kp e =>
    ⟨.ref s.heap.objs.size, _, I.laid (t' := s.toks) kp (Nat.le_refl _) (show ObjOk X.prog X.w _ h' _ (.lst ys) from ⟨hz, its, c', r', e⟩), rfl, q _ (I.hok.fresh (Nat.le_refl _))⟩
  rcases hq with hq | hq
  · obtain ⟨its, r', pl, hz⟩ := I.list hq
    have hlen := r'.length
    obtain ⟨o, ho, hc, n, hd⟩ := pl.isList
    exact call_list_seq p (.inl rfl) ho hc hd (fun h' c' kp e => fin its r' hz h' c' kp e) (by simp only [List.size_toArray] <;> omega)
  · obtain ⟨its, r', pl, hz⟩ := I.tuple hq
    have hlen := r'.length
    obtain ⟨o, ho, hc, n, hd⟩ := pl
    exact call_list_seq p (.inr rfl) ho hc hd (fun h' c' kp e => fin its r' hz h' c' kp e) (by simp only [List.size_toArray] <;> omega)
def tyV (K : PySem.W.Frag) (T : String) (x : V) (H : Hp) : Prop := match x with
  | .str _ => T = "str"
  | .int _ => T = "int"
  | .ref p => (T = "list" ∧ ∃ xs, SqL K H p xs) ∨ (T = "tuple" ∧ ∃ o, K.lookup p = some o ∧ o.cls = .type "tuple" ∧ o.dict = none) ∨
      (T = "dict" ∧ ((∃ kvs, H p = some (.dK kvs)) ∨ ∃ kvs, H p = some (.dT kvs))) ∨ (T = "set" ∧ ∃ S n, H p = some (.set S n))
  | _ => False
theorem tyV_is {pins : List (Addr × Obj)} {σ : St} {H : Hp} {s : Shared} {T : String} {x : V} {v : Value} (I : Inv X pins σ H s) (r : RelV x v) (ty : tyV X.K T x H) :
    s.TypeIs v T ∧ ∀ a, v = .ref a → ∃ ob, s.heap.get? a = some ob ∧ ob.dict = none := by
  cases x with
  | str z =>
    obtain ⟨t, rfl⟩ := r
    cases (show T = "str" from ty)
    exact ⟨typeIs_str s z t, fun _ e => nomatch e⟩
  | int i =>
    obtain ⟨t, rfl⟩ := r
    cases (show T = "int" from ty)
    exact ⟨typeIs_int s i t, fun _ e => nomatch e⟩
  | ref p =>
    cases r
    rcases ty with ⟨rfl, xs, hq⟩ | ⟨rfl, o, hk, hc, hd⟩ | ⟨rfl, hk⟩ | ⟨rfl, S, n, hk⟩
    · obtain ⟨its, _, pl, _⟩ := I.list hq
      refine ⟨pl.isList.typeIs, fun a e => ?_⟩
      cases e
      obtain ⟨o, n, e, c, hd, _⟩ := pl
      exact ⟨o, e, hd⟩
    · refine ⟨⟨o, I.kIn p o hk, hc⟩, fun a e => ?_⟩
      cases e
      exact ⟨o, I.kIn _ o hk, hd⟩
    · have z : ∃ o, s.heap.get? p = some o ∧ o.ExactDict := by
        rcases hk with ⟨kvs, hk⟩ | ⟨kvs, hk⟩
        · obtain ⟨_, _, _, _, o, _, _, e, ex, _⟩ := I.hok p _ hk
          exact ⟨o, e, ex⟩
        · obtain ⟨_, _, _, _, o, _, _, e, ex, _⟩ := I.hok p _ hk
          exact ⟨o, e, ex⟩
      obtain ⟨o, e, ex⟩ := z
      refine ⟨⟨o, e, ex.1⟩, fun a e2 => ?_⟩
      cases e2
      exact ⟨o, e, ex.2.1⟩
    · obtain ⟨o, _, _, _, e, ex, _⟩ := I.hok p _ hk
      refine ⟨⟨o, e, ex.1⟩, fun a e2 => ?_⟩
      cases e2
      exact ⟨o, e, ex.2.1⟩
  | _ => exact False.elim ty
def tBM (K : PySem.W.Frag) (T : String) (r : V → List V → Hp → VK → Prop) (to : TE) (t : TA) : TE := fun σ H Q => to σ H fun x H1 => tyV K T x H1 ∧ t σ H1 fun xs H2 => r x xs H2 Q
variable {o e : Expr} {es : List Expr} {to : TE} {t : TA} {name : Str} {apos cpos : Pos} {T id : String} {r : V → List V → Hp → VK → Prop}
theorem pe_bm (pa : PlainAttrs T) (slot : Slot T name id) (hty : typeOf (.builtin id) = pure (.type "method_descriptor")) (hm : MtR X id r) (ho : PE X o to) (ha : PA X (e :: es) t)
    (hbase : attributeBase o name X.env (eval o X.env) = eval o X.env := by rfl)
    (hfew : ((backTo cpos (starEach (e :: es) X.env)).all (fun x => !x.1) && (backToKw cpos (keywordEach [] X.env)).all (fun x => x.1.isSome)
      && decide ((e :: es).length + ([] : List Keyword).length + (if ([] : List Keyword).isEmpty then 0 else 1) < 30)) = true := by rfl)
    (hline : (apos.endLine == cpos.line) = true := by rfl) (hs : starEach (e :: es) X.env = (false, eval e X.env) :: starEach es X.env := by rfl) (hplain : (backTo cpos (starEach es X.env)).any (·.1) = false := by rfl) :
    PE X (.Call (.Attribute o name apos) (e :: es) [] cpos) (tBM X.K T r to t) := by
  intro pins s σ H Q I h
  refine wpAny_Call_method_late hbase hfew hline rfl (thn (ho pins s σ H _ I h) fun v s1 ⟨x, H1, I1, r1, ty, q1⟩ => ?_)
  obtain ⟨h1, h2⟩ := tyV_is I1 r1 ty
  refine ⟨T, id, pa, slot, hty, h1, h2, ?_⟩
  have hA := ha cpos pins s1 σ H1 _ I1 q1
  rw [hs] at hA ⊢
  refine Calls.callWith_builtin (by show (false || (backTo cpos (starEach es X.env)).any (·.1)) = false; rw [hplain] <;> rfl) (Calls.evalArgs_plain ?_)
  exact thn hA fun us s2 ⟨vs, H2, I2, r2, q2⟩ => hm pins s2 σ H2 x vs v us Q I2 r1 r2 q2
end
end L2
namespace L2
open PySem PySem.Spec PyProof.Rows
def MtM (X : Cx) (id : String) (r : V → List V → Hp → VK → Prop) : Prop :=
  ∀ (pins : List (Addr × Obj)) (s : Shared) (σ : St) (H : Hp) (x : V) (xs : List V) (v : Value) (us : List Value) (Q : VK), Inv X pins σ H s → RelV x v → Vals xs us → r x xs H Q →
    wpAny (model X.prog X.w) X.A (call (.builtin id) (v :: us)) (EP X pins σ Q) X.xe s
theorem Vals.one : ∀ {x : V} {us : List Value}, Vals [x] us → ∃ u, us = [u] ∧ RelV x u
  | _, _, .cons r .nil => ⟨_, rfl, r⟩
theorem Vals.rep {xs : List V} {us : List Value} (h : Vals xs us) : ∀ k : Nat, Vals (List.replicate k xs).flatten (List.replicate k us).flatten
  | 0 => .nil
  | k + 1 => by
    rw [List.replicate_succ, List.replicate_succ, List.flatten_cons, List.flatten_cons]
    exact Vals.append h (Vals.rep h k)
theorem foldl_rep (its : List Value) : ∀ (k : Nat) (acc : List Value),
    List.foldl (fun x1 x2 => x1 ++ x2) acc.toArray (List.replicate k its.toArray) = (acc ++ (List.replicate k its).flatten).toArray
  | 0, acc => by simp
  | k + 1, acc => by
    have e : acc.toArray ++ its.toArray = (acc ++ its).toArray := by simp
    have e2 : (acc ++ its) ++ (List.replicate k its).flatten = acc ++ (List.replicate (k + 1) its).flatten := by
      rw [List.replicate_succ, List.flatten_cons, List.append_assoc]
    rw [← e2, ← foldl_rep its k (acc ++ its), ← e, List.replicate_succ, List.foldl_cons]
section
variable {X : Cx} {pins : List (Addr × Obj)} {σ : St} {H : Hp} {s : Shared} {l b : Addr} {xs ys zs : List V}
theorem Inv.lset {its its' : List Value} {n : Nat} {f : Array Value → Array Value} {t' : Nat} (I : Inv X pins σ H s) (hH : H l = some (.lst xs))
    (e : s.heap.get? l = some { cls := .type "list", data := .seq its.toArray n }) (hf : f its.toArray = its'.toArray) (hv : Vals ys its') (hz : ys.length ≤ sizeLine) :
    Inv X pins σ (upd H l (.lst ys)) { s with heap := s.heap.update l (Obj.mapSeq f), toks := t' } := by
  have q := PySem.IsL.update e f
  rw [hf] at q
  refine I.write (x := l) (e := l) (by rw [hH]; exact trivial) (.inl rfl) (fun b' u hb hu => (Heap.get?_update_other s.heap (Obj.mapSeq f) (Ne.symm hb)).trans hu) ⟨_, q⟩ ?_
  exact ⟨hz, its', _, hv, q⟩
theorem Inv.lnew {its : List Value} {t' : Nat} (I : Inv X pins σ H s) (hv : Vals ys its) (hz : ys.length ≤ sizeLine) :
    Inv X pins σ (upd H s.heap.objs.size (.lst ys)) { s with heap := s.heap.push { cls := .type "list", data := .seq its.toArray }, toks := t' } :=
  I.laid (fun _ _ q => Heap.get?_push_of_some _ q) (Nat.le_refl _) ⟨hz, its, 0, hv, Heap.get?_push_size _ rfl⟩
theorem Inv.fresh (I : Inv X pins σ H s) : H s.heap.objs.size = none := I.hok.fresh (Nat.le_refl _)
theorem Inv.lstM (I : Inv X pins σ H s) (hH : H l = some (.lst xs)) : xs.length ≤ sizeLine ∧ ∃ (its : List Value) (n : Nat), Vals xs its ∧ xs.length = its.length ∧ s.heap.get? l = some { cls := .type "list", data := .seq its.toArray n } := by
  obtain ⟨z, its, n, r, e⟩ := I.hok l _ hH
  exact ⟨z, its, n, r, r.length, e⟩
theorem notLongL {n : Nat} (h : n ≤ sizeLine) : Builtin.List.listTooLong n = false := by
  unfold Builtin.List.listTooLong
  exact decide_eq_false (by omega)
end
section
variable {X : Cx}
def rAppend : V → List V → Hp → VK → Prop := fun x vs H Q => ∃ l xs y, x = .ref l ∧ vs = [y] ∧ H l = some (.lst xs) ∧ xs.length < sizeLine ∧ Q .non (upd H l (.lst (xs ++ [y])))
theorem mt_append : MtM X "list.append" rAppend := by
  intro pins s σ H x vs v us Q I rx rv h
  obtain ⟨l, xs, y, rfl, rfl, hH, hz, q⟩ := h
  cases rx
  obtain ⟨u, rfl, ru⟩ := rv.one
  obtain ⟨z, its, n, r, hl, e⟩ := I.lstM hH
  refine call_meets F.slot_list_append ⟨_, e, rfl⟩ F.entry_list_append (F.args_list_append_2 _ _) (PySem.list_append l its.toArray n u (by rw [List.size_toArray]; omega)) ⟨e, ?_⟩
  refine ⟨.non, _, I.lset (its' := its ++ [u]) hH e (by simp) (r.append (.cons ru .nil)) ?_, rfl, q⟩
  rw [List.length_append, List.length_singleton]
  omega
def rExtend : V → List V → Hp → VK → Prop := fun x vs H Q => ∃ l b xs zs, x = .ref l ∧ vs = [.ref b] ∧ H l = some (.lst xs) ∧ H b = some (.lst zs) ∧ xs.length + zs.length ≤ sizeLine ∧ Q .non (upd H l (.lst (xs ++ zs)))
theorem mt_extend : MtM X "list.extend" rExtend := by
  intro pins s σ H x vs v us Q I rx rv h
  obtain ⟨l, b, xs, zs, rfl, rfl, hH, hB, hz, q⟩ := h
  cases rx
  obtain ⟨u, rfl, ru⟩ := rv.one
  cases ru
  obtain ⟨z, its, n, r, hl, e⟩ := I.lstM hH
  obtain ⟨z2, its2, n2, r2, hl2, e2⟩ := I.lstM hB
  have hsz : its.toArray.size + its2.toArray.size ≤ sizeLine := by rw [List.size_toArray, List.size_toArray]; omega
  have hlong : ¬ (!its.toArray.isEmpty && Builtin.List.listTooLong (its.toArray.size + its2.toArray.size)) = true := by
    rw [notLongL hsz, Bool.and_false]
    exact Bool.false_ne_true
  refine call_meets F.slot_list_extend ⟨_, e, rfl⟩ F.entry_list_extend (F.args_list_extend_2 _ _)
    (AutoSeq1.list_extend_list_list_0 l its.toArray n b its2.toArray n2 hlong (by rw [List.size_toArray]; omega) (by omega)) ⟨e, e2, ?_⟩
  refine ⟨.non, _, I.lset (its' := its ++ its2) hH e (by simp) (r.append r2) ?_, rfl, q⟩
  rw [List.length_append]
  omega
def rCat : R2 := fun x y H Q => ∃ l b xs zs, x = .ref l ∧ y = .ref b ∧ H l = some (.lst xs) ∧ H b = some (.lst zs) ∧ xs.length + zs.length ≤ sizeLine ∧ ∀ p, H p = none → Q (.ref p) (upd H p (.lst (xs ++ zs)))
theorem op_cat : OpR X (binaryOp .Add) rCat := by
  intro pins s σ H x y v u Q I rx ry h
  obtain ⟨l, b, xs, zs, rfl, rfl, hH, hB, hz, q⟩ := h
  cases rx
  cases ry
  obtain ⟨z, its, n, r, hl, e⟩ := I.lstM hH
  obtain ⟨z2, its2, n2, r2, hl2, e2⟩ := I.lstM hB
  refine PySem.P.add_list e e2 ?_ (by rw [List.size_toArray, List.size_toArray]; omega)
  have ea : its.toArray ++ its2.toArray = (its ++ its2).toArray := by simp
  rw [ea]
  exact ⟨.ref _, _, I.lnew (t' := s.toks) (r.append r2) (by rw [List.length_append]; omega), rfl, q _ I.fresh⟩
def rRep : R2 := fun x y H Q => ∃ l k xs, x = .ref l ∧ y = .int k ∧ H l = some (.lst xs) ∧ -(2 ^ 63) ≤ k ∧ k < 2 ^ 63 ∧ xs.length * k.toNat ≤ sizeLine ∧
  ∀ p, H p = none → Q (.ref p) (upd H p (.lst (List.replicate k.toNat xs).flatten))
theorem len_rep {α : Type} (xs : List α) (k : Nat) : (List.replicate k xs).flatten.length = k * xs.length := by
  induction k with
  | zero => simp
  | succ k ih => rw [List.replicate_succ, List.flatten_cons, List.length_append, ih, Nat.succ_mul, Nat.add_comm]
theorem op_rep : OpR X (binaryOp .Mult) rRep := by
  intro pins s σ H x y v u Q I rx ry h
  obtain ⟨l, k, xs, rfl, rfl, hH, h1, h2, hz, q⟩ := h
  cases rx
  obtain ⟨t, rfl⟩ := ry
  obtain ⟨z, its, n, r, hl, e⟩ := I.lstM hH
  have hlen : its.toArray.size * k.toNat ≤ sizeLine := by rw [List.size_toArray, ← hl]; exact hz
  have hcap : ¬ its.toArray.size * k.toNat > (2 ^ 63 - 1) / 8 := by
    have : (sizeLine : Nat) ≤ (2 ^ 63 - 1) / 8 := by decide
    omega
  have hfit : ¬ (!Builtin.List.listFitsIndex k) = true := by
    rw [fitsIndex_both h1 h2]
    exact Bool.false_ne_true
  have hlong : ¬ Builtin.List.listTooLong (its.toArray.size * k.toNat) = true := by
    rw [notLongL hlen]
    exact Bool.false_ne_true
  have hnew : List.foldl (fun x1 x2 => x1 ++ x2) #[] (List.replicate (if its.toArray.isEmpty = true then 0 else k.toNat) its.toArray) = (List.replicate k.toNat its).flatten.toArray := by
    have f0 : ∀ m : Nat, List.foldl (fun x1 x2 => x1 ++ x2) #[] (List.replicate m its.toArray) = (List.replicate m its).flatten.toArray := fun m => by
      have := foldl_rep its m []
      rw [List.nil_append] at this
      exact this
    rw [f0]
    cases its with
    | nil => simp
    | cons a r' => rw [if_neg (by simp)]
  refine wpAny_binaryOp_repeat_ref (T := "list") (U := "int") (by decide) ⟨_, e, rfl⟩ (fun s' => typeIs_int s' k t) noFill_list_mul F.fills_int_mul F.slot_int_rmul repeat_list F.slot_int_index.lookup
    (call_meets F.slot_int_rmul (typeIs_int s k t) F.entry_int_rmul (F.args_int_rmul_2 _ _) (int___rmul___int_list k t l its.toArray n)
      ⟨e, rfl, ⟨_, e, rfl⟩, call_meets F.slot_list_mul ⟨_, e, rfl⟩ F.entry_list_mul (F.args_list_mul_2 _ _) (AutoListH.list___mul___list_int_3 l its.toArray n k t hfit hcap hlong) ⟨e, ?_⟩⟩)
  rw [hnew]
  exact ⟨.ref _, _, I.lnew (t' := s.toks) (r.rep k.toNat) (by rw [len_rep, Nat.mul_comm]; exact hz), rfl, q _ I.fresh⟩
end
section
variable {prog : Program} {w : World} {A : Around} {E : Value → Shared → Prop} {s : Shared}
set_option maxRecDepth 100000 in
end
end L2
namespace L2
open PySem PySem.Spec PyProof.Rows
theorem vals_of_ints : ∀ {us : List Value} {ns : List Int}, IntsAre us ns → Vals (ns.map V.int) us
  | _, _, .nil => by rw [List.map_nil]; exact Paired.nil
  | _, _, .cons n t h => by rw [List.map_cons]; exact Paired.cons (show RelV (V.int n) (Value.int n t) from ⟨t, rfl⟩) (vals_of_ints h)
mutual
inductive Dp (K : PySem.W.Frag) (H : Hp) : V → PyData → Prop
  | non : Dp K H .non .none
  | bl (b : Bool) : Dp K H (.bl b) (.bool b)
  | int (i : Int) : Dp K H (.int i) (.int i)
  | str (x : Str) : Dp K H (.str x) (.str x)
  | lst {a : Addr} {xs : List V} {ds : List PyData} : SqL K H a xs → DpAll K H xs ds → Dp K H (.ref a) (.list ds)
  | tup {a : Addr} {xs : List V} {ds : List PyData} : SqT K H a xs → DpAll K H xs ds → Dp K H (.ref a) (.tuple ds)
inductive DpAll (K : PySem.W.Frag) (H : Hp) : List V → List PyData → Prop
  | nil : DpAll K H [] []
  | cons {v : V} {vs : List V} {d : PyData} {ds : List PyData} : Dp K H v d → DpAll K H vs ds → DpAll K H (v :: vs) (d :: ds)
end
section
variable {X : Cx} {pins : List (Addr × Obj)} {σ : St} {H : Hp} {s : Shared}
mutual
theorem Dp.reads (I : Inv X pins σ H s) : ∀ (d : PyData) (v : V) (u : Value), Dp X.K H v d → RelV v u → ∃ as, Reads s.heap u d as
  | .none, _, _, h, r => by
    cases h
    cases r
    exact ⟨_, Reads.none⟩
  | .bool b, _, _, h, r => by
    cases h
    cases r
    exact ⟨_, Reads.bool b⟩
  | .int i, _, _, h, r => by
    cases h
    obtain ⟨t, rfl⟩ := r
    exact ⟨_, Reads.int i t⟩
  | .str x, _, _, h, r => by
    cases h
    obtain ⟨t, rfl⟩ := r
    exact ⟨_, Reads.str x t⟩
  | .list ds, _, _, h, r => by
    cases h with
    | lst hs ha =>
      cases r
      obtain ⟨its, rv, ⟨o, n, ho, hc, _, hd⟩, _⟩ := I.list hs
      obtain ⟨as, hr⟩ := Dp.readsAll I ds _ its ha rv
      exact ⟨_, Reads.list ho hc hd hr⟩
  | .tuple ds, _, _, h, r => by
    cases h with
    | tup hs ha =>
      cases r
      obtain ⟨its, rv, ⟨o, ho, hc, n, hd⟩, _⟩ := I.tuple hs
      obtain ⟨as, hr⟩ := Dp.readsAll I ds _ its ha rv
      exact ⟨_, Reads.tuple ho hc hd hr⟩
  | .dict _, _, _, h, _ => by cases h
theorem Dp.readsAll (I : Inv X pins σ H s) : ∀ (ds : List PyData) (vs : List V) (us : List Value), DpAll X.K H vs ds → Vals vs us → ∃ as, ReadsAll s.heap us ds as
  | [], _, _, h, r => by
    cases h
    cases r
    exact ⟨_, ReadsAll.nil⟩
  | d :: ds, _, _, h, r => by
    cases h with
    | cons h1 h2 =>
      cases r with
      | cons r1 r2 =>
        obtain ⟨as, q1⟩ := Dp.reads I d _ _ h1 r1
        obtain ⟨bs, q2⟩ := Dp.readsAll I ds _ _ h2 r2
        exact ⟨_, ReadsAll.cons q1 q2⟩
end
end
section
variable {X : Cx}
def rEqD (K : PySem.W.Frag) : R2 := fun x y H Q => ∃ d e, Dp K H x d ∧ Dp K H y e ∧ SeqAt.shaped d = true ∧ SeqAt.shaped e = true ∧ Q (.bl (PyData.eqv d e)) H
theorem op_eqD (hu : X.A.units + 64 < cLine) : OpR X (compareOp .Eq) (rEqD X.K) := by
  intro pins s σ H x y v u Q I rx ry h
  obtain ⟨d, e, hd, he, sd, se, q⟩ := h
  obtain ⟨as, r1⟩ := Dp.reads I d x v hd rx
  obtain ⟨bs, r2⟩ := Dp.reads I e y u he ry
  exact SeqAt.compareEq_shaped r1 r2 sd se hu ⟨.bl _, H, I, rfl, q⟩
end
end L2
namespace L2
open PySem PySem.Spec PyProof.Rows
section
variable {κ : Type} [DecidableEq κ]
def valV (kvs : List (κ × V)) (k : κ) : Option V := (kvs.find? fun kv => decide (kv.1 = k)).map (·.2)
def putK (kvs : List (κ × V)) (k : κ) (v : V) : List (κ × V) :=
  if (kvs.any fun kv => decide (kv.1 = k)) = true then kvs.map (fun kv => if kv.1 = k then (kv.1, v) else kv) else kvs ++ [(k, v)]
theorem valV_pos {p : κ × V} {r : List (κ × V)} {k : κ} (e : p.1 = k) : valV (p :: r) k = some p.2 := by simp [valV, List.find?_cons, e]
theorem valV_neg {p : κ × V} {r : List (κ × V)} {k : κ} (e : ¬ p.1 = k) : valV (p :: r) k = valV r k := by simp [valV, List.find?_cons, e]
theorem valV_any (k : κ) : ∀ kvs : List (κ × V), (kvs.any fun kv => decide (kv.1 = k)) = (valV kvs k).isSome
  | [] => rfl
  | p :: r => by
    rw [List.any_cons]
    by_cases e : p.1 = k
    · simp only [valV_pos e, decide_eq_true e, Bool.true_or, Option.isSome_some]
    · rw [valV_neg e, decide_eq_false e, Bool.false_or]; exact valV_any k r
theorem valV_map (k j : κ) (y : V) : ∀ kvs : List (κ × V), valV (kvs.map fun kv => if kv.1 = k then (kv.1, y) else kv) j = (valV kvs j).map fun x => if j = k then y else x
  | [] => rfl
  | p :: r => by
    have ih := valV_map k j y r
    rw [List.map_cons]
    by_cases h : p.1 = k
    · rw [if_pos h]
      by_cases e : p.1 = j
      · rw [valV_pos (p := (p.1, y)) e, valV_pos e, Option.map_some, if_pos (e.symm.trans h)]
      · rw [valV_neg (p := (p.1, y)) e, valV_neg e, ih]
    · rw [if_neg h]
      by_cases e : p.1 = j
      · rw [valV_pos (p := p) e, valV_pos e, Option.map_some, if_neg (fun z => h (e.trans z))]
      · rw [valV_neg (p := p) e, valV_neg e, ih]
theorem valV_snoc (k j : κ) (y : V) : ∀ kvs : List (κ × V), valV kvs k = none → valV (kvs ++ [(k, y)]) j = if j = k then some y else valV kvs j
  | [], _ => by
    by_cases e : k = j
    · rw [if_pos e.symm]; exact valV_pos (p := (k, y)) e
    · rw [if_neg (fun z => e z.symm)]; exact valV_neg (p := (k, y)) e
  | p :: r, hn => by
    rw [List.cons_append]
    have hk : ¬ p.1 = k := fun z => by rw [valV_pos z] at hn; cases hn
    rw [valV_neg hk] at hn
    have ih := valV_snoc k j y r hn
    by_cases e : p.1 = j
    · rw [valV_pos e, valV_pos e, if_neg (fun z => hk (e.trans z))]
    · rw [valV_neg e, valV_neg e, ih]
theorem valV_put (kvs : List (κ × V)) (k j : κ) (y : V) : valV (putK kvs k y) j = if j = k then some y else valV kvs j := by
  unfold putK
  by_cases a : (kvs.any fun kv => decide (kv.1 = k)) = true
  · rw [if_pos a, valV_map]
    rw [valV_any] at a
    by_cases e : j = k
    · obtain ⟨x, hx⟩ := Option.isSome_iff_exists.mp a
      rw [if_pos e, e, hx, Option.map_some, if_pos rfl]
    · rw [if_neg e]
      cases valV kvs j with
      | none => rfl
      | some x => rw [Option.map_some, if_neg e]
  · rw [if_neg a]
    refine valV_snoc k j y kvs ?_
    rw [valV_any] at a
    cases q : valV kvs k with
    | none => rfl
    | some x => rw [q] at a; exact (a rfl).elim
theorem length_putK (kvs : List (κ × V)) (k : κ) (v : V) : (putK kvs k v).length ≤ kvs.length + 1 := by
  unfold putK
  split
  · rw [List.length_map]; omega
  · rw [List.length_append, List.length_cons, List.length_nil]; omega
theorem RelO.isSome_eq {o : Option V} {u : Option Value} (r : RelO o u) : o.isSome = u.isSome := by
  cases o with
  | none => cases u with
    | none => rfl
    | some _ => exact (show False from r).elim
  | some _ => cases u with
    | none => exact (show False from r).elim
    | some _ => rfl
theorem KV.val {kvs : List (κ × V)} {vs : List (κ × Value)} (r : KV kvs vs) (k : κ) : RelO (valV kvs k) (valueAt vs k) := by
  unfold KV at r
  induction r with
  | nil => exact True.intro
  | @cons p q ps qs h t ih =>
    obtain ⟨h1, h2⟩ := h
    by_cases e : p.1 = k
    · have e' : q.1 = k := h1.symm.trans e
      have b : valueAt (q :: qs) k = some q.2 := by simp [valueAt, List.find?_cons, e']
      rw [valV_pos e, b]; exact h2
    · have e' : ¬ q.1 = k := fun z => e (h1.trans z)
      have b : valueAt (q :: qs) k = valueAt qs k := by simp [valueAt, List.find?_cons, e']
      rw [valV_neg e, b]; exact ih
theorem KV.any {kvs : List (κ × V)} {vs : List (κ × Value)} (r : KV kvs vs) (k : κ) : (kvs.any fun kv => decide (kv.1 = k)) = vs.any fun kv => decide (kv.1 = k) := by
  unfold KV at r
  induction r with
  | nil => rfl
  | cons h t ih => rw [List.any_cons, List.any_cons, ih, h.1]
theorem KV.repl {kvs : List (κ × V)} {vs : List (κ × Value)} (r : KV kvs vs) (k : κ) {y : V} {u : Value} (ry : RelV y u) :
    KV (kvs.map fun kv => if kv.1 = k then (kv.1, y) else kv) (vs.map fun kv => if kv.1 = k then (kv.1, u) else kv) := by
  unfold KV at r ⊢
  induction r with
  | nil => exact .nil
  | @cons p q ps qs h t ih =>
    rw [List.map_cons, List.map_cons]
    refine .cons ?_ ih
    obtain ⟨h1, h2⟩ := h
    by_cases e : p.1 = k
    · rw [if_pos e, if_pos (h1.symm.trans e)]; exact ⟨h1, ry⟩
    · rw [if_neg e, if_neg (fun z => e (h1.trans z))]; exact ⟨h1, h2⟩
theorem KV.put {kvs : List (κ × V)} {vs : List (κ × Value)} (r : KV kvs vs) (k : κ) {y : V} {u : Value} (ry : RelV y u) : KV (putK kvs k y) (stored vs k u) := by
  unfold putK stored
  rw [r.any k]
  by_cases e : (vs.any fun kv => decide (kv.1 = k)) = true
  · rw [if_pos e, if_pos e]; exact r.repl k ry
  · rw [if_neg e, if_neg e]; exact Paired.snoc r ⟨rfl, ry⟩
theorem KV.length {kvs : List (κ × V)} {vs : List (κ × Value)} (r : KV kvs vs) : kvs.length = vs.length := Paired.length r
end
theorem kV_is {P : Program} {w : World} {k : Key} {u : Value} (r : RelV (kV k) u) : (mixKind P w).is k u = true := by
  cases k with
  | inl i => obtain ⟨t, e⟩ := (show ∃ t, u = Value.int i t from r); subst e; exact mixKind_int P w i t
  | inr x => obtain ⟨t, e⟩ := (show ∃ t, u = Value.str x t from r); subst e; exact mixKind_str P w x t
theorem items_are {P : Program} {w : World} : ∀ {ks : List Key} {us : List Value}, Vals (ks.map kV) us → ItemsAre (mixKind P w) ks us
  | [], _, r => by rw [List.map_nil] at r; cases r; exact .nil
  | k :: ks, _, r => by
    rw [List.map_cons] at r
    cases r with
    | cons h t => exact .cons (kV_is h) (items_are t)
abbrev KT (H : Hp) : List (List Key × V) → List (List Key × Addr × Value) → Prop := Paired fun p q => p.1 = q.1 ∧ H q.2.1 = some (.tup (p.1.map kV)) ∧ RelV p.2 q.2.2
theorem KT.val {H : Hp} {kvs : List (List Key × V)} {xs : List (List Key × Addr × Value)} (r : KT H kvs xs) (k : List Key) : RelO (valV kvs k) ((atKey xs k).map (·.2)) := by
  induction r with
  | nil => exact True.intro
  | @cons p q ps qs h t ih =>
    obtain ⟨h1, _, h2⟩ := h
    by_cases e : p.1 = k
    · have e' : q.1 = k := h1.symm.trans e
      have b : atKey (q :: qs) k = some q.2 := by simp [atKey, List.find?_cons, e']
      rw [valV_pos e, b]; exact h2
    · have e' : ¬ q.1 = k := fun z => e (h1.trans z)
      have b : atKey (q :: qs) k = atKey qs k := by simp [atKey, List.find?_cons, e']
      rw [valV_neg e, b]; exact ih
theorem KT.repl {H : Hp} {kvs : List (List Key × V)} {xs : List (List Key × Addr × Value)} (r : KT H kvs xs) (k : List Key) {y : V} {u : Value} (ry : RelV y u) :
    KT H (kvs.map fun kv => if kv.1 = k then (kv.1, y) else kv) (xs.map (putAt k u)) := by
  induction r with
  | nil => exact .nil
  | @cons p q ps qs h t ih =>
    rw [List.map_cons, List.map_cons]
    refine .cons ?_ ih
    obtain ⟨h1, h2, h3⟩ := h
    unfold putAt
    by_cases e : p.1 = k
    · rw [if_pos e, if_pos (h1.symm.trans e)]; exact ⟨h1, h2, ry⟩
    · rw [if_neg e, if_neg (fun z => e (h1.trans z))]; exact ⟨h1, h2, h3⟩
theorem KT.put {H : Hp} {kvs : List (List Key × V)} {xs : List (List Key × Addr × Value)} (r : KT H kvs xs) (k : List Key) {b : Addr} {y : V} {u : Value} (hb : H b = some (.tup (k.map kV))) (ry : RelV y u) :
    KT H (putK kvs k y) (storedH xs k b u) := by
  have e : (kvs.any fun kv => decide (kv.1 = k)) = (atKey xs k).isSome := by
    rw [valV_any, (r.val k).isSome_eq, Option.isSome_map]
  unfold putK storedH
  rw [e]
  by_cases q : (atKey xs k).isSome = true
  · rw [if_pos q, if_pos q]; exact r.repl k ry
  · rw [if_neg q, if_neg q]; exact Paired.snoc r ⟨rfl, hb, ry⟩
theorem KT.keeps {H H' : Hp} {kvs : List (List Key × V)} {xs : List (List Key × Addr × Value)} (r : KT H kvs xs) (ht : ∀ b ys, H b = some (.tup ys) → H' b = some (.tup ys)) : KT H' kvs xs :=
  Paired.mapP r fun _ _ z => ⟨z.1, ht _ _ z.2.1, z.2.2⟩
section
variable {P : Program} {w : World} {H : Hp} {h : Heap} {a : Addr}
theorem rd_of {u : HO} (ok : HOk P w H h) (e : Rd H a u) : ObjOk P w H h a u := e.ok ok
theorem dk_rd {kvs : List (Key × V)} (ok : HOk P w H h) (e : Rd H a (.dK kvs)) : kvs.length ≤ sizeLine ∧ (a == sysModules) = false ∧ ∃ vs, KV kvs vs ∧ h.DictOf (mixKind P w) a vs :=
  show ObjOk P w H h a (.dK kvs) from rd_of ok e
theorem dk_of {kvs : List (Key × V)} (ok : HOk P w H h) (e : H a = some (.dK kvs)) : kvs.length ≤ sizeLine ∧ (a == sysModules) = false ∧ ∃ vs, KV kvs vs ∧ h.DictOf (mixKind P w) a vs := dk_rd ok (.inl e)
theorem key_of {ks : List Key} (ok : HOk P w H h) (e : H a = some (.tup (ks.map kV))) : (tupleKind (mixKind P w)).is h ks a := by
  obtain ⟨_, its, r, o, h1, h2, n, h3⟩ := (show ObjOk P w H h a (.tup (ks.map kV)) from ok a _ e)
  exact ⟨o, its.toArray, n, h1, h2, h3, by simpa using items_are r⟩
theorem dt_rd {kvs : List (List Key × V)} (ok : HOk P w H h) (e : Rd H a (.dT kvs)) : kvs.length ≤ sizeLine ∧ (a == sysModules) = false ∧
    ∃ xs, KT H kvs xs ∧ h.DictOfH (tupleKind (mixKind P w)) a xs := by
  obtain ⟨z, y, xs, r, o, es, ep, h1, h2, h3, h4, h5⟩ := (show ObjOk P w H h a (.dT kvs) from rd_of ok e)
  refine ⟨z, y, xs, r, o, es, ep, h1, h2, h3, h4, fun x hx => ?_, h5⟩
  have all : ∀ {l : List (List Key × V)} {m : List (List Key × Addr × Value)}, KT H l m → ∀ x ∈ m, (tupleKind (mixKind P w)).is h x.1 x.2.1 := by
    intro l m q
    induction q with
    | nil => intro x hx; exact nomatch hx
    | @cons p q ps qs hq t ih =>
      intro x hx
      rcases List.mem_cons.mp hx with e | hx
      · subst e
        exact key_of ok (by rw [← hq.1]; exact hq.2.1)
      · exact ih x hx
  exact all r x hx
theorem dt_of {kvs : List (List Key × V)} (ok : HOk P w H h) (e : H a = some (.dT kvs)) : kvs.length ≤ sizeLine ∧ (a == sysModules) = false ∧
    ∃ xs, KT H kvs xs ∧ h.DictOfH (tupleKind (mixKind P w)) a xs := dt_rd ok (.inl e)
end
def DGet (H : Hp) (a : Addr) (y : V) (r : Option V) : Prop :=
  (∃ kvs k, Rd H a (.dK kvs) ∧ y = kV k ∧ r = valV kvs k) ∨ ∃ kvs k b, Rd H a (.dT kvs) ∧ y = .ref b ∧ H b = some (.tup (k.map kV)) ∧ r = valV kvs k
def DPut (H : Hp) (a : Addr) (y v : V) (H' : Hp) : Prop :=
  (∃ kvs k, H a = some (.dK kvs) ∧ y = kV k ∧ kvs.length < sizeLine ∧ H' = upd H a (.dK (putK kvs k v))) ∨
  ∃ kvs k b, H a = some (.dT kvs) ∧ y = .ref b ∧ H b = some (.tup (k.map kV)) ∧ kvs.length < sizeLine ∧ H' = upd H a (.dT (putK kvs k v))
theorem DGet.k {H : Hp} {a : Addr} {kvs : List (Key × V)} {k : Key} (e : H a = some (.dK kvs)) : DGet H a (kV k) (valV kvs k) := .inl ⟨kvs, k, .inl e, rfl, rfl⟩
theorem DPut.k {H : Hp} {a : Addr} {kvs : List (Key × V)} {k : Key} {v : V} (e : H a = some (.dK kvs)) (hl : kvs.length < sizeLine) : DPut H a (kV k) v (upd H a (.dK (putK kvs k v))) := .inl ⟨kvs, k, e, rfl, hl, rfl⟩
section
variable {X : Cx} {pins : List (Addr × Obj)} {σ : St} {H : Hp} {s : Shared} {a : Addr} {y v : V} {u r : Value} {o : Option V} {A : Around} {E : Value → Shared → Prop}
theorem Inv.big (I : Inv X pins σ H s) : sysModules < s.heap.objs.size := by
  have h : mainGlobals < s.heap.objs.size := (I.mod.glob.keeps I.bk).lt
  exact Nat.lt_trans (by decide) h
theorem d_getItem {Q : Value → Shared → Prop} (hu : A.units + 1 < cLine) (I : Inv X pins σ H s) (g : DGet H a y (some v)) (ry : RelV y u) (h : ∀ w' s', Inv X pins σ H s' → RelV v w' → Q w' s') :
    wpAny (model X.prog X.w) A (getItem (.ref a) u) Q E s := by
  rcases g with ⟨kvs, k, e, ey, l⟩ | ⟨kvs, k, b, e, ey, eb, l⟩
  · subst ey
    obtain ⟨z, hd, vs, rel, dd⟩ := dk_rd I.hok e
    obtain ⟨w', hw, rw'⟩ := RelO.some_of (v := v) (o := valueAt vs k) (by rw [l]; exact rel.val k)
    exact wpAny_getItem_of (kV_is ry) dd.mapOf hw (h w' _ (I.tok _) rw')
  · subst ey
    cases (show u = Value.ref b from ry)
    obtain ⟨z, hd, xs, rel, dd⟩ := dt_rd I.hok e
    obtain ⟨w', hw, rw'⟩ := RelO.some_of (v := v) (o := (atKey xs k).map (·.2)) (by rw [l]; exact rel.val k)
    obtain ⟨p, hp, hp2⟩ := Option.map_eq_some_iff.mp hw
    refine wpAny_getItem_heap (tupleKind_room_in1 hu) (key_of I.hok eb) dd hp ?_
    rw [hp2]
    exact h w' _ (I.tok _) rw'
theorem d_in {Q : Value → Shared → Prop} (hu : A.units + 1 < cLine) (I : Inv X pins σ H s) (g : DGet H a y o) (ry : RelV y u) (h : ∀ s', Inv X pins σ H s' → Q (.bool o.isSome) s') :
    wpAny (model X.prog X.w) A (compareOp .In u (.ref a)) Q E s := by
  rcases g with ⟨kvs, k, e, ey, l⟩ | ⟨kvs, k, b, e, ey, eb, l⟩
  · subst ey
    obtain ⟨z, hd, vs, rel, dd⟩ := dk_rd I.hok e
    refine wpAny_in_of (kV_is ry) hd dd.mapOf ?_
    rw [← (rel.val k).isSome_eq, ← l]
    exact h _ (I.tok _)
  · subst ey
    cases (show u = Value.ref b from ry)
    obtain ⟨z, hd, xs, rel, dd⟩ := dt_rd I.hok e
    refine wpAny_in_heap (tupleKind_room_in1 hu) (key_of I.hok eb) hd dd ?_
    have q := (rel.val k).isSome_eq
    rw [Option.isSome_map] at q
    rw [← q, ← l]
    exact h _ (I.tok _)
theorem d_write {h' : Heap} {t' : Nat} {ob : HO} (I : Inv X pins σ H s) (mu : Mut (H a)) (hs : Heap.SameBut a s.heap h') (he : ∃ q, h'.get? a = some q) (new : ObjOk X.prog X.w (upd H a ob) h' a ob) :
    Inv X pins σ (upd H a ob) { s with heap := h', toks := t' } :=
  I.write (x := a) (e := a) mu (.inl rfl) (fun b q hb z => (hs.2 b hb).trans z) he new
theorem dk_new {P : Program} {w : World} {H' : Hp} {h' : Heap} {kvs : List (Key × V)} {vs : List (Key × Value)} (z : kvs.length ≤ sizeLine) (hd : (a == sysModules) = false) (rel : KV kvs vs) (dd : h'.DictOf (mixKind P w) a vs) :
    ObjOk P w H' h' a (.dK kvs) := ⟨z, hd, vs, rel, dd⟩
theorem d_setItem {H' : Hp} {Q : Unit → Shared → Prop} (hu : A.units + 1 < cLine) (I : Inv X pins σ H s) (g : DPut H a y v H') (ry : RelV y u) (rv : RelV v r) (h : ∀ s', Inv X pins σ H' s' → Q () s') :
    wpAny (model X.prog X.w) A (setItem (.ref a) u r) Q E s := by
  rcases g with ⟨kvs, k, e, ey, l, eH⟩ | ⟨kvs, k, b, e, ey, eb, l, eH⟩
  · subst ey eH
    obtain ⟨z, hd, vs, rel, dd⟩ := dk_of I.hok e
    have hz : vs.length ≤ sizeLine := by rw [← rel.length]; exact z
    have hl : (putK kvs k v).length ≤ sizeLine := by have := length_putK kvs k v; omega
    refine wpAny_setItem_pairs (hsz := hz) (kV_is ry) dd fun h' dd' hs => h _ ?_
    have he : ∃ q, h'.get? a = some q := let ⟨q, _, _, hq, _⟩ := dd'; ⟨q, hq⟩
    exact d_write I (by rw [e]; exact True.intro) hs he (dk_new hl hd (rel.put k rv) dd')
  · subst ey eH
    cases (show u = Value.ref b from ry)
    obtain ⟨z, hd, xs, rel, dd⟩ := dt_of I.hok e
    have hz : xs.length ≤ sizeLine := by rw [← Paired.length rel]; exact z
    have hl : (putK kvs k v).length ≤ sizeLine := by have := length_putK kvs k v; omega
    refine wpAny_setItem_heap (hsz := hz) (tupleKind_room_in1 hu) (key_of I.hok eb) dd fun h' dd' hs => h _ ?_
    obtain ⟨q, es, ep, hq, h2, h3, h4, _, h5⟩ := dd'
    refine d_write I (by rw [e]; exact True.intro) hs ⟨q, hq⟩ ⟨hl, hd, _, (rel.put k eb rv).keeps fun c ys ec => ?_, q, es, ep, hq, h2, h3, h4, h5⟩
    rw [upd_ne (ne_of ec e (fun z => nomatch z))]
    exact ec
end
def NoSl (i : Expr) : Prop := ∀ ov iv, subscripted i false ov iv = operate [ov, iv] (getItem ov iv)
theorem subD_of {prog : Program} {w : World} {A : Around} {E : Value → Shared → Prop} {s : Shared} {env : Env} {value slice : Expr} {pos : Pos} {T id : String} {Q : Value → Shared → Prop}
    (hl : typeLookup (.type T) "__getitem__" = pure (some (.builtin id))) (hs : NoSl slice)
    (h : wpAny (model prog w) A (eval value env) (fun o s₁ => wpAny (model prog w) A (eval slice env) (fun i s₂ => s₂.TypeIs o T ∧ wpAny (model prog w) A (getItem o i) Q E s₂) E s₁) E s) :
    wpAny (model prog w) A (eval (.Subscript value slice pos) env) Q E s := by
  refine Subscript_ (wpAny_mono h (fun o s₁ h₁ => wpAny_mono h₁ (fun i s₂ h₂ => ?_) fun _ _ x => x) fun _ _ x => x)
  obtain ⟨hT, h₂⟩ := h₂
  unfold subscriptTail
  refine wpAny_bind ?_
  rw [getitemInPython_of_ne hT.not_modules]
  refine wpAny_bind (wpAny_specialOf hT hl ?_)
  have fin : wpAny (model prog w) A (subscripted slice false o i) (fun r s₃ => wpAny (model prog w) A (letTemporaryGo value o r >>= fun _ => pure r) Q E s₃) E s₂ := by
    rw [hs o i]
    exact wpAny_operating (wpAny_mono h₂ (fun r s₃ h₃ => wpAny_bind (wpAny_letTemporaryGo (wpAny_pure h₃))) fun _ _ x => x)
  first
    | exact wpAny_pure (wpAny_bind fin)
    | exact wpAny_bind (wpAny_pure (wpAny_bind fin))
    | exact wpAny_bind fin
theorem dict_typeIs {X : Cx} {pins : List (Addr × Obj)} {σ : St} {H : Hp} {s : Shared} {a : Addr} {y : V} {o : Option V} (I : Inv X pins σ H s) (g : DGet H a y o) : s.TypeIs (.ref a) "dict" := by
  rcases g with ⟨kvs, k, e, _, _⟩ | ⟨kvs, k, b, e, _, _, _⟩
  · obtain ⟨_, _, vs, _, dd⟩ := dk_rd I.hok e
    exact dd.typeIs
  · obtain ⟨_, _, xs, _, dd⟩ := dt_rd I.hok e
    exact dd.typeIs
def tDGet (td ty : TE) : TE := fun σ H Q => td σ H fun x H1 => ty σ H1 fun y H2 => ∃ a v, x = .ref a ∧ DGet H2 a y (some v) ∧ Q v H2
def tDIn (ty td : TE) : TE := fun σ H Q => ty σ H fun y H1 => td σ H1 fun x H2 => ∃ a o, x = .ref a ∧ DGet H2 a y o ∧ Q (.bl o.isSome) H2
def sDPut (td ty tv : TE) : TS := fun D σ H => tv σ H fun v H1 => td σ H1 fun x H2 => ty σ H2 fun y H3 => ∃ a H4, x = .ref a ∧ DPut H3 a y v H4 ∧ D.nx σ H4
section
variable {X : Cx} {o i e value : Expr} {pos pos' tpos : Pos} {td ty tv : TE}
theorem pe_dget (hu : X.A.units + 1 < cLine) (ho : PE X o td) (hi : PE X i ty) (hs : NoSl i) : PE X (.Subscript o i pos) (tDGet td ty) := by
  intro pins s σ H Q I h
  refine subD_of PySem.F.slot_dict_getitem.lookup hs (thn (ho pins s σ H _ I h) fun u s1 ⟨x, H1, I1, rx, q1⟩ => thn (hi pins s1 σ H1 _ I1 q1) fun iv s2 ⟨y, H2, I2, ry, a, v, ex, g, q2⟩ => ?_)
  subst ex
  obtain rfl : u = Value.ref a := rx
  exact ⟨dict_typeIs I2 g, d_getItem hu I2 g ry fun w' s3 I3 rw' => ⟨v, H2, I3, rw', q2⟩⟩
theorem pc_din (hu : X.A.units + 1 < cLine) (hi : PE X i ty) (ho : PE X o td) : PC X .In i o (tDIn ty td) := by
  intro pins s σ H Q I h
  refine thn (hi pins s σ H _ I h) fun iv s1 ⟨y, H1, I1, ry, q1⟩ => thn (ho pins s1 σ H1 _ I1 q1) fun u s2 ⟨x, H2, I2, rx, a, ov, ex, g, q2⟩ => ?_
  subst ex
  obtain rfl : u = Value.ref a := rx
  exact d_in hu I2 g ry fun s3 I3 => ⟨.bl ov.isSome, H2, I3, rfl, q2⟩
theorem ps_dput (hu : X.A.units + 1 < cLine) (ho : PE X o td) (hi : PE X i ty) (hv : PE X value tv) (hs : swapsWith value (some (.Subscript o i pos')) pos.line X.env = pure false) :
    PS X (.Assign [.Subscript o i pos'] value pos) (sDPut td ty tv) := by
  intro pins s σ H D I h
  refine wpAny_Assign_Subscript (thn (hv pins s σ H _ I h) fun r s1 ⟨v, H1, I1, rv, q1⟩ => thn (ho pins s1 σ H1 _ I1 q1) fun u s2 ⟨x, H2, I2, rx, q2⟩ => thn (hi pins s2 σ H2 _ I2 q2) fun iv s3 ⟨y, H3, I3, ry, a, H4, ex, g, q3⟩ => ?_) hs
  subst ex
  obtain rfl : u = Value.ref a := rx
  exact d_setItem hu I3 g ry rv fun s4 I4 => ⟨σ, H4, I4, q3⟩
end
theorem dk_empty {P : Program} {w : World} {H : Hp} (h : Heap) (hb : sysModules < h.objs.size) : ObjOk P w H (h.push { cls := .type "dict", data := .dict #[] }) h.objs.size (.dK []) :=
  ⟨Nat.zero_le _, beq_eq_false_iff_ne.mpr (Ne.symm (Nat.ne_of_lt hb)), [], .nil, Heap.DictOf.new h⟩
def tDNewK : TE := fun _ H Q => ∀ p, H p = none → Q (.ref p) (upd H p (.dK []))
section
variable {X : Cx} {pos : Pos}
theorem pe_dnewK : PE X (.Dict [] [] pos) tDNewK := fun pins s σ H Q I h =>
  wpAny_Dict_empty ⟨.ref s.heap.objs.size, _, I.laid (a := s.heap.objs.size) (o := .dK []) (t' := s.toks) (fun _ _ q => Heap.get?_push_of_some _ q) (Nat.le_refl _) (dk_empty s.heap I.big), rfl, h _ (I.hok.fresh (Nat.le_refl _))⟩
end
structure M2 (X : Cx) (o : Expr) (m : Str) (apos : Pos) (e f : Expr) (cpos : Pos) : Prop where
  base : attributeBase o m X.env (eval o X.env) = eval o X.env
  few : ((backTo cpos (starEach [e, f] X.env)).all (fun x => !x.1) && (backToKw cpos (keywordEach [] X.env)).all (fun x => x.1.isSome)
    && decide (([e, f] : List Expr).length + ([] : List Keyword).length + (if ([] : List Keyword).isEmpty then 0 else 1) < 30)) = true
  line : (apos.endLine == cpos.line) = true
  trees : backTo cpos (starEach [e, f] X.env) = [(false, eval e X.env), (false, eval f X.env)]
end L2
namespace L2
open PySem PySem.Spec PyProof.Rows
section
variable {X : Cx} {pins : List (Addr × Obj)} {σ : St} {H : Hp} {s : Shared} {h' : Heap}
theorem Inv.turnedNew {t' : Nat} {ch : List Addr} {T : Addr} {ob : HO} (I : Inv X pins σ H s) (k : ∀ b o, b ∉ ch → s.heap.get? b = some o → h'.get? b = some o) (hf : ∀ b ∈ ch, FpOk X pins H b) (hT : s.heap.objs.size ≤ T)
    (new : ObjOk X.prog X.w (upd H T ob) h' T ob) : Inv X pins σ (upd H T ob) { s with heap := h', toks := t' } := by
  have hn : H T = none := I.hok.fresh hT
  have nit : ∀ b u, H b = some u → b ∉ ch := fun b u e z => by
    have q := (hf b z).1
    rw [q] at e; cases e
  refine I.step (g' := s.gens) (d' := s.drawn) (ch := ch) (fun b hb => ⟨(hf b hb).2.2.2.1, (hf b hb).2.1, (hf b hb).2.2.2.2.1, (hf b hb).2.2.2.2.2⟩) (fun b o _ _ hc e _ => k b o hc e) (fun b o _ _ hc e _ => ⟨o.slots, k b o hc e⟩)
    (fun b o _ e n => ?_) (fun b o hc e => ⟨o, k b o hc e⟩) (fun b xs e => ?_) (fun b o u e => ?_) (fun b ps e => ⟨#[], ?_⟩) (fun m hm => ?_) (fun b u e => ?_) I.bare
  · rw [upd_ne (Nat.ne_of_lt (Nat.lt_of_lt_of_le (Heap.lt_size e) hT))]; exact n
  · rw [upd_ne (ne_of_none e hn)]; exact e
  · rw [upd_ne (ne_of_none e hn)]; exact e
  · rw [upd_ne (ne_of_none e hn), e]; simp
  · obtain ⟨o, es, ep, ho, r⟩ := hm
    exact ⟨o, es, ep, k _ o (fun z => (hf _ z).2.1 rfl) ho, r⟩
  · by_cases hb : b = T
    · subst hb
      rw [upd_same] at e
      cases e
      exact new
    · rw [upd_ne hb] at e
      refine (I.hok b u e).stay (fun c v hc q => k c v ?_ q) (fun c q => by rw [upd_ne (ne_of_none q hn)]; exact q) fun c xs q => by rw [upd_ne (ne_of_none q hn)]; exact q
      rcases hc with z | z
      · rw [z]; exact nit b u e
      · exact nit c _ z
end
end L2
namespace Att
open PySem PySem.W PySem.Calls PyProof.Rows
theorem ints_of_wellAll {P : Params} {h : Heap} : ∀ (ns : List Int) (vs : List Value), WellAll P h vs (ns.map WData.int) → IntsAre vs ns := by
  intro ns
  induction ns with
  | nil =>
    intro vs w
    rw [List.map_nil] at w
    cases w
    exact .nil
  | cons n ns ih =>
    intro vs w
    rw [List.map_cons] at w
    cases w with
    | cons a b =>
      cases a
      exact .cons _ _ (ih _ b)
end Att
namespace L2
open PySem PySem.Spec PyProof.Rows
theorem vals_ints : ∀ {vs : List Value} {ns : List Int}, IntsAre vs ns → Vals (ns.map V.int) vs
  | _, _, .nil => .nil
  | _, _, .cons n t h => .cons ⟨t, rfl⟩ (vals_ints h)
def Only (H : Hp) : Prop := ∀ b, H b = none ∨ ∃ o xs, H b = some (.frz o (.lst xs))
end L2
namespace L2
open PySem PySem.Spec PyProof.Rows
abbrev KOf {K : PySem.W.Frag} {h : Heap} (_ : K.In h) : PySem.W.Frag := K
end L2
namespace L2
open PySem PySem.Spec PyProof.Rows
def inClass (s : Stmt) (j : Nat) : Stmt := match s with
  | .ClassDef _ _ _ body _ _ _ _ _ _ _ => body.getD j (.Pass ⟨0, 0, 0, 0⟩)
  | _ => .Pass ⟨0, 0, 0, 0⟩
def defArgs (s : Stmt) : Arguments := match s with
  | .FunctionDef _ a _ _ _ _ _ _ _ _ => a
  | _ => { posonlyargs := [], args := [], vararg := none, kwonlyargs := [], kw_defaults := [], kwarg := none, defaults := [] }
def defBody (s : Stmt) : List Stmt := match s with
  | .FunctionDef _ _ b _ _ _ _ _ _ _ => b
  | _ => []
def defScope (s : Stmt) : Scope := match s with
  | .FunctionDef _ _ _ _ _ _ sc _ _ _ => sc
  | _ => { kind := .function, names := [], isGenerator := false, isCoroutine := false }
abbrev CX0 : CXT := fun _ _ _ _ _ _ => False
abbrev E0 : XK := fun _ _ _ => False
theorem pass0 {X : Cx} : Passes CX0 X E0 := fun _ _ _ _ _ _ _ h => h.elim
structure Fun (K : PySem.W.Frag) (x qual : Str) (st : Stmt) (f : Addr) (fd : FuncData) : Prop where
  ex : ∃ (oc : Value) (od : Option Addr) (kV doc pm : Value) (an : Option Addr) (cdv ct : Value) (osl : Array (Option Value)),
    fd = PySem.W.fnOf x qual (defArgs st) (defBody st) (defScope st) .none kV doc pm an cdv ct ∧ K.lookup f = some ⟨oc, od, .func fd, osl⟩ ∧ PySem.W.codeIn K cdv qual = true
  kp : PySem.W.keepIn K (.ref f) = true
section
variable {P : Program} {w : World} {K : PySem.W.Frag} {mg : Str → Option Value} {base : Heap}
theorem Fun.ok {x qual : Str} {st : Stmt} {f : Addr} {fd : FuncData} {N ps : List Str} {k : Nat} {sp : Sp} (F : Fun K x qual st f fd) (S : FnScope N ps (defScope st)) (len : ∀ vs H Q E, sp vs H Q E → vs.length = ps.length)
    (hbody : ∀ (cdv : Value) (A : Around) (outer : List Env) (s : Shared) (H : Hp) (vs : List V) (Q : VK) (E : XK), Room k (A.deeper (envOfC qual (defScope st) s.heap.objs.size f cdv)) → sp vs H Q E →
      ∃ t, PSs (cxOf CX0 P w K mg base N qual (defScope st) f cdv A outer s H E).nox (defBody st) t ∧ t { nx := fun _ H' => Q .non H', rt := Q } (start N vs) H) : FnOk P w K mg base CX0 (k + 1) f fd ps sp := by
  obtain ⟨oc, od, kV, doc, pm, an, cdv, ct, osl, rfl, lk, hcd⟩ := F.ex
  refine fn_of lk hcd S len fun A outer s H vs Q E hr hsp => ?_
  obtain ⟨t, h, q⟩ := hbody cdv A outer s H vs Q E hr hsp
  exact ⟨t, h.nox, q⟩
theorem Fun.binds {x qual : Str} {st : Stmt} {f : Addr} {fd : FuncData} {ps : List Str} (F : Fun K x qual st f fd)
    (h : ∀ (kV doc pm : Value) (an : Option Addr) (cdv ct : Value) (us : List Value), us.length = ps.length → bindArgs (PySem.W.fnOf x qual (defArgs st) (defBody st) (defScope st) .none kV doc pm an cdv ct) ⟨us, []⟩ = pure (ps.zip us)) : Binds K fd ps [] := by
  obtain ⟨oc, od, kV, doc, pm, an, cdv, ct, osl, rfl, lk, hcd⟩ := F.ex
  exact .all (h kV doc pm an cdv ct)
theorem fun_mk {x qual : Str} {st : Stmt} {f : Addr} {oc : Value} {od an : Option Addr} {osl : Array (Option Value)} {kV doc pm cdv ct : Value} (l : K.lookup f = some ⟨oc, od, .func (PySem.W.fnOf x qual (defArgs st) (defBody st) (defScope st) .none kV doc pm an cdv ct), osl⟩)
    (c : PySem.W.codeIn K cdv qual = true) (k : PySem.W.keepIn K (.ref f) = true) : Fun K x qual st f (PySem.W.fnOf x qual (defArgs st) (defBody st) (defScope st) .none kV doc pm an cdv ct) := ⟨⟨oc, od, kV, doc, pm, an, cdv, ct, osl, rfl, l, c⟩, k⟩
end
theorem hu_of {A : Around} {k : Nat} (hr : Room k A) : A.units + 1 < cLine := Nat.lt_of_le_of_lt (Nat.add_le_add_left (by decide : 1 ≤ 64) _) hr.units
theorem small1000 {n : Nat} (h : n ≤ 1000) : n < sizeLine := Nat.lt_of_le_of_lt h (by decide)
section
variable {X : Cx}
theorem pv (i : Nat) {x : Str} {pos : Pos} (hN : X.N[i]? = some x := by rfl) (hv : Vis X.env.scope x := by first | exact Or.inl rfl | exact Or.inr (Or.inl rfl) | exact Or.inr (Or.inr rfl)) (hd : (x == ("__debug__" : Str)) = false := by decide)
    (hcd : (x == ("__classdict__" : Str)) = false := by decide) : PE X (.Name x pos) (tVar i) := pe_var hN hv hd hcd
end
theorem iteF {A B : Prop} (h : B) : if false = true then A else B := by
  rw [if_neg Bool.false_ne_true]
  exact h
theorem iteT {A B : Prop} (h : A) : if true = true then A else B := by
  rw [if_pos rfl]
  exact h
def Same (H H' : Hp) : Prop := ∀ b o, H b = some o → H' b = some o
theorem Same.refl (H : Hp) : Same H H := fun _ _ h => h
theorem Same.trans {H H1 H2 : Hp} (a : Same H H1) (b : Same H1 H2) : Same H H2 := fun c o h => b c o (a c o h)
theorem Same.free {H H' : Hp} (e : Same H H') {l : Addr} (h : H' l = Option.none) : H l = Option.none := by
  cases q : H l with
  | none => rfl
  | some o =>
    rw [e l o q] at h
    cases h
theorem Same.seq {K : PySem.W.Frag} {H H' : Hp} {a : Addr} {xs : List V} (e : Same H H') (h : SqL K H a xs) : SqL K H' a xs := by
  rcases h with (h | ⟨o, h⟩) | h
  · exact .inl (.inl (e _ _ h))
  · exact .inl (.inr ⟨o, e _ _ h⟩)
  · exact .inr h
theorem at_of {xs : List V} {z : Int} {j : Nat} {v : V} (e : z = (j : Int)) (h : xs[j]? = some v) : atI xs z = some v := by
  rw [e]
  exact atI_nat h
theorem Same.made {H H1 : Hp} {x dx C : Addr} (nx : H x = Option.none) (nd : H dx = Option.none) (k : ∀ b o, (upd (upd H dx (.own x)) x (.ins C dx [])) b = some o → b ≠ x → H1 b = some o) : Same H H1 := fun b o e =>
  k b o (by rw [upd_ne (ne_of_none e nx), upd_ne (ne_of_none e nd)]; exact e) (ne_of_none e nx)
end L2
end
section
namespace SbX
open PySem
/-- what noting a frame leaves of a heap: e the exception, T its newest entry with the mark fl, T0 an entry it had -/
structure Noted (fs : List Addr) (e : Addr) (T0 : Option Addr) (oe : Obj) (T : Addr) (fl : Value) (h h' : Heap) : Prop where
  keep : ∀ b o, b ∉ fs → b ≠ e → T0 ≠ some b → h.get? b = some o → h'.get? b = some o
  slot : ∀ b o, b ∈ fs → b ≠ e → T0 ≠ some b → h.get? b = some o → ∃ sl, h'.get? b = some { o with slots := sl }
  exc : h'.get? e = some (oe.mapFields (·.setIfInBounds 1 (.ref T)))
  new : h.get? T = none
  ne : T ≠ e
  ent : ∃ oT ts, h'.get? T = some oT ∧ oT.data = .fields ts ∧ ts[3]? = some fl
section
variable {M : Model} {A : Around} {E : Value → Shared → Prop} {s : Shared}
theorem entry_laid {base : Heap} {env : Env} {outer : List Env} {L e : Addr} {oe : Obj} {vs : Array Value} {head : Value} {hadNext : Bool} {Q : Unit → Shared → Prop}
    (hfr : A.frames = some (env :: outer)) (hl : s.heap.FunFrames base (env :: outer)) (hf : env.frame = some L) (he : s.heap.get? e = some oe) (hd : oe.data = .fields vs) (hsz : 1 < vs.size)
    (h : ∀ h' T, Noted ((env :: outer).filterMap (·.frame)) e none oe T (rawInt L) s.heap h' → Q () { s with heap := h' }) :
    wpAny M A (do let a ← frameOf env; let pl ← entryPlaceOf L hadNext; let b ← EntryCells.newEntry head a .none (rawInt L) .none pl; setField (.ref e) 1 b) Q E s := by
  have hne : e ∉ (env :: outer).filterMap (·.frame) := fun hm => by
    obtain ⟨_, o, ho, hnf⟩ := hl.mem hm
    rw [he] at ho
    cases ho
    exact hnf vs hd
  refine wpAny_bind (wpAny_frameOf_fun hfr hl hf fun h1 hs1 => ?_)
  refine wpAny_bind (wpAny_entryPlaceOf fun pl hpl => ?_)
  unfold EntryCells.newEntry newFields
  refine wpAny_bind (wpAny_newObj_type ?_ (hpl.sizeOk5 _ _ _ _ _))
  generalize hO : ({ cls := .type "traceback", dict := none, data := .fields ([head, .ref L, .none, rawInt L, .none] ++ (if pl.isEmpty then List.replicate 6 Value.none else pl)).toArray } : Obj) = O
  have e1 : h1.get? e = some oe := (hs1.2.1 e hne).trans he
  have e2 := Heap.get?_push_of_some (h := h1) O e1
  refine wpAny_setField e2 hd hsz (h _ h1.objs.size ?_)
  have tne : h1.objs.size ≠ e := Nat.ne_of_gt (Heap.lt_size e1)
  have hd3 := Obj.data_mapFields hd (·.setIfInBounds 1 (Value.ref h1.objs.size))
  refine ⟨fun b o hb hbe _ q => ?_, fun b o hb hbe _ q => ?_, ?_, Heap.get?_none_of_le (by rw [hs1.1]; exact Nat.le_refl _), tne, ?_⟩
  · rw [Heap.get?_update_other _ _ (Ne.symm hbe)]
    exact Heap.get?_push_of_some _ ((hs1.2.1 b hb).trans q)
  · obtain ⟨sl, hs⟩ := hs1.2.2 b o q
    refine ⟨sl, ?_⟩
    rw [Heap.get?_update_other _ _ (Ne.symm hbe)]
    exact Heap.get?_push_of_some _ hs
  · exact Heap.get?_update_self _ e2 (Obj.isFreed_of_fields hd3)
  · refine ⟨O, ([head, .ref L, .none, rawInt L, .none] ++ (if pl.isEmpty then List.replicate 6 Value.none else pl)).toArray, ?_, by rw [← hO], ?_⟩
    · rw [Heap.get?_update_other _ _ (Ne.symm tne)]
      exact Heap.get?_push_size h1 (by rw [← hO]; rfl)
    · simp
/-- an exception without an entry -/
theorem note_first {base : Heap} {env : Env} {outer : List Env} {L e : Addr} {oe : Obj} {vs : Array Value} {Q : Unit → Shared → Prop}
    (hfr : A.frames = some (env :: outer)) (hl : s.heap.FunFrames base (env :: outer)) (hf : env.frame = some L) (he : s.heap.get? e = some oe) (hd : oe.data = .fields vs) (h1 : vs[1]? = some .none)
    (h : ∀ h' T, Noted ((env :: outer).filterMap (·.frame)) e none oe T (rawInt L) s.heap h' → Q () { s with heap := h' }) : wpAny M A (noteFrame (.ref e) env) Q E s := by
  unfold noteFrame
  simp only [hf]
  refine wpAny_bind (wpAny_field he hd h1 ?_)
  rw [if_neg (by decide)]
  exact entry_laid hfr hl hf he hd (Array.getElem?_eq_some_iff.mp h1).1 h
/-- one that came from a call -/
theorem note_next {base : Heap} {env : Env} {outer : List Env} {L e T0 : Addr} {oe oT : Obj} {vs ts : Array Value} {Q : Unit → Shared → Prop}
    (hfr : A.frames = some (env :: outer)) (hl : s.heap.FunFrames base (env :: outer)) (hf : env.frame = some L) (he : s.heap.get? e = some oe) (hd : oe.data = .fields vs) (h1 : vs[1]? = some (.ref T0))
    (ht : s.heap.get? T0 = some oT) (hdt : oT.data = .fields ts) (h3 : ts[3]? = some .none) (hne : T0 ≠ e)
    (h : ∀ h' T, Noted ((env :: outer).filterMap (·.frame)) e (some T0) oe T (rawInt L) s.heap h' → Q () { s with heap := h' }) : wpAny M A (noteFrame (.ref e) env) Q E s := by
  unfold noteFrame
  simp only [hf]
  refine wpAny_bind (wpAny_field he hd h1 ?_)
  rw [if_pos (show (Value.ref T0 != Value.none) = true by simp)]
  refine wpAny_bind (wpAny_field ht hdt h3 ?_)
  rw [if_neg (show ¬ ((Value.none == rawInt L) = true) by simp [rawInt])]
  refine wpAny_bind (wpAny_setField ht hdt (Array.getElem?_eq_some_iff.mp h3).1 ?_)
  have oth : ∀ b, b ≠ T0 → (s.heap.update T0 (Obj.mapFields (·.setIfInBounds 3 Value.none))).get? b = s.heap.get? b := fun b hb => Heap.get?_update_other _ _ (Ne.symm hb)
  have nr : ∀ b o, s.heap.get? b = some o → (∀ vs, o.data ≠ .fields vs) → b ≠ T0 := fun b o hb hnf q => by
    rw [q, ht] at hb
    cases hb
    exact hnf ts hdt
  refine entry_laid (s := { s with heap := s.heap.update T0 (Obj.mapFields (·.setIfInBounds 3 Value.none)) }) hfr (hl.of_keeps fun b o hb hnf => ⟨o, (oth b (nr b o hb hnf)).trans hb, rfl⟩) hf ((oth e (Ne.symm hne)).trans he) hd (Array.getElem?_eq_some_iff.mp h1).1 fun h' T N => h h' T ?_
  have old : ∀ b, some T0 ≠ some b → b ≠ T0 := fun b q z => q (by rw [z])
  refine ⟨fun b o q1 q2 q3 q4 => N.keep b o q1 q2 (fun z => nomatch z) ((oth b (old b q3)).trans q4), fun b o q1 q2 q3 q4 => N.slot b o q1 q2 (fun z => nomatch z) ((oth b (old b q3)).trans q4), N.exc, ?_, N.ne, N.ent⟩
  cases q : s.heap.get? T with
  | none => rfl
  | some o =>
    have hn : (s.heap.update T0 (Obj.mapFields (·.setIfInBounds 3 Value.none))).get? T = none := N.new
    by_cases z : T = T0
    · subst z
      rw [Heap.get?_update_self _ ht (Obj.isFreed_of_fields (Obj.data_mapFields hdt _))] at hn
      cases hn
    · rw [oth T z, q] at hn
      cases hn
theorem note_again {env : Env} {L e T : Addr} {oe oT : Obj} {vs ts : Array Value} {Q : Unit → Shared → Prop} (hf : env.frame = some L) (he : s.heap.get? e = some oe) (hd : oe.data = .fields vs) (h1 : vs[1]? = some (.ref T))
    (ht : s.heap.get? T = some oT) (hdt : oT.data = .fields ts) (h3 : ts[3]? = some (rawInt L)) (h : Q () s) : wpAny M A (noteFrame (.ref e) env) Q E s :=
  wpAny_noteFrame_inFlight hf he hd h1 ht hdt h3 h
/-- the mark of the newest entry -/
theorem set_flight {e T : Addr} {oe oT : Obj} {vs ts : Array Value} {fr : Option Addr} {Q : Unit → Shared → Prop} (he : s.heap.get? e = some oe) (hd : oe.data = .fields vs) (h1 : vs[1]? = some (.ref T))
    (ht : s.heap.get? T = some oT) (hdt : oT.data = .fields ts) (hsz : 3 < ts.size) (h : Q () { s with heap := s.heap.update T (Obj.mapFields (·.setIfInBounds 3 (fr.elim .none fun f => rawInt f))) }) :
    wpAny M A (setFlight (.ref e) fr) Q E s := by
  unfold setFlight
  refine wpAny_bind (wpAny_field he hd h1 ?_)
  rw [if_pos (show (Value.ref T != Value.none) = true by simp)]
  exact wpAny_setField ht hdt hsz h
theorem Noted.marked {fs : List Addr} {e T : Addr} {T0 : Option Addr} {oe : Obj} {fl x : Value} {h h' : Heap} (N : Noted fs e T0 oe T fl h h') :
    Noted fs e T0 oe T x h (h'.update T (Obj.mapFields (·.setIfInBounds 3 x))) := by
  obtain ⟨oT, ts, ht, hdt, h3⟩ := N.ent
  have hs : 3 < ts.size := (Array.getElem?_eq_some_iff.mp h3).1
  have nT : ∀ b o, h.get? b = some o → T ≠ b := fun b o q z => by
    rw [← z, N.new] at q
    cases q
  refine ⟨fun b o q1 q2 q3 q4 => ?_, fun b o q1 q2 q3 q4 => ?_, ?_, N.new, N.ne, ?_⟩
  · rw [Heap.get?_update_other _ _ (nT b o q4)]
    exact N.keep b o q1 q2 q3 q4
  · rw [Heap.get?_update_other _ _ (nT b o q4)]
    exact N.slot b o q1 q2 q3 q4
  · rw [Heap.get?_update_other _ _ N.ne]
    exact N.exc
  · exact ⟨_, _, Heap.get?_update_self _ ht (Obj.isFreed_of_fields (Obj.data_mapFields hdt _)), Obj.data_mapFields hdt _, by simp [hs]⟩
theorem Noted.flight {fs : List Addr} {e T : Addr} {T0 : Option Addr} {oe : Obj} {fl : Value} {h : Heap} {fr : Option Addr} {vs : Array Value} {Q : Unit → Shared → Prop} (N : Noted fs e T0 oe T fl h s.heap) (hd : oe.data = .fields vs) (hsz : 1 < vs.size)
    (q : ∀ h', Noted fs e T0 oe T (fr.elim .none fun f => rawInt f) h h' → Q () { s with heap := h' }) : wpAny M A (setFlight (.ref e) fr) Q E s := by
  obtain ⟨oT, ts, ht, hdt, h3⟩ := N.ent
  exact set_flight N.exc (Obj.data_mapFields hd _) (by simp [hsz]) ht hdt (Array.getElem?_eq_some_iff.mp h3).1 (q _ N.marked)
theorem leave_first {base : Heap} {env : Env} {outer : List Env} {L e : Addr} {oe : Obj} {vs : Array Value} {Q : Unit → Shared → Prop}
    (hfr : A.frames = some (env :: outer)) (hl : s.heap.FunFrames base (env :: outer)) (hf : env.frame = some L) (he : s.heap.get? e = some oe) (hd : oe.data = .fields vs) (h1 : vs[1]? = some .none)
    (h : ∀ h' T, Noted ((env :: outer).filterMap (·.frame)) e none oe T .none s.heap h' → Q () { s with heap := h' }) : wpAny M A (leaving env (.ref e)) Q E s := by
  unfold leaving
  exact wpAny_bind (note_first hfr hl hf he hd h1 fun h' T N => N.flight (s := { s with heap := h' }) (fr := none) hd (Array.getElem?_eq_some_iff.mp h1).1 fun h'' N' => h h'' T N')
theorem leave_next {base : Heap} {env : Env} {outer : List Env} {L e T0 : Addr} {oe oT : Obj} {vs ts : Array Value} {Q : Unit → Shared → Prop}
    (hfr : A.frames = some (env :: outer)) (hl : s.heap.FunFrames base (env :: outer)) (hf : env.frame = some L) (he : s.heap.get? e = some oe) (hd : oe.data = .fields vs) (h1 : vs[1]? = some (.ref T0))
    (ht : s.heap.get? T0 = some oT) (hdt : oT.data = .fields ts) (h3 : ts[3]? = some .none) (hne : T0 ≠ e)
    (h : ∀ h' T, Noted ((env :: outer).filterMap (·.frame)) e (some T0) oe T .none s.heap h' → Q () { s with heap := h' }) : wpAny M A (leaving env (.ref e)) Q E s := by
  unfold leaving
  exact wpAny_bind (note_next hfr hl hf he hd h1 ht hdt h3 hne fun h' T N => N.flight (s := { s with heap := h' }) (fr := none) hd (Array.getElem?_eq_some_iff.mp h1).1 fun h'' N' => h h'' T N')
end
end SbX
end
section
set_option maxHeartbeats 4000000
namespace SbX
open PySem
abbrev vMro : List Value := [.type "ValueError", .type "Exception", .type "BaseException", .type "object"]
structure FaultAt (h : Heap) (C : Addr) (mN : Str → Option Value) : Prop where
  cls : ∃ nm q N bs sn sub ab col dd k0 k1 k2 k3 k5, h.get? C = some (excClassObj nm q C N bs vMro true sn sub ab col dd k0 k1 k2 k3 k5 "ValueError.__new__") ∧ h.Ns N mN
section
variable {prog : Program} {w : World} {A : Around} {E : Value → Shared → Prop} {h : Heap} {g : Array GenState} {d : Drawn} {t : Nat} {os : OsState} {a C dx : Addr} {o : Obj} {vs : Array Value} {mN mA : Str → Option Value}
theorem fault_look {M : Model} {n : Str} {y : Option Value} {Q : Option Value → Shared → Prop} (F : FaultAt h C mN) (hn : mN n = none) (hB : typeLookup (.type "ValueError") n = pure y) (hq : Q y ⟨h, g, d, t, os⟩) :
    wpAny M A (typeLookup (.ref C) n) Q E ⟨h, g, d, t, os⟩ := by
  obtain ⟨nm, q, N, bs, sn, sub, ab, col, dd, k0, k1, k2, k3, k5, hC, hN⟩ := F.cls
  refine wpAny_typeLookup_exc (B := "ValueError") hC hN PySem.F.excBase_ValueError.mroIs hB ?_
  rw [hn]
  exact hq
theorem fault_sub {M : Model} {base : Value} {Q : Bool → Shared → Prop} (F : FaultAt h C mN) (hq : Q ((Value.ref C :: vMro).contains base) ⟨h, g, d, t, os⟩) : wpAny M A (isSubtype (.ref C) base) Q E ⟨h, g, d, t, os⟩ := by
  obtain ⟨nm, q, N, bs, sn, sub, ab, col, dd, k0, k1, k2, k3, k5, hC, hN⟩ := F.cls
  exact wpAny_isSubtype_exc hC hq
theorem fault_inst {M : Model} {Q : Bool → Shared → Prop} (F : FaultAt h C mN) (hx : h.get? a = some o) (hc : o.cls = .ref C) (hq : Q true ⟨h, g, d, t, os⟩) : wpAny M A (isInstance (.ref a) (.type "BaseException")) Q E ⟨h, g, d, t, os⟩ := by
  have hcB : (Value.ref C :: vMro).contains (.type "BaseException") = true := by rw [List.contains_cons]; rfl
  unfold isInstance
  repeat (first | (with_reducible refine wpAny_loadPart_at hx ?_; rw [hc]) | (with_reducible refine fault_sub F ?_; rw [hcB]) | wp_step)
  exact hq
theorem fault_check {M : Model} {nameV : Value} {Q : Unit → Shared → Prop} (F : FaultAt h C mN) (hx : h.get? a = some o) (hc : o.cls = .ref C) (hq : Q () ⟨h, g, d, t, os⟩) :
    wpAny M A (checkBuiltinCall "BaseException.__getattribute__" ⟨[.ref a, nameV], []⟩) Q E ⟨h, g, d, t, os⟩ := by
  have hk : builtinKind "BaseException.__getattribute__" = some .slot := by decide +kernel
  have hs : splitId "BaseException.__getattribute__" = some ("BaseException", "__getattribute__") := by decide +kernel
  have ha := PySem.F.args_bexc_ga (.ref a) nameV
  simp only [checkBuiltinCall, hk, hs]
  refine wpAny_bind (fault_inst F hx hc ?_)
  repeat (first | exact hq | wp_step)
theorem fault_entry {n : Str} {tk : Tok} {v : Value} {Q : Fin → Shared → Prop} (F : FaultAt h C mN) (hx : h.get? a = some o) (hc : o.cls = .ref C) (hd : o.data = .fields vs) (hdd : o.dict = some dx) (hA : h.Ns1 dx mA)
    (hv : mA n = some v) (hn : mN n = none) (hB : typeLookup (.type "ValueError") n = pure none) (hq : Q (.done (.ret v)) ⟨h, g, d, t, os⟩) :
    wpAny (model prog w) A (Builtin.«object.__getattribute__» ⟨[.ref a, .str n tk], []⟩) Q E ⟨h, g, d, t, os⟩ := by
  obtain ⟨nm, q, N, bs, sn, sub, ab, col, dd, k0, k1, k2, k3, k5, hC, hN⟩ := id F.cls
  have hns : h.Ns dx mA := hA.ns
  repeat (any_goals (first | assumption | (with_reducible refine wpAny_loadPart_at hx ?_; rw [hc]) | with_reducible refine wpAny_loadPart_at hC ?_ | with_reducible refine fault_look F hn hB ?_ | wp_step))
  rw [hd]
  show wpAny _ _ (instanceDict a false) _ _ _
  unfold instanceDict
  repeat (any_goals (first | assumption | (with_reducible refine wpAny_loadPart_at hx ?_; rw [hc]) | with_reducible refine wpAny_loadPart_at hC ?_ | wp_step))
  rw [hdd]
  refine wpAny_pure (wpAny_nsGet hns ?_)
  rw [hv]
  repeat (any_goals (first | assumption | wp_step))
theorem fault_call {n : Str} {tk : Tok} {v : Value} {R : Result → Shared → Prop} (F : FaultAt h C mN) (hx : h.get? a = some o) (hc : o.cls = .ref C) (hd : o.data = .fields vs) (hdd : o.dict = some dx) (hA : h.Ns1 dx mA)
    (hv : mA n = some v) (hn : mN n = none) (hB : typeLookup (.type "ValueError") n = pure none) (hq : R (.ok (.ret v)) ⟨h, g, d, t, os⟩) :
    codeAny (model prog w) A (.call (.builtin "BaseException.__getattribute__") ⟨[.ref a, .str n tk], []⟩) R ⟨h, g, d, t, os⟩ :=
  codeAny_call_builtin PySem.F.attr_ValueError.ga.plain PySem.F.entry_bexc_ga (fault_check F hx hc (fault_entry F hx hc hd hdd hA hv hn hB hq))
/-- e.n of a fault: what its own dict has -/
theorem fault_attr {n : Str} {k : Int} {tk : Tok} {expr : Bool} {Q : Value → Shared → Prop} (F : FaultAt h C mN) (hx : h.get? a = some o) (hc : o.cls = .ref C) (hd : o.data = .fields vs) (hdd : o.dict = some dx) (hA : h.Ns1 dx mA)
    (hv : mA n = some (.int k tk)) (hn : mN n = none) (hB : typeLookup (.type "ValueError") n = pure none) (h1 : mN "__getattribute__" = none) (h2 : mN "__getattr__" = none) (hq : Q (.int k tk) ⟨h, g, d, t + 1, os⟩) :
    wpAny (model prog w) A (getAttr (.ref a) n expr) Q E ⟨h, g, d, t, os⟩ := by
  have f3 := PySem.F.attr_ValueError.ga.bind (.ref a)
  have q0 : (expr && onTheHeap (Value.builtin "BaseException.__getattribute__")) = false := by cases expr <;> rfl
  have q2 : (Value.builtin "BaseException.__getattribute__" == Value.builtin "object.__getattribute__") = false := by decide +kernel
  have q1 : (onTheHeap (Value.ref C) && Value.builtin "BaseException.__getattribute__" == Value.builtin "object.__getattribute__") = false := by rw [q2]; rfl
  unfold getAttr
  repeat (any_goals (first | assumption | (with_reducible refine wpAny_loadPart_at hx ?_; rw [hc]) | with_reducible refine fault_look F h1 PySem.F.attr_ValueError.ga.lookup ?_ | with_reducible refine fault_look F h2 PySem.F.attrBase_ValueError.noGetattr ?_ | wp_step))
  refine fault_call F hx hc hd hdd hA hv hn hB ?_
  repeat (any_goals (first | assumption | wp_step))
end
end SbX
end
section
set_option maxHeartbeats 4000000
namespace SbX
open PySem
section
variable {prog : Program} {w : World} {A : Around} {E : Value → Shared → Prop} {h : Heap} {g : Array GenState} {d : Drawn} {t : Nat} {os : OsState} {a C dx : Addr} {o : Obj} {vs : Array Value} {mN mA : Str → Option Value}
open Builtin Builtin.ObjectAttr
/-- the first attribute: a new dict -/
theorem fault_put_entry {n : Str} {tk : Tok} {v : Value} {Q : Fin → Shared → Prop} (F : FaultAt h C mN) (hx : h.get? a = some o) (hc : o.cls = .ref C) (hd : o.data = .fields vs) (hdd : o.dict = none) (hn : mN n = none) (hB : typeLookup (.type "ValueError") n = pure none)
    (hq : ∀ h' t', h'.Ns1 h.objs.size (fun y => if y = n then some v else none) → h'.get? a = some { o with dict := some h.objs.size } → (∀ b o', b ≠ a → h.get? b = some o' → h'.get? b = some o') → Q (.done (.ret .none)) ⟨h', g, d, t', os⟩) :
    wpAny (model prog w) A (Builtin.«object.__setattr__» ⟨[.ref a, .str n tk, v], []⟩) Q E ⟨h, g, d, t, os⟩ := by
  obtain ⟨nm, q, N, bs, sn, sub, ab, col, dd, k0, k1, k2, k3, k5, hC, hN⟩ := id F.cls
  have hp := PySem.F.store_ValueError.passes (.ref a)
  unfold Builtin.«object.__setattr__»
  repeat (first | rw [refuse_eq] | (rw [refuseLoop_ref, hp]) | (with_reducible refine wpAny_loadPart_at hx ?_; rw [hc]) | with_reducible refine wpAny_mroOf_exc hC ?_ | with_reducible refine fault_look F hn hB ?_ | wp_step)
  rw [hdd, if_neg (by simp [typeHasDict]), hd]
  have hxs : a ≠ h.objs.size := Nat.ne_of_lt (Heap.lt_size hx)
  have hx1 : (h.push { cls := .type "dict", data := .dict #[] }).get? a = some o := Heap.get?_push_of_some _ hx
  refine wpAny_bind (wpAny_alloc' (wpAny_bind (wpAny_update' hx1 (wpAny_pure ?_))))
  generalize hU : (h.push { cls := .type "dict", data := .dict #[] }).update a (fun o => { cls := o.cls, dict := some h.objs.size, data := o.data, slots := o.slots }) = U
  have g1 : U.get? h.objs.size = some { cls := .type "dict", data := .dict #[] } := by
    rw [← hU]
    exact (Heap.get?_update_ne _ _ _ _ hxs.symm).trans (Heap.get?_push_at rfl rfl)
  have g2 : U.get? a = some { o with dict := some h.objs.size } := by
    rw [← hU]
    refine Heap.get?_update_self _ hx1 ?_
    have hfr := (Heap.get?_some_iff.mp hx).2
    obtain ⟨oc, od, odt, osl⟩ := o
    cases odt <;> first | rfl | exact hfr
  have g3 : ∀ b o', b ≠ a → h.get? b = some o' → U.get? b = some o' := fun b o' hb q => by
    rw [← hU]
    exact (Heap.get?_update_ne _ _ _ _ hb).trans (Heap.get?_push_of_some _ q)
  have g4 : U.Ns h.objs.size (fun _ => none) := ⟨_, #[], _, g1, rfl, fun e he => absurd he (by simp), fun _ => rfl⟩
  show wpAny _ _ (storeInDict h.objs.size (.str n tk) n v) _ _ _
  unfold storeInDict newKeyGuard
  refine wpAny_bind (wpAny_pure (wpAny_bind (wpAny_nsSet1 (Heap.Ns1.of_empty g4) fun h' hn' hs => ?_)))
  obtain ⟨oD, esD, epD, hoD, hdD, hcD⟩ := hn'.count (Within.cons n v Within.nil)
  refine wpAny_bind (wpAny_lookBehind hoD (by rw [hdD]; exact pastItsLine_dict (Nat.le_trans hcD (by rw [List.length_cons, List.length_nil, sizeLine_eq]; omega))) ?_)
  repeat (any_goals (first | assumption | wp_step))
  exact hq h' _ hn' ((hs.2 a hxs).trans g2) fun b o' hb q => (hs.2 b (Nat.ne_of_lt (Heap.lt_size q))).trans (g3 b o' hb q)
theorem fault_put_check {M : Model} {nameV v : Value} {Q : Unit → Shared → Prop} (F : FaultAt h C mN) (hx : h.get? a = some o) (hc : o.cls = .ref C) (hq : Q () ⟨h, g, d, t, os⟩) :
    wpAny M A (checkBuiltinCall "object.__setattr__" ⟨[.ref a, nameV, v], []⟩) Q E ⟨h, g, d, t, os⟩ := by
  obtain ⟨nm, q, N, bs, sn, sub, ab, col, dd, k0, k1, k2, k3, k5, hC, hN⟩ := id F.cls
  exact wpAny_check_sa (B := "ValueError") (bm := vMro) (sa := "object.__setattr__") (owner := "object") (C := C) (N := N) (x := a) (o := o) (nameV := nameV) (v := v) PySem.F.store_ValueError hC hx hc hq
theorem fault_put_first {n : Str} {v : Value} {Q : Unit → Shared → Prop} (F : FaultAt h C mN) (hx : h.get? a = some o) (hc : o.cls = .ref C) (hd : o.data = .fields vs) (hdd : o.dict = none) (h1 : mN "__setattr__" = none) (hn : mN n = none) (hB : typeLookup (.type "ValueError") n = pure none)
    (hq : ∀ h' t', h'.Ns1 h.objs.size (fun y => if y = n then some v else none) → h'.get? a = some { o with dict := some h.objs.size } → (∀ b o', b ≠ a → h.get? b = some o' → h'.get? b = some o') → Q () ⟨h', g, d, t', os⟩) :
    wpAny (model prog w) A (setAttr (.ref a) n v) Q E ⟨h, g, d, t, os⟩ := by
  have f3 := PySem.F.store_ValueError.slot.bind (.ref a)
  unfold setAttr callSpecial? specialOf
  repeat (any_goals (first | assumption | (with_reducible refine wpAny_loadPart_at hx ?_; rw [hc]) | with_reducible refine fault_look F h1 PySem.F.store_ValueError.slot.lookup ?_ | wp_step))
  refine codeAny_call_builtin PySem.F.store_ValueError.slot.plain PySem.F.store_ValueError.entry (fault_put_check F hx hc (fault_put_entry F hx hc hd hdd hn hB fun h' t' q1 q2 q3 => ?_))
  repeat (any_goals (first | assumption | wp_step))
  exact hq h' t' q1 q2 q3
/-- a later one -/
theorem fault_put_more {n : Str} {v : Value} {ns : List Str} {Q : Unit → Shared → Prop} (F : FaultAt h C mN) (hx : h.get? a = some o) (hc : o.cls = .ref C) (hd : o.data = .fields vs) (hdd : o.dict = some dx) (hne : dx ≠ a) (hA : h.Ns1 dx mA) (hw : Within mA ns) (hsz : ns.length ≤ 1000)
    (h1 : mN "__setattr__" = none) (hn : mN n = none) (hB : typeLookup (.type "ValueError") n = pure none)
    (hq : ∀ h' t', h'.Ns1 dx (fun y => if y = n then some v else mA y) → h'.get? a = some o → (∀ b o', b ≠ dx → h.get? b = some o' → h'.get? b = some o') → Q () ⟨h', g, d, t', os⟩) :
    wpAny (model prog w) A (setAttr (.ref a) n v) Q E ⟨h, g, d, t, os⟩ := by
  obtain ⟨nm, q, N, bs, sn, sub, ab, col, dd, k0, k1, k2, k3, k5, hC, hN⟩ := id F.cls
  have hxC : a ≠ C := fun z => by
    rw [z, hC] at hx
    cases hx
    cases hd
  have I : h.Inst a C mA := ⟨o, hx, hc, (fun c q => by rw [hd] at q; cases q), .inr ⟨dx, hdd, hne, hA⟩⟩
  refine store_attr (ns := ns) PySem.F.store_ValueError hC hN h1 hn hB hxC I (fun h' tk' I' k1 k2 => ?_) hw (by rw [sizeLine_eq]; omega)
  obtain ⟨o1, e1, e2, e3, e4, e5⟩ := k2 o hx
  have e6 := e5 dx hdd
  clear e5 k2
  have eo : o1 = o := by
    obtain ⟨c1, d1, a1, s1⟩ := o1
    obtain ⟨c2, d2, a2, s2⟩ := o
    have q1 : c1 = c2 := e2
    have q2 : a1 = a2 := e3
    have q3 : s1 = s2 := e4
    have q4 : d1 = some dx := e6
    have q5 : d2 = some dx := hdd
    subst q1 q2 q3 q4 q5
    rfl
  subst eo
  obtain ⟨o2, f1, f2, f3, f4⟩ := I'
  rw [e1] at f1
  cases f1
  rcases f4 with ⟨f4, _⟩ | ⟨d2, f4, _, f5⟩
  · rw [hdd] at f4
    cases f4
  · rw [hdd] at f4
    cases f4
    refine hq h' tk' f5 e1 fun b o' hb q => ?_
    by_cases hba : b = a
    · subst hba
      rw [hx] at q
      cases q
      exact e1
    · exact k1 b o' hba (fun o0 dx' z1 z2 => by
        rw [hx] at z1
        cases z1
        rw [hdd] at z2
        cases z2
        exact hb) q
end
end SbX
end
section
set_option maxHeartbeats 400000
namespace SbX
open PySem
section
variable {prog : Program} {w : World} {A : Around} {E : Value → Shared → Prop} {h : Heap} {g : Array GenState} {d : Drawn} {t : Nat} {os : OsState} {a C dx : Addr} {o : Obj} {vs : Array Value} {mN mA : Str → Option Value}
/-- ValueError's own __init__ -/
theorem fault_base_init {rest : List Value} {R : Result → Shared → Prop} (F : FaultAt h C mN) (hx : h.get? a = some o) (hc : o.cls = .ref C) (hd : o.data = .fields vs) (hvs : 0 < vs.size) (hl : rest.length ≤ 1000)
    (hq : ∀ h' T, h'.get? a = some (o.mapFields (·.setIfInBounds 0 (.ref T))) → h.get? T = none → (∀ b o', b ≠ a → h.get? b = some o' → h'.get? b = some o') → R (.ok (.ret .none)) ⟨h', g, d, t, os⟩) :
    codeAny (model prog w) A (.call (.builtin "ValueError.__init__") ⟨.ref a :: rest, []⟩) R ⟨h, g, d, t, os⟩ := by
  obtain ⟨nm, q, N, bs, sn, sub, ab, col, dd, k0, k1, k2, k3, k5, hC, hN⟩ := id F.cls
  have FB := PySem.F.excBase_ValueError
  refine codeAny_call_builtin FB.init.plain FB.initEntry (wpAny_check_init_sub FB hC hx hc ?_)
  unfold Builtin.«BaseException.__init__»
  repeat (any_goals (first | assumption | wp_step))
  rw [if_neg (by rw [List.size_toArray, sizeLine_eq]; omega)]
  unfold newObjAsIs
  repeat (any_goals (first | assumption | wp_step))
  rw [hd]
  have e0 : vs[0]? = some vs[0] := Array.getElem?_eq_getElem hvs
  refine wpAny_pure ?_
  rw [e0]
  refine wpAny_pure ?_
  have hx1 : (h.push { cls := .type "tuple", data := .seq rest.toArray }).get? a = some o := Heap.get?_push_of_some _ hx
  have hd3 := Obj.data_mapFields hd (·.setIfInBounds 0 (Value.ref h.objs.size))
  have fin : R (.ok (.ret .none)) ⟨(h.push { cls := .type "tuple", data := .seq rest.toArray }).update a (Obj.mapFields (·.setIfInBounds 0 (Value.ref h.objs.size))), g, d, t, os⟩ := by
    refine hq _ h.objs.size (Heap.get?_update_self _ hx1 (Obj.isFreed_of_fields hd3)) (Heap.get?_none_of_le (Nat.le_refl _)) fun b o' hb q => ?_
    rw [Heap.get?_update_other _ _ (Ne.symm hb)]
    exact Heap.get?_push_of_some _ q
  refine wpAny_bind (wpAny_setField hx1 hd hvs ?_)
  cases vs[0] <;> (repeat (any_goals (first | exact fin | wp_step)))
end
end SbX
end
section
set_option maxHeartbeats 400000
namespace SbX
open PySem
section
variable {M : Model} {A : Around} {E : Value → Shared → Prop} {env : Env} {C : Addr}
theorem fault_raise {s : Shared} {x : Sem Value} {Q : Flow → Shared → Prop} (hh : A.handled = none)
    (h : wpAny M A x (fun v s1 => ∃ e oe vs mN, v = .ref e ∧ FaultAt s1.heap C mN ∧ s1.heap.get? e = some oe ∧ oe.cls = .ref C ∧ oe.data = .fields vs ∧ vs[1]? = some .none ∧ E (.ref e) s1) E s) :
    wpAny M A (raiseStmt env (some x) none) Q E s := by
  unfold raiseStmt
  refine wpAny_bind (wpAny_mono h (fun v s1 h1 => ?_) fun _ _ z => z)
  obtain ⟨e, oe, vs, mN, rfl, F, he, hc, hd, h1, hE⟩ := h1
  obtain ⟨hp, g, d, tk, os⟩ := s1
  obtain ⟨nm, q, N, bs, sn, sub, ab, col, dd, k0, k1, k2, k3, k5, hC, hN⟩ := id F.cls
  have hcB : (Value.ref C :: vMro).contains (.type "BaseException") = true := by rw [List.contains_cons]; rfl
  have hcT : (Value.ref C :: vMro).contains (.type "type") = false := by rw [List.contains_cons]; rfl
  repeat (first | (with_reducible refine wpAny_loadPart_at he ?_; rw [hc]) | (with_reducible refine wpAny_loadPart_at hC ?_) | (with_reducible refine fault_sub F ?_; first | rw [hcB] | rw [hcT]) | wp_step)
  rw [hd]
  refine wpAny_pure ?_
  rw [h1]
  refine wpAny_pure ?_
  rw [if_neg (by decide)]
  exact wpAny_pure (wpAny_raiseNew_none hh hE)
theorem fault_Raise {s : Shared} {x : Expr} {pos : Pos} {Q : Flow → Shared → Prop} (hh : A.handled = none)
    (h : wpAny M A (eval x env) (fun v s1 => ∃ e oe vs mN, v = .ref e ∧ FaultAt s1.heap C mN ∧ s1.heap.get? e = some oe ∧ oe.cls = .ref C ∧ oe.data = .fields vs ∧ vs[1]? = some .none ∧ E (.ref e) s1) E s) :
    wpAny M A (exec (.Raise (some x) none pos) env) Q E s := by
  rw [arm_exec_Raise]
  refine wpAny_bind (wpAny_standAt (fault_raise (C := C) hh ?_))
  exact wpAny_bind (wpAny_mono h (fun v s3 h3 => wpAny_bind (wpAny_standAt (wpAny_pure h3))) fun _ _ z => z)
end
end SbX
end
section
set_option maxHeartbeats 400000
namespace SbX
open PySem
section
variable {prog : Program} {w : World} {A : Around} {E : Value → Shared → Prop} {s : Shared} {env : Env} {C : Addr}
theorem no_exc {α : Type} {M : Model} {t : Sem α} {Q : α → Shared → Prop} (h : wpAny M A t Q (fun _ _ => False) s) : wpAny M A t Q E s := wpAny_mono h (fun _ _ x => x) fun _ _ x => x.elim
/-- a fault comes to an except suite that takes it by its own class and a name; the suite raises nothing -/
theorem fault_handle {e : Addr} {t : Expr} {n : Str} {b0 : Stmt} {suite : List Stmt} {pos : Pos} {rest : List ExceptHandler} {Q : Flow → Shared → Prop}
    (h : wpAny (model prog w) (A.mark (some (.ref e))) (eval t env) (fun c s1 => c = .ref C ∧ (∃ mN oe, FaultAt s1.heap C mN ∧ s1.heap.get? e = some oe ∧ oe.cls = .ref C) ∧
      wpAny (model prog w) (A.mark (some (.ref e))) (setFlight (.ref e) none) (fun _ s2 => wpAny (model prog w) (A.mark (some (.ref e))) (storeName env n (.ref e)) (fun _ s3 =>
        wpAny (model prog w) (A.mark (some (.ref e))) (execs (b0 :: suite) env) (fun f s4 => wpAny (model prog w) A (do bindName env n .none; unbindBehindTheSuite env n pos) (fun _ s5 => Q f s5) E s4)
          (fun _ _ => False) s3) (fun _ _ => False) s2) (fun _ _ => False) s1) (fun _ _ => False) s) :
    wpAny (model prog w) A (handleBy (.ref e) env (.ExceptHandler (some t) (some n) (b0 :: suite) pos :: rest)) Q E s := by
  refine wpAny_handleBy_cons (codeAny_handlers_test (wpAny_mono h (fun c s1 h1 => ?_) fun _ _ x => x.elim)) (by intro q; cases q)
  obtain ⟨rfl, ⟨mN, oe, F, he, hc⟩, hk⟩ := h1
  obtain ⟨hp, g, d, tk, os⟩ := s1
  obtain ⟨nm, q, N, bs, sn, sub, ab, col, dd, k0, k1, k2, k3, k5, hC, hN⟩ := id F.cls
  refine wpAny_excMatches_sub_self hC he hc rfl ?_
  refine codeAny_handlers_suite_as (no_exc (wpAny_mono hk (fun _ s2 h2 => ?_) fun _ _ x => x))
  refine no_exc (wpAny_mono h2 (fun _ s3 h3 => ?_) fun _ _ x => x)
  exact wpAny_mono h3 (fun f s4 h4 => h4) fun _ _ x => x.elim
end
end SbX
end
section
set_option maxHeartbeats 1000000
namespace SbX
open PySem PySem.Spec L2
open PyProof.Rows hiding St
/-! ### heaps -/
section
variable {P : Program} {w : World} {H : Hp} {h h' : Heap} {a : Addr} {o : HO}
theorem obj_there (x : ObjOk P w H h a o) : ∃ ob, h.get? a = some ob := by
  cases o with
  | lst xs => obtain ⟨_, _, _, _, e⟩ := x; exact ⟨_, e⟩
  | tup xs => obtain ⟨_, _, _, ob, e, _⟩ := x; exact ⟨_, e⟩
  | dK kvs => obtain ⟨_, _, _, _, ob, _, _, e, _⟩ := x; exact ⟨_, e⟩
  | dT kvs => obtain ⟨_, _, _, _, ob, _, _, e, _⟩ := x; exact ⟨_, e⟩
  | set S n => obtain ⟨ob, _, _, _, e, _⟩ := x; exact ⟨_, e⟩
  | ins C dx fs => obtain ⟨_, _, _, e, _⟩ := x; exact ⟨_, e⟩
  | own y => exact x
  | xd fs => obtain ⟨_, ⟨_, _, _, e, _⟩, _⟩ := x; exact ⟨_, e⟩
  | rng lo hi => obtain ⟨_, _, _, e⟩ := x; exact ⟨_, e⟩
  | frz ob u => obtain ⟨e, _⟩ := x; exact ⟨_, e⟩
  | tbl ps => exact ⟨_, (show h.get? a = some _ from x)⟩
  | met f y => exact ⟨_, (show h.get? a = some _ from x)⟩
  | ext φ => obtain ⟨_, e, _⟩ := x; exact e
theorem hok_none (x : HOk P w H h) (e : h.get? a = none) : H a = none := by
  cases q : H a with
  | none => rfl
  | some u =>
    obtain ⟨ob, z⟩ := obj_there (x a u q)
    rw [e] at z
    cases z
theorem hok_laid (x : HOk P w H h) (k : ∀ b u, h.get? b = some u → h'.get? b = some u) (hn : H a = none) (new : ObjOk P w (upd H a o) h' a o) : HOk P w (upd H a o) h' := fun b u e => by
  by_cases hb : b = a
  · subst hb
    rw [upd_same] at e
    cases e
    exact new
  · rw [upd_ne hb] at e
    exact (x b u e).stay (fun c v _ q => k c v q) (fun c q => by rw [upd_ne (ne_of_none q hn)]; exact q) fun c xs q => by rw [upd_ne (ne_of_none q hn)]; exact q
end
section
variable {X : Cx} {pins : List (Addr × Obj)} {σ : St} {H : Hp} {s : Shared} {h' : Heap} {a : Addr} {o : HO}
theorem inv_none (I : Inv X pins σ H s) (e : s.heap.get? a = none) : H a = none := hok_none I.hok e
theorem inv_new0 (I : Inv X pins σ H s) (e : s.heap.get? a = none) (hx : a ∉ X.ex) : X.s_0.heap.get? a = none := by
  cases q : X.s_0.heap.get? a with
  | none => rfl
  | some ob =>
    obtain ⟨o', z⟩ := I.base.there a ob q hx
    rw [e] at z
    cases z
theorem inv_laid {t' : Nat} (I : Inv X pins σ H s) (k : ∀ b u, s.heap.get? b = some u → h'.get? b = some u) (e : s.heap.get? a = none) (new : ObjOk X.prog X.w (upd H a o) h' a o) :
    Inv X pins σ (upd H a o) { s with heap := h', toks := t' } := by
  have hn := inv_none I e
  refine I.un ⟨fun b u q _ _ _ => k b u q, fun b u q _ _ _ => ⟨u.slots, k b u q⟩, fun b u q n _ => ?_, fun b u q _ => ⟨u, k b u q⟩, fun b xs q => ?_, fun b u xs q => ?_, fun b ps q => ?_⟩ (hok_laid I.hok k hn new)
  · rw [upd_ne (fun z => by rw [z, e] at q; cases q)]
    exact n
  · rw [upd_ne (ne_of_none q hn)]
    exact q
  · rw [upd_ne (ne_of_none q hn)]
    exact q
  · exact ⟨#[], by rw [upd_ne (ne_of_none q hn), q]; simp⟩
/-- what is no longer tracked -/
def drop (H : Hp) (a : Addr) : Hp := fun b => if b = a then none else H b
theorem drop_same : drop H a a = none := if_pos rfl
theorem drop_ne {b : Addr} (h : b ≠ a) : drop H a b = H b := if_neg h
theorem drop_none {b : Addr} (h : H b = none) : drop H a b = none := by
  unfold drop
  split
  · rfl
  · exact h
theorem inv_drop {φ : Heap → Prop} (I : Inv X pins σ H s) (e : H a = some (.ext φ)) : Inv X pins σ (drop H a) s := by
  have ne : ∀ b u, H b = some u → (∀ ψ, u ≠ .ext ψ) → b ≠ a := fun b u q n z => by
    rw [z, e] at q
    cases q
    exact n _ rfl
  refine ⟨I.ok, I.os, I.bare, ⟨I.base.keep, I.base.slot, fun b u q n x => drop_none (I.base.free b u q n x), I.base.there, fun b xs q => ?_, fun b u xs q => ?_, fun b ps q => ?_⟩, I.loc, I.cell, drop_none I.free, fun x c q => drop_none (I.freeC x c q), fun p hp => ?_, fun b u q => ?_, I.len⟩
  · have z := I.base.tups b xs q
    rw [drop_ne (ne b _ z fun ψ z => nomatch z)]
    exact z
  · have z := I.base.frzs b u xs q
    rw [drop_ne (ne b _ z fun ψ z => nomatch z)]
    exact z
  · obtain ⟨m, z⟩ := I.base.tbls b ps q
    exact ⟨m, by rw [drop_ne (ne b _ z fun ψ z => nomatch z)]; exact z⟩
  · obtain ⟨z1, z2, z3⟩ := I.pin p hp
    exact ⟨z1, drop_none z2, z3⟩
  · have hb : b ≠ a := fun z => by
      rw [z, drop_same] at q
      cases q
    rw [drop_ne hb] at q
    refine (I.hok b u q).stay (fun _ _ _ z => z) (fun c z => ?_) fun c xs z => ?_
    · rw [drop_ne (ne c _ z fun ψ z => nomatch z)]
      exact z
    · rw [drop_ne (ne c _ z fun ψ z => nomatch z)]
      exact z
end
/-! ### faults -/
/-- a fault at a that has not been raised yet: its class, its dict -/
def exO (C : Addr) (dd : Option Addr) (a : Addr) : HO := .ext fun h => ∃ o vs, h.get? a = some o ∧ o.cls = .ref C ∧ o.dict = dd ∧ o.data = .fields vs ∧ 1 < vs.size ∧ vs[1]? = some .none
/-- one that has been caught -/
def exF (C dx : Addr) (a : Addr) : HO := .ext fun h => ∃ o vs, h.get? a = some o ∧ o.cls = .ref C ∧ o.dict = some dx ∧ o.data = .fields vs
/-- a fault's dict -/
def dcO (fs : List (Str × V)) (dx : Addr) : HO := .ext fun h => ∃ mA, h.Ns1 dx mA ∧ (∀ f, RelO (fs.lookup f) (mA f)) ∧ PySem.Within mA (fs.map (·.1))
theorem ext_ok {P : Program} {w : World} {H : Hp} {h : Heap} {a : Addr} {φ : Heap → Prop} (p : φ h) (e : ∃ o, h.get? a = some o) (st : ∀ h1 h2 : Heap, φ h1 → (∀ o, h1.get? a = some o → h2.get? a = some o) → φ h2) : ObjOk P w H h a (.ext φ) := ⟨p, e, st⟩
theorem exO_ok {P : Program} {w : World} {H : Hp} {h : Heap} {C a : Addr} {dd : Option Addr} {o : Obj} {vs : Array Value} (e : h.get? a = some o) (hc : o.cls = .ref C) (hd : o.dict = dd) (hv : o.data = .fields vs) (hs : 1 < vs.size) (h1 : vs[1]? = some .none) :
    ObjOk P w H h a (exO C dd a) := ext_ok ⟨o, vs, e, hc, hd, hv, hs, h1⟩ ⟨o, e⟩ fun h1 h2 ⟨o', vs', q, r⟩ k => ⟨o', vs', k _ q, r⟩
theorem exF_ok {P : Program} {w : World} {H : Hp} {h : Heap} {C dx a : Addr} {o : Obj} {vs : Array Value} (e : h.get? a = some o) (hc : o.cls = .ref C) (hd : o.dict = some dx) (hv : o.data = .fields vs) :
    ObjOk P w H h a (exF C dx a) := ext_ok ⟨o, vs, e, hc, hd, hv⟩ ⟨o, e⟩ fun h1 h2 ⟨o', vs', q, r⟩ k => ⟨o', vs', k _ q, r⟩
theorem dcO_ok {P : Program} {w : World} {H : Hp} {h : Heap} {dx : Addr} {fs : List (Str × V)} {mA : Str → Option Value} (n : h.Ns1 dx mA) (r : ∀ f, RelO (fs.lookup f) (mA f)) (wi : PySem.Within mA (fs.map (·.1))) : ObjOk P w H h dx (dcO fs dx) :=
  ext_ok ⟨mA, n, r, wi⟩ (let ⟨o, _, _, e, _⟩ := n; ⟨o, e⟩) fun h1 h2 ⟨m, q, r⟩ k => ⟨m, q.at k, r⟩
/-- a fault on its way: not tracked, not there at h0 -/
def Flying (C : Addr) (H : Hp) (h0 h : Heap) (a dx : Addr) : Prop := H a = none ∧ h0.get? a = none ∧ ∃ oe vs T oT ts, h.get? a = some oe ∧ oe.cls = .ref C ∧ oe.dict = some dx ∧ oe.data = .fields vs ∧ vs[1]? = some (.ref T) ∧ T ≠ a ∧ H T = none ∧ h0.get? T = none ∧
  h.get? T = some oT ∧ oT.data = .fields ts ∧ ts[3]? = some .none
/-- how it lies behind a call -/
def CXF (P : Program) (w : World) (C : Addr) : CXT := fun outer H s E e s' => ∃ a dx H', e = .ref a ∧ s'.os = s.os ∧ AllBare s'.gens ∧ Un (frs outer) [] H H' s.heap s'.heap ∧ HOk P w H' s'.heap ∧ Flying C H' s.heap s'.heap a dx ∧ E (.ref C) (some dx) H'
theorem map_cls (o : Obj) (f : Array Value → Array Value) : (o.mapFields f).cls = o.cls := Obj.cls_mapFields _ _
theorem map_dict (o : Obj) (f : Array Value → Array Value) : (o.mapFields f).dict = o.dict := by
  obtain ⟨c, d, dt, sl⟩ := o
  cases dt <;> rfl
section
variable {X : Cx} {pins : List (Addr × Obj)} {σ : St} {H : Hp} {s : Shared} {h' : Heap} {C a dx T : Addr} {T0 : Option Addr} {oe : Obj} {vs : Array Value} {fl : Value}
/-- behind noting a frame: what was there stands, up to frames' slots -/
theorem noted_un (I : Inv X pins σ H s) (N : Noted (frs X.stack) a T0 oe T fl s.heap h') (hst : X.stack = X.env :: X.outer) (ha : H a = none) (hT : ∀ b, T0 = some b → H b = none) :
    HOk X.prog X.w H h' ∧ (∀ b o, s.heap.get? b = some o → b ≠ a → T0 ≠ some b → b ∉ frs X.stack → h'.get? b = some o) ∧ (∀ b o, s.heap.get? b = some o → b ≠ a → T0 ≠ some b → ∃ sl, h'.get? b = some { o with slots := sl }) := by
  refine ⟨fun b u e => ?_, fun b o q n1 n2 n3 => N.keep b o n3 n1 n2 q, fun b o q n1 n2 => ?_⟩
  · have tr : ∀ c v, H c = some v → c ∉ frs X.stack ∧ c ≠ a ∧ T0 ≠ some c := fun c v q => by
      refine ⟨fun z => ?_, fun z => ?_, fun z => ?_⟩
      · rw [I.stkFree c z] at q
        cases q
      · rw [z, ha] at q
        cases q
      · rw [hT c z] at q
        cases q
    refine (I.hok b u e).stay (fun c v hc q => ?_) (fun _ q => q) fun _ _ q => q
    rcases hc with rfl | hc
    · obtain ⟨z1, z2, z3⟩ := tr c u e
      exact N.keep c v z1 z2 z3 q
    · obtain ⟨z1, z2, z3⟩ := tr c _ hc
      exact N.keep c v z1 z2 z3 q
  · by_cases hb : b ∈ frs X.stack
    · exact N.slot b o hb n1 n2 q
    · exact ⟨o.slots, N.keep b o hb n1 n2 q⟩
end
section
variable {P : Program} {w : World} {K : PySem.W.Frag} {mg : Str → Option Value} {base : Heap} {N : List Str} {qual : Str} {scope : Scope} {f C a dx : Addr} {cd : Value} {A : Around} {outer : List Env} {s0 : Shared} {H0 : Hp} {E : XK}
  {pins : List (Addr × Obj)} {σ : St} {H : Hp} {s : Shared}
/-- what a def's frame leaves behind it -/
theorem left_un {h' : Heap} {T : Addr} {T0 : Option Addr} {oe : Obj} {fl : Value} (I : Inv (cxOf (CXF P w C) P w K mg base N qual scope f cd A outer s0 H0 E) pins σ H s)
    (No : Noted (frs (envOfC qual scope s0.heap.objs.size f cd :: outer)) a T0 oe T fl s.heap h') (ha : s0.heap.get? a = none) (hT : ∀ b, T0 = some b → s0.heap.get? b = none) : Un (frs outer) [] H0 H s0.heap h' := by
  have ne : ∀ b o, s0.heap.get? b = some o → b ≠ a ∧ T0 ≠ some b := fun b o q => ⟨(fun z => by rw [z, ha] at q; cases q), (fun z => by rw [hT b z] at q; cases q)⟩
  have nf : ∀ b o, s0.heap.get? b = some o → b ∉ frs outer → b ∉ frs (envOfC qual scope s0.heap.objs.size f cd :: outer) := fun b o q n z => by
    have z : b = s0.heap.objs.size ∨ b ∈ frs outer := List.mem_cons.mp z
    rcases z with z | z
    · have q2 := Heap.lt_size q
      rw [z] at q2
      exact Nat.lt_irrefl _ q2
    · exact n z
  have inf : ∀ b, b ∈ frs outer → b ∈ frs (envOfC qual scope s0.heap.objs.size f cd :: outer) := fun b z => List.mem_cons_of_mem _ z
  have B : Un (frs outer) [] H0 H s0.heap s.heap := I.base
  refine ⟨fun b o q n hb hx => No.keep b o (nf b o q hb) (ne b o q).1 (ne b o q).2 (B.keep b o q n hb hx), fun b o q n hb hx => ?_, B.free, fun b o q hx => ?_, B.tups, B.frzs, B.tbls⟩
  · obtain ⟨sl, z⟩ := B.slot b o q n hb hx
    obtain ⟨sl', z'⟩ := No.slot b _ (inf b hb) (ne b o q).1 (ne b o q).2 z
    exact ⟨sl', z'⟩
  · obtain ⟨o', z⟩ := B.there b o q hx
    by_cases hb : b ∈ frs (envOfC qual scope s0.heap.objs.size f cd :: outer)
    · obtain ⟨sl, z'⟩ := No.slot b _ hb (ne b o q).1 (ne b o q).2 z
      exact ⟨_, z'⟩
    · exact ⟨_, No.keep b _ hb (ne b o q).1 (ne b o q).2 z⟩
theorem left_cx {h' : Heap} {T : Addr} {T0 : Option Addr} {oe : Obj} {vs : Array Value} (I : Inv (cxOf (CXF P w C) P w K mg base N qual scope f cd A outer s0 H0 E) pins σ H s)
    (No : Noted (frs (envOfC qual scope s0.heap.objs.size f cd :: outer)) a T0 oe T .none s.heap h') (ha : H a = none) (ha0 : s0.heap.get? a = none) (hT : ∀ b, T0 = some b → H b = none ∧ s0.heap.get? b = none)
    (hc : oe.cls = .ref C) (hd : oe.dict = some dx) (hv : oe.data = .fields vs) (hs : 1 < vs.size) (hE : E (.ref C) (some dx) H) : CXF P w C outer H0 s0 E (.ref a) { s with heap := h' } := by
  obtain ⟨k1, _, _⟩ := noted_un I No rfl ha fun b z => (hT b z).1
  obtain ⟨oT, ts, t1, t2, t3⟩ := No.ent
  have hn := inv_new0 I No.new (fun z => absurd (show T ∈ ([] : List Addr) from z) (by simp))
  refine ⟨a, dx, H, rfl, I.os, I.bare, left_un I No ha0 fun b z => (hT b z).2, k1, ⟨ha, ha0, _, _, T, oT, ts, No.exc, (map_cls _ _).trans hc, (map_dict _ _).trans hd, Obj.data_mapFields hv _, ?_, No.ne, inv_none I No.new, hn, t1, t2, t3⟩, hE⟩
  simp [hs]
/-- a fault from a call leaves this frame too -/
theorem leave_on (I : Inv (cxOf (CXF P w C) P w K mg base N qual scope f cd A outer s0 H0 E) pins σ H s) (fl : Flying C H s0.heap s.heap a dx) (hE : E (.ref C) (some dx) H) :
    (cxOf (CXF P w C) P w K mg base N qual scope f cd A outer s0 H0 E).xe (.ref a) s := by
  obtain ⟨f1, f2, oe, vs, T, oT, ts, e1, e2, e3, e4, e5, e6, e7, e8, e9, e10, e11⟩ := fl
  refine leave_next (base := base) (outer := outer) (L := s0.heap.objs.size) I.ok.frames I.stack rfl e1 e4 e5 e9 e10 e11 e6 fun h' T' No => ?_
  exact left_cx I No f1 f2 (fun b z => by cases z; exact ⟨e7, e8⟩) e2 e3 e4 (Array.getElem?_eq_some_iff.mp e5).1 hE
/-- a new one leaves the frame in which it was raised -/
theorem leave_made {oe : Obj} {vs : Array Value} (I : Inv (cxOf (CXF P w C) P w K mg base N qual scope f cd A outer s0 H0 E) pins σ H s) (ha : H a = none) (ha0 : s0.heap.get? a = none) (e1 : s.heap.get? a = some oe) (e2 : oe.cls = .ref C) (e3 : oe.dict = some dx) (e4 : oe.data = .fields vs)
    (e5 : vs[1]? = some .none) (hE : E (.ref C) (some dx) H) : (cxOf (CXF P w C) P w K mg base N qual scope f cd A outer s0 H0 E).xe (.ref a) s := by
  refine leave_first (base := base) (outer := outer) (L := s0.heap.objs.size) I.ok.frames I.stack rfl e1 e4 e5 fun h' T' No => ?_
  exact left_cx I No ha ha0 (fun b z => by cases z) e2 e3 e4 (Array.getElem?_eq_some_iff.mp e5).1 hE
end
/-- a fault that a call raises here comes to what the context wants of it -/
theorem fly_in {X : Cx} {pins : List (Addr × Obj)} {σ : St} {H : Hp} {s s' : Shared} {C : Addr} {E : XK} {e : Value} (hex : X.ex = []) (I : Inv X pins σ H s) (h : CXF X.prog X.w C X.stack H s E e s') :
    ∃ a dx H', e = .ref a ∧ Inv X pins σ H' s' ∧ Flying C H' X.s_0.heap s'.heap a dx ∧ E (.ref C) (some dx) H' := by
  obtain ⟨a, dx, H', rfl, os, bare, un, hok, fl, hE⟩ := h
  obtain ⟨f1, f2, oe, vs, T, oT, ts, e1, e2, e3, e4, e5, e6, e7, e8, r⟩ := fl
  have nx : ∀ b : Addr, b ∉ X.ex := fun b z => by
    rw [hex] at z
    cases z
  exact ⟨a, dx, H', rfl, I.call' (ch := []) os un hok bare (fun b z => absurd z (by simp)), ⟨f1, inv_new0 I f2 (nx a), oe, vs, T, oT, ts, e1, e2, e3, e4, e5, e6, e7, inv_new0 I e8 (nx T), r⟩, hE⟩
/-- passing on: the same wish -/
theorem passF {P : Program} {w : World} {K : PySem.W.Frag} {mg : Str → Option Value} {base : Heap} {N : List Str} {qual : Str} {scope : Scope} {f C : Addr} {cd : Value} {A : Around} {outer : List Env} {s0 : Shared} {H0 : Hp} {E : XK} :
    Passes (CXF P w C) (cxOf (CXF P w C) P w K mg base N qual scope f cd A outer s0 H0 E) E := fun pins σ H s e s' I h => by
  obtain ⟨a, dx, H', rfl, I', fl, hE⟩ := fly_in rfl I h
  exact leave_on I' fl hE
theorem ownF {P : Program} {w : World} {K : PySem.W.Frag} {mg : Str → Option Value} {base : Heap} {N : List Str} {qual : Str} {scope : Scope} {f C : Addr} {cd : Value} {A : Around} {outer : List Env} {s0 : Shared} {H0 : Hp} {E : XK} :
    PassesOwn (model P w) (cxOf (CXF P w C) P w K mg base N qual scope f cd A outer s0 H0 E).A (cxOf (CXF P w C) P w K mg base N qual scope f cd A outer s0 H0 E).env (cxOf (CXF P w C) P w K mg base N qual scope f cd A outer s0 H0 E).xe := PassesOwn.leaving
end SbX
end
section
set_option maxHeartbeats 1000000
namespace SbX
open PySem PySem.Spec L2
open PyProof.Rows hiding St
/-- the fault class as the top has made it -/
structure FltK (K : PySem.W.Frag) (C fI : Addr) : Prop where
  at_ : ∀ h : Heap, K.In h → ∃ mN, FaultAt h C mN ∧ mN "__init__" = some (.ref fI) ∧ mN "__setattr__" = none ∧ mN "__getattribute__" = none ∧ mN "__getattr__" = none ∧ mN "kind" = none ∧ mN "place" = none
  fn : ∀ h : Heap, K.In h → ∃ oI, h.get? fI = some oI ∧ oI.cls = .type "function"
  kp : PySem.W.keepIn K (.ref C) = true
theorem no_kind : typeLookup (.type "ValueError") "kind" = pure none := by rw [typeLookup_type, builtinLookup_eq_fast]; kernel_rfl
theorem no_place : typeLookup (.type "ValueError") "place" = pure none := by rw [typeLookup_type, builtinLookup_eq_fast]; kernel_rfl
theorem boot_ve : bootBuiltins "ValueError" = some (.type "ValueError") := by decide +kernel
theorem ve_type : typeOf (.type "ValueError") = pure (.type "type") := by first | rfl | kernel_rfl
theorem ve_handed : PySem.W.handedIn (.builtin "ValueError.__init__") = true := by decide +kernel
theorem ve_stub : Manifest.isStub "ValueError" = false := by decide +kernel
theorem vals_cons {v : V} {vs : List V} {us : List Value} (r : Vals (v :: vs) us) : ∃ u us', us = u :: us' ∧ RelV v u ∧ Vals vs us' := by
  cases r with
  | cons a b => exact ⟨_, _, rfl, a, b⟩
section
variable {X : Cx} {C fI : Addr}
/-! ### ValueError.__init__(self, ..) -/
def tBI (C : Addr) (t : TA) : TE := fun σ H Q => t σ H fun vs H1 => ∃ a rest, vs = .ref a :: rest ∧ rest.length ≤ 1000 ∧ H1 a = some (exO C none a) ∧ Q .non H1
theorem pe_binit {p apos pos : Pos} {e : Expr} {es : List Expr} {t : TA} {pl : Sem Bool} (F : FltK X.K C fI) (hg : Gl X "ValueError") (hm : X.mg "ValueError" = none) (ha : PA X (e :: es) t)
    (hf : PySem.W.findCls X.K (.type "ValueError") (.type "type") "__init__" = some (.val (.builtin "ValueError.__init__")))
    (hs : starEach (e :: es) X.env = (false, eval e X.env) :: starEach es X.env := by rfl) (hpl : (backTo pos (starEach es X.env)).any (·.1) = false := by rfl)
    (ht : eval (.Call (.Attribute (.Name "ValueError" p) "__init__" apos) (e :: es) [] pos) X.env = (do
      let ov ← eval (.Name "ValueError" p) X.env
      standAt apos.atName
      let (f, first) ← holding [ov] (getMethod ov "__init__" pl)
      callWith pos f first (backTo pos (starEach (e :: es) X.env)) (backToKw pos (keywordEach [] X.env))) := by rfl) :
    PE X (.Call (.Attribute (.Name "ValueError" p) "__init__" apos) (e :: es) [] pos) (tBI C t) := by
  intro pins s σ H Q I h
  refine PySem.W.methodCall_KW (pl := pl) (ld_blt I hg hm boot_ve ?_) ht
  obtain ⟨m, Fr⟩ := I.fr
  refine PySem.W.method_type (T := "ValueError") (name := "__init__") (v := .builtin "ValueError.__init__") (pl := pl) Fr I.ok.mod.kin ve_type ve_stub hf ve_handed ?_
  have I1 := I.tok (s.toks + 1)
  have hA := ha pos pins { s with toks := s.toks + 1 } σ H _ I1 h
  rw [hs] at hA ⊢
  refine Calls.callWith_builtin (by show (false || (backTo pos (starEach es X.env)).any (·.1)) = false; rw [hpl] <;> rfl) (Calls.evalArgs_plain ?_)
  refine thn hA fun us s2 ⟨vs, H2, I2, r2, a, rest, ev, hl, ea, q⟩ => ?_
  subst ev
  obtain ⟨u, us', eus, rv, rr⟩ := vals_cons r2
  subst eus
  obtain rfl : u = Value.ref a := rv
  · skip
    obtain ⟨⟨o, ws, o1, o2, o3, o4, o5, o6⟩, _⟩ := I2.hok a _ ea
    obtain ⟨mN, FA, _⟩ := F.at_ _ I2.kIn
    obtain ⟨h2, g2, d2, t2, os2⟩ := s2
    refine wpAny_call (fault_base_init FA o1 o2 o4 (by omega) (by rw [← rr.length]; exact hl) fun h' T e1 e2 e3 => ?_)
    refine ⟨.non, H2, ?_, rfl, q⟩
    have eu : upd H2 a (exO C none a) = H2 := by
      funext b
      unfold upd
      split
      · rename_i z
        rw [z, ea]
      · rfl
    have J := I2.write (x := a) (e := a) (o := exO C none a) (h' := h') (t' := t2) (by rw [ea]; exact True.intro) (.inl rfl) (fun b u hb z => e3 b u hb z) ⟨_, e1⟩ (exO_ok e1 ((map_cls _ _).trans o2) ((map_dict _ _).trans o3) (Obj.data_mapFields o4 _) (by simpa using o5) (by rw [Array.getElem?_setIfInBounds_ne (by decide)]; exact o6))
    rw [eu] at J
    exact J
/-! ### self.kind = ..; self.place = .. -/
theorem inv_two {pins : List (Addr × Obj)} {σ : St} {H : Hp} {s : Shared} {h' : Heap} {a dx : Addr} {oa od : HO} {φ : Heap → Prop} {t' : Nat} (I : Inv X pins σ H s) (e : H a = some (.ext φ)) (hdx : s.heap.get? dx = none) (k : ∀ b o, b ≠ a → s.heap.get? b = some o → h'.get? b = some o)
    (new1 : ObjOk X.prog X.w (upd (upd H a oa) dx od) h' a oa) (new2 : ObjOk X.prog X.w (upd (upd H a oa) dx od) h' dx od) : Inv X pins σ (upd (upd H a oa) dx od) { s with heap := h', toks := t' } := by
  have hn := inv_none I hdx
  have nda : dx ≠ a := fun z => by rw [z, e] at hn; cases hn
  have up : ∀ b, b ≠ a → b ≠ dx → upd (upd H a oa) dx od b = H b := fun b z1 z2 => by rw [upd_ne z2, upd_ne z1]
  have nx : ∀ b u, H b = some u → (∀ ψ, u ≠ .ext ψ) → b ≠ a ∧ b ≠ dx := fun b u q n => ⟨(fun z => by rw [z, e] at q; cases q; exact n _ rfl), ne_of_none q hn⟩
  have na : ∀ b, H b = none → b ≠ a := fun b q z => by rw [z, e] at q; cases q
  have nd : ∀ b o, s.heap.get? b = some o → b ≠ dx := fun b o q z => by rw [z, hdx] at q; cases q
  refine I.un ⟨fun b u q n _ _ => k b u (na b n) q, fun b u q n _ _ => ⟨u.slots, k b u (na b n) q⟩, fun b u q n _ => ?_, fun b u q _ => ?_, fun b xs q => ?_, fun b u xs q => ?_, fun b ps q => ?_⟩ fun b u q => ?_
  · rw [up b (na b n) (nd b u q)]
    exact n
  · by_cases hb : b = a
    · subst hb
      exact obj_there new1
    · exact ⟨u, k b u hb q⟩
  · obtain ⟨z1, z2⟩ := nx b _ q fun ψ z => nomatch z
    rw [up b z1 z2]
    exact q
  · obtain ⟨z1, z2⟩ := nx b _ q fun ψ z => nomatch z
    rw [up b z1 z2]
    exact q
  · obtain ⟨z1, z2⟩ := nx b _ q fun ψ z => nomatch z
    exact ⟨#[], by rw [up b z1 z2, q]; simp⟩
  · by_cases h1 : b = dx
    · subst h1
      rw [upd_same] at q
      cases q
      exact new2
    · by_cases h2 : b = a
      · subst h2
        rw [upd_ne h1, upd_same] at q
        cases q
        exact new1
      · rw [up b h2 h1] at q
        refine (I.hok b u q).stay (fun c v hc z => k c v ?_ z) (fun c z => ?_) fun c xs z => ?_
        · rcases hc with rfl | hc
          · exact h2
          · exact (nx c _ hc fun ψ z => nomatch z).1
        · obtain ⟨z1, z2⟩ := nx c _ z fun ψ z => nomatch z
          rw [up c z1 z2]
          exact z
        · obtain ⟨z1, z2⟩ := nx c _ z fun ψ z => nomatch z
          rw [up c z1 z2]
          exact z
def sXfst (C : Addr) (ta tv : TE) (f : Str) : TS := fun D σ H => tv σ H fun y H1 => ta σ H1 fun x H2 => ∃ a, x = .ref a ∧ H2 a = some (exO C none a) ∧ ∀ dx, H2 dx = none → dx ≠ a → D.nx σ (upd (upd H2 a (exO C (some dx) a)) dx (dcO [(f, y)] dx))
theorem ps_xfst {o value : Expr} {pos pos' : Pos} {ta tv : TE} (F : FltK X.K C fI) (ha : PE X o ta) (hv : PE X value tv) (hs : swapsWith value (some (.Attribute o "kind" pos')) pos.line X.env = pure false) : PS X (.Assign [.Attribute o "kind" pos'] value pos) (sXfst C ta tv "kind") := by
  intro pins s σ H D I h
  refine plainObj_wpAny_Assign_Attribute (thn (hv pins s σ H _ I h) fun u s1 ⟨y, H1, I1, ry, q⟩ => thn (ha pins s1 σ H1 _ I1 q) fun ov s2 ⟨x, H2, I2, rx, a, ex, ea, q2⟩ => ?_) hs
  subst ex
  obtain rfl : ov = Value.ref a := rx
  obtain ⟨⟨ob, ws, o1, o2, o3, o4, o5, o6⟩, _⟩ := I2.hok a _ ea
  obtain ⟨mN, FA, f1, f2, f3, f4, f5, f6⟩ := F.at_ _ I2.kIn
  obtain ⟨h2, g2, d2, t2, os2⟩ := s2
  refine fault_put_first FA o1 o2 o4 o3 f2 f5 no_kind fun h' t' z1 z2 z3 => ?_
  have hn : h2.get? h2.objs.size = none := Heap.get?_none_of_le (Nat.le_refl _)
  have hne : h2.objs.size ≠ a := Nat.ne_of_gt (Heap.lt_size o1)
  refine ⟨σ, _, inv_two (t' := t') I2 ea hn z3 (exO_ok z2 o2 rfl o4 o5 o6) (dcO_ok z1 (fun f => ?_) fun f hf => ?_), q2 _ (inv_none I2 hn) hne⟩
  · by_cases c : f = "kind"
    · subst c
      rw [if_pos rfl]
      exact ry
    · rw [if_neg c]
      have : (f == ("kind" : Str)) = false := beq_eq_false_iff_ne.mpr c
      simp only [List.lookup, this]
      exact True.intro
  · by_cases c : f = "kind"
    · subst c
      simp
    · exact absurd (if_neg c) hf
def sXmore (C : Addr) (ta tv : TE) (f : Str) : TS := fun D σ H => tv σ H fun y H1 => ta σ H1 fun x H2 => ∃ a dx fs, x = .ref a ∧ H2 a = some (exO C (some dx) a) ∧ H2 dx = some (dcO fs dx) ∧ dx ≠ a ∧ fs.length < 1000 ∧ D.nx σ (upd H2 dx (dcO (putF f y fs) dx))
theorem ps_xmore {o value : Expr} {pos pos' : Pos} {ta tv : TE} (F : FltK X.K C fI) (ha : PE X o ta) (hv : PE X value tv) (hs : swapsWith value (some (.Attribute o "place" pos')) pos.line X.env = pure false) : PS X (.Assign [.Attribute o "place" pos'] value pos) (sXmore C ta tv "place") := by
  intro pins s σ H D I h
  refine plainObj_wpAny_Assign_Attribute (thn (hv pins s σ H _ I h) fun u s1 ⟨y, H1, I1, ry, q⟩ => thn (ha pins s1 σ H1 _ I1 q) fun ov s2 ⟨x, H2, I2, rx, a, dx, fs, ex, ea, ed, ne, hl, q2⟩ => ?_) hs
  subst ex
  obtain rfl : ov = Value.ref a := rx
  obtain ⟨⟨ob, ws, o1, o2, o3, o4, o5, o6⟩, _⟩ := I2.hok a _ ea
  obtain ⟨⟨mA, n1, n2, n3⟩, _⟩ := I2.hok dx _ ed
  obtain ⟨mN, FA, f1, f2, f3, f4, f5, f6⟩ := F.at_ _ I2.kIn
  obtain ⟨h2, g2, d2, t2, os2⟩ := s2
  refine fault_put_more FA o1 o2 o4 o3 ne n1 n3 (by rw [List.length_map]; omega) f2 f6 no_place fun h' t' z1 z2 z3 => ?_
  have hd : ∃ o, h'.get? dx = some o := let ⟨o, _, _, e', _⟩ := z1; ⟨o, e'⟩
  refine ⟨σ, _, I2.write (x := dx) (e := dx) (o := dcO (putF "place" y fs) dx) (t' := t') (by rw [ed]; exact True.intro) (.inl rfl) (fun b u hb z => z3 b u hb z) hd (dcO_ok z1 (fun g => ?_) fun g hg => ?_), q2⟩
  · rw [lookup_putF]
    by_cases c : g = "place"
    · rw [if_pos c, if_pos c]
      exact ry
    · rw [if_neg c, if_neg c]
      exact n2 g
  · by_cases c : g = "place"
    · rw [c]
      exact (keys_putF "place" y fs).1
    · refine (keys_putF "place" y fs).2 g (n3 g fun z => hg ?_)
      show (if g = "place" then some u else mA g) = none
      rw [if_neg c]
      exact z
/-! ### fault.kind, fault.place behind an except -/
def tXfld (C : Addr) (ta : TE) (f : Str) : TE := fun σ H Q => ta σ H fun x H1 => ∃ a dx fs k, x = .ref a ∧ H1 a = some (exF C dx a) ∧ H1 dx = some (dcO fs dx) ∧ fs.lookup f = some (.int k) ∧ Q (.int k) H1
theorem pe_xfld {e : Expr} {f : Str} {pos : Pos} {ta : TE} (F : FltK X.K C fI) (hf : f = "kind" ∨ f = "place") (he : PE X e ta) (hb : attributeBase e f X.env (eval e X.env) = eval e X.env) : PE X (.Attribute e f pos) (tXfld C ta f) := by
  intro pins s σ H Q I h
  refine attr_of hb (thn (he pins s σ H _ I h) fun u s1 ⟨x, H1, I1, rx, a, dx, fs, k, ex, ea, ed, l, q⟩ => ?_)
  subst ex
  obtain rfl : u = Value.ref a := rx
  obtain ⟨⟨ob, ws, o1, o2, o3, o4⟩, _⟩ := I1.hok a _ ea
  obtain ⟨⟨mA, n1, n2, n3⟩, _⟩ := I1.hok dx _ ed
  obtain ⟨mN, FA, f1, f2, f3, f4, f5, f6⟩ := F.at_ _ I1.kIn
  have hr := n2 f
  rw [l] at hr
  obtain ⟨w, hw, t, ht⟩ := RelO.some_of hr
  subst ht
  have I2 := I1.tok (s1.toks + 1)
  obtain ⟨h2, g2, d2, t2, os2⟩ := s1
  refine fault_attr FA o1 o2 o4 o3 n1 hw ?_ ?_ f3 f4 ⟨.int k, H1, I2, ⟨t, rfl⟩, q⟩
  · rcases hf with rfl | rfl
    · exact f5
    · exact f6
  · rcases hf with rfl | rfl
    · exact no_kind
    · exact no_place
end
end SbX
end
section
set_option maxHeartbeats 1000000
namespace SbX
open PySem PySem.Spec L2
open PyProof.Rows hiding St
abbrev kp (k p : Int) : List (Str × V) := [("kind", .int k), ("place", .int p)]
/-- the promise of the fault class's __init__ -/
def spFI (C : Addr) : Sp := fun vs H Q _ => ∃ a k p, vs = [.ref a, .int k, .int p] ∧ H a = some (exO C none a) ∧ ∀ dx H', H dx = none → dx ≠ a → H' a = some (exO C (some dx) a) → H' dx = some (dcO (kp k p) dx) → (∀ b o, H b = some o → b ≠ a → H' b = some o) → Q .non H'
/-! ### raise Fault(e1, e2) -/
def tFault (C : Addr) (E : XK) (t : TA) : TS := fun _ σ H => t σ H fun vs H1 => ∃ k p, vs = [.int k, .int p] ∧ ∀ dx H2, H1 dx = none → H2 dx = some (dcO (kp k p) dx) → Same H1 H2 → E (.ref C) (some dx) H2
section
variable {P : Program} {w : World} {K : PySem.W.Frag} {mg : Str → Option Value} {base : Heap} {N : List Str} {qual : Str} {scope : Scope} {f C fI : Addr} {cd : Value} {A : Around} {outer : List Env} {s0 : Shared} {H0 : Hp} {E : XK}
theorem ps_fault {k : Nat} {fd : FuncData} {x : Str} {np cpos pos : Pos} {e1 e2 : Expr} {t : TA} (F : FltK K C fI) (G : FnOk P w K mg base CX0 k fI fd ["self", "kind", "place"] (spFI C))
    (hr : Room (k + 1) (cxOf (CXF P w C) P w K mg base N qual scope f cd A outer s0 H0 E).A) (hg : Gl (cxOf (CXF P w C) P w K mg base N qual scope f cd A outer s0 H0 E) x) (hm : mg x = some (.ref C)) (hb : Binds K fd ["self", "kind", "place"] [])
    (ha : PA (cxOf (CXF P w C) P w K mg base N qual scope f cd A outer s0 H0 E) [e1, e2] t) (hdb : (x == ("__debug__" : Str)) = false := by decide)
    (he : starEach [e1, e2] (cxOf (CXF P w C) P w K mg base N qual scope f cd A outer s0 H0 E).env = (false, eval e1 (cxOf (CXF P w C) P w K mg base N qual scope f cd A outer s0 H0 E).env) :: starEach [e2] (cxOf (CXF P w C) P w K mg base N qual scope f cd A outer s0 H0 E).env := by rfl)
    (hpl : (backTo cpos (starEach [e2] (cxOf (CXF P w C) P w K mg base N qual scope f cd A outer s0 H0 E).env)).any (·.1) = false := by rfl) :
    PS (cxOf (CXF P w C) P w K mg base N qual scope f cd A outer s0 H0 E) (.Raise (some (.Call (.Name x np) [e1, e2] [] cpos)) none pos) (tFault C E t) := by
  intro pins s σ H D I h
  refine fault_Raise (C := C) (I.ok.hd rfl) ?_
  refine wpAny_Call_Name_kw (ld_glob I hg hm ?_ hdb)
  refine PySem.W.callWith_K (h₀ := base) I.ok.mod.kin F.kp (thn (ha cpos pins s σ H _ I h) fun us s1 ⟨vs, H1, I1, r, k, p, ev, q⟩ => ⟨I1.kIn, ?_⟩) he hpl
  subst ev
  obtain ⟨u1, u2, rfl, ⟨t1, rfl⟩, ⟨t2, rfl⟩⟩ := vals2 r
  obtain ⟨mN, FA, f1, f2, f3, f4, f5, f6⟩ := F.at_ _ I1.kIn
  obtain ⟨nm, q', N', bs, sn, sub, ab, col, dd, k0, k1, k2, k3, k5, hC, hN⟩ := id FA.cls
  obtain ⟨oI, i1, i2⟩ := F.fn _ I1.kIn
  obtain ⟨h1, g1, d1, tk1, os1⟩ := s1
  refine wpAny_call_exc_init PySem.F.excBase_ValueError hC hN f1 i1 i2 (fun h' e hx => ?_) (by show 2 ≤ sizeLine; rw [sizeLine_eq]; omega)
  obtain ⟨tT, x1, x2, x3⟩ := hx.there
  have I2 := inv_laid (t' := tk1) (o := exO C none e) I1 hx.keeps hx.new (exO_ok x1 rfl rfl rfl (by show 1 < 6; decide) rfl)
  have hne := inv_none I1 hx.new
  have h00 := inv_new0 I1 hx.new (fun z => absurd (show e ∈ ([] : List Addr) from z) (by simp))
  have hsp : spFI C [.ref e, .int k, .int p] (upd H1 e (exO C none e)) (fun v H' => v = .non ∧ ∃ dx, H1 dx = none ∧ dx ≠ e ∧ H' e = some (exO C (some dx) e) ∧ H' dx = some (dcO (kp k p) dx) ∧ ∀ b o, H1 b = some o → H' b = some o) E0 :=
    ⟨e, k, p, rfl, upd_same, fun dx H' a1 a2 a3 a4 a5 => ⟨rfl, dx, by rw [upd_ne a2] at a1; exact a1, a2, a3, a4, fun b o z => a5 b o (by rw [upd_ne (ne_of_none z hne)]; exact z) (ne_of_none z hne)⟩⟩
  refine wpAny_call (codeAny_mono (G.run _ (envOfC qual scope s0.heap.objs.size f cd :: outer) _ (upd H1 e (exO C none e)) ⟨[.ref e, .int k t1, .int p t2], []⟩ [.ref e, .int k t1, .int p t2] [.ref e, .int k, .int p] _ E0 (hr.make C _ [])
    (I2.env0.make C _ []) (by have := hb _ [.ref e, .int k t1, .int p t2] I2.kIn rfl; rwa [List.append_nil] at this) (.cons rfl (.cons ⟨t1, rfl⟩ (.cons ⟨t2, rfl⟩ .nil))) hsp) fun rr s' hq => ?_)
  cases rr with
  | error y => exact hq.elim
  | ok fl =>
    cases fl with
    | next => exact False.elim hq
    | brk => exact False.elim hq
    | cont => exact False.elim hq
    | ret u =>
      obtain ⟨v, H', I3, rv, ev, dx, b1, b2, b3, b4, b5⟩ := I2.after hq
      subst ev
      refine ⟨rv, ?_⟩
      obtain ⟨⟨ob, ws, o1, o2, o3, o4, o5, o6⟩, _⟩ := I3.hok e _ b3
      obtain ⟨mN', FA', _⟩ := F.at_ _ I3.kIn
      refine ⟨e, ob, ws, mN', rfl, FA', o1, o2, o4, o6, ?_⟩
      exact leave_made (inv_drop I3 b3) drop_same h00 o1 o2 o3 o4 o6 (q dx (drop H' e) b1 (by rw [drop_ne b2]; exact b4) fun b o z => by rw [drop_ne (ne_of_none z hne)]; exact b5 b o z)
end
/-! ### try .. except Fault as name: .. return .. -/
section
variable {X : Cx} {pins : List (Addr × Obj)} {σ : St} {H : Hp} {s : Shared} {h' : Heap} {C a dx : Addr}
theorem ok_conv (ok : X.Ok) (A : Around) (hA : A.frames = X.A.frames) (c : Bool) (hc : c = true → A.handled = none) (pn : List (Addr × Obj)) (E : Value → Shared → Prop) : ({ X with A := A, calm := c, pn := pn, xe := E } : Cx).Ok :=
  ⟨ok.mod, ok.kind, ok.glob, ok.blt, ok.above, ok.inj, ok.has, ok.cab, hc, hA.trans ok.frames, ok.stk, ok.exf, ok.bs, ok.bsz, ok.noex, ok.exfs, ok.funs, ok.frf⟩
theorem ok_back {A : Around} {c : Bool} {pn : List (Addr × Obj)} {E : Value → Shared → Prop} (ok : X.Ok) (ok' : ({ X with A := A, calm := c, pn := pn, xe := E } : Cx).Ok) : X.Ok := ok
theorem inv_conv {A : Around} {c : Bool} {pn pins' : List (Addr × Obj)} {E : Value → Shared → Prop} (I : Inv X pins σ H s) (hA : A.frames = X.A.frames) (hc : c = true → A.handled = none) (hp : ∀ p, p ∈ pn ++ pins' → p ∈ X.pn ++ pins) : Inv { X with A := A, calm := c, pn := pn, xe := E } pins' σ H s :=
  ⟨ok_conv I.ok A hA c hc pn E, I.os, I.bare, I.base, I.loc, I.cell, I.free, I.freeC, fun p hpp => I.pin p (hp p hpp), I.hok, I.len⟩
theorem inv_unconv {A : Around} {c : Bool} {pn pins' : List (Addr × Obj)} {E : Value → Shared → Prop} (I : Inv { X with A := A, calm := c, pn := pn, xe := E } pins' σ H s) (ok : X.Ok) (hp : ∀ p, p ∈ X.pn ++ pins → p ∈ pn ++ pins') : Inv X pins σ H s :=
  ⟨ok, I.os, I.bare, I.base, I.loc, I.cell, I.free, I.freeC, fun p hpp => I.pin p (hp p hpp), I.hok, I.len⟩
/-- what was there when the call began -/
structure Old (X : Cx) (pins : List (Addr × Obj)) (hc : Heap) : Prop where
  st : ∀ b o, X.s_0.heap.get? b = some o → b ∉ X.ex → hc.get? b ≠ none
  fr : hc.get? X.env.locals ≠ none
  cl : ∀ x c, X.env.cells.lookup x = some c → hc.get? c ≠ none
  pn : ∀ p, p ∈ X.pn ++ pins → hc.get? p.1 ≠ none
theorem inv_old (I : Inv X pins σ H s) : Old X pins s.heap := by
  refine ⟨fun b o q x z => ?_, fun z => ?_, fun x c q z => ?_, fun p hp z => ?_⟩
  · obtain ⟨o', e⟩ := I.base.there b o q x
    rw [z] at e
    cases e
  · obtain ⟨m, ⟨o, _, _, e, _⟩, _⟩ := I.loc
    rw [z] at e
    cases e
  · obtain ⟨v, o, e, _⟩ := I.cell x c q
    rw [z] at e
    cases e
  · have e := (I.pin p hp).1
    rw [z] at e
    cases e
theorem inv_noted {T : Addr} {T0 : Option Addr} {oe : Obj} {fl : Value} {hc : Heap} {t' : Nat} (I : Inv X pins σ H s) (No : Noted (frs X.stack) a T0 oe T fl s.heap h') (hst : X.stack = X.env :: X.outer) (hf : X.env.frame = some X.env.locals) (O : Old X pins hc) (ha : H a = none) (ha0 : hc.get? a = none)
    (hT : ∀ b, T0 = some b → H b = none ∧ hc.get? b = none) : Inv X pins σ H { s with heap := h', toks := t' } := by
  obtain ⟨k1, k2, k3⟩ := noted_un I No hst ha fun b z => (hT b z).1
  have nn : ∀ b, hc.get? b ≠ none → b ≠ a ∧ T0 ≠ some b := fun b q => ⟨(fun z => q (by rw [z]; exact ha0)), fun z => q (hT b z).2⟩
  have mem : ∀ b, b ∈ frs X.stack → b = X.env.locals ∨ b ∈ X.fs := fun b z => by
    rw [hst] at z
    unfold frs at z
    rw [List.filterMap_cons, hf] at z
    exact List.mem_cons.mp z
  have sub : ∀ b, b ∈ X.fs → b ∈ frs X.stack := fun b z => by
    rw [hst]
    unfold frs
    rw [List.filterMap_cons, hf]
    exact List.mem_cons_of_mem _ z
  have neL : ∀ b o, X.s_0.heap.get? b = some o → b ≠ X.env.locals := fun b o e => Nat.ne_of_lt (Nat.lt_of_lt_of_le (Heap.lt_size e) I.ok.above)
  refine ⟨I.ok, I.os, I.bare, ⟨fun b o q n hb hx => ?_, fun b o q n hb hx => ?_, I.base.free, fun b o q hx => ?_, I.base.tups, I.base.frzs, I.base.tbls⟩, ?_, fun x c q => ?_, I.free, I.freeC, fun p hp => ?_, k1, I.len⟩
  · obtain ⟨z1, z2⟩ := nn b (O.st b o q hx)
    exact k2 b o (I.base.keep b o q n hb hx) z1 z2 fun z => (mem b z).elim (neL b o q) hb
  · obtain ⟨z1, z2⟩ := nn b (O.st b o q hx)
    obtain ⟨sl, e⟩ := I.base.slot b o q n hb hx
    obtain ⟨sl', e'⟩ := k3 b _ e z1 z2
    exact ⟨sl', e'⟩
  · obtain ⟨z1, z2⟩ := nn b (O.st b o q hx)
    obtain ⟨o', e⟩ := I.base.there b o q hx
    obtain ⟨sl', e'⟩ := k3 b _ e z1 z2
    exact ⟨_, e'⟩
  · obtain ⟨m, ⟨o, es, ep, e, ed, er⟩, hl⟩ := I.loc
    obtain ⟨z1, z2⟩ := nn _ O.fr
    obtain ⟨sl, e'⟩ := k3 _ _ e z1 z2
    refine ⟨m, ⟨_, es, ep, e', ed, er⟩, fun i x v q1 q2 q3 => ?_⟩
    obtain ⟨u, ru, l⟩ := hl i x v q1 q2 q3
    refine ⟨u, ru, ?_⟩
    rcases l with l | ⟨kk, c, ec, oc, z, zd⟩
    · exact .inl l
    · obtain ⟨y1, y2⟩ := nn c (O.cl x c ec)
      obtain ⟨sl', e''⟩ := k3 c _ z y1 y2
      exact .inr ⟨kk, c, ec, _, e'', zd⟩
  · obtain ⟨v, oc, z, zd⟩ := I.cell x c q
    obtain ⟨y1, y2⟩ := nn c (O.cl x c q)
    obtain ⟨sl', e''⟩ := k3 c _ z y1 y2
    exact ⟨v, _, e'', zd⟩
  · obtain ⟨z1, z2, z3, z4, z5⟩ := I.pin p hp
    obtain ⟨y1, y2⟩ := nn p.1 (O.pn p hp)
    exact ⟨k2 p.1 p.2 z1 y1 y2 fun z => (mem _ z).elim z3 z4, z2, z3, z4, z5⟩
/-- an object of ours that was not tracked is tracked from now on -/
theorem inv_track {o : HO} {hc : Heap} (I : Inv X pins σ H s) (O : Old X pins hc) (ha : H a = none) (ha0 : hc.get? a = none) (new : ObjOk X.prog X.w (upd H a o) s.heap a o) (hex : X.ex = []) : Inv X pins σ (upd H a o) s := by
  have nn : ∀ b, hc.get? b ≠ none → b ≠ a := fun b q z => q (by rw [z]; exact ha0)
  refine ⟨I.ok, I.os, I.bare, ⟨I.base.keep, I.base.slot, fun b u q n x => ?_, I.base.there, fun b xs q => ?_, fun b u xs q => ?_, fun b ps q => ?_⟩, I.loc, I.cell, ?_, fun x c q => ?_, fun p hp => ?_, hok_laid I.hok (fun _ _ q => q) ha new, I.len⟩
  · rw [upd_ne (nn b (O.st b u q x))]
    exact I.base.free b u q n x
  · have z := I.base.tups b xs q
    rw [upd_ne (ne_of_none z ha)]
    exact z
  · have z := I.base.frzs b u xs q
    rw [upd_ne (ne_of_none z ha)]
    exact z
  · obtain ⟨m, z⟩ := I.base.tbls b ps q
    exact ⟨m, by rw [upd_ne (ne_of_none z ha)]; exact z⟩
  · rw [upd_ne (nn _ O.fr)]
    exact I.free
  · rw [upd_ne (nn c (O.cl x c q))]
    exact I.freeC x c q
  · obtain ⟨z1, z2, z3⟩ := I.pin p hp
    exact ⟨z1, by rw [upd_ne (nn _ (O.pn p hp))]; exact z2, z3⟩
/-- the frame's names are forgotten -/
theorem inv_goes {m' : Str → Option Value} {t' : Nat} (I : Inv X pins σ H s) (hn : h'.Ns X.env.locals m') (hs : Heap.SameBut X.env.locals s.heap h') : Inv X pins (List.replicate X.N.length none) H { s with heap := h', toks := t' } := by
  obtain ⟨m, ⟨oL, _, _, hoL, _⟩, _⟩ := id I.loc
  have neL : ∀ b o, X.s_0.heap.get? b = some o → b ≠ X.env.locals := fun b o e => Nat.ne_of_lt (Nat.lt_of_lt_of_le (Heap.lt_size e) I.ok.above)
  refine ⟨I.ok, I.os, I.bare, ⟨fun b o e n hb hx => ?_, fun b o e n hb hx => ?_, I.base.free, fun b o e hx => ?_, I.base.tups, I.base.frzs, I.base.tbls⟩, ⟨_, hn, fun j y v e1 e2 e3 => ?_⟩, fun y c e => ?_, I.free, I.freeC, fun p hp => ?_, fun b ob e => ?_, by simp⟩
  · exact (hs.2 b (neL b o e)).trans (I.base.keep b o e n hb hx)
  · obtain ⟨sl, q⟩ := I.base.slot b o e n hb hx
    exact ⟨sl, (hs.2 b (neL b o e)).trans q⟩
  · obtain ⟨o', q⟩ := I.base.there b o e hx
    exact ⟨o', (hs.2 b (neL b o e)).trans q⟩
  · rw [List.getElem?_replicate] at e2
    split at e2 <;> cases e2
  · obtain ⟨v, z⟩ := I.cell y c e
    exact ⟨v, z.sameBut hs (I.cne y c e)⟩
  · obtain ⟨z1, z2, z3, z4⟩ := I.pin p hp
    exact ⟨(hs.2 p.1 z3).trans z1, z2, z3, z4⟩
  · refine (I.hok b ob e).stay (fun c v hc q => (hs.2 c ?_).trans q) (fun _ q => q) fun _ _ q => q
    rintro rfl
    rcases hc with rfl | hc
    · rw [I.free] at e
      cases e
    · rw [I.free] at hc
      cases hc
end
/-- what is wanted of a fault in a try: the suite's reading, the fault in slot i -/
def EH (C : Addr) (n i : Nat) (ts : TS) (D : Ends) : XK := fun _ dxo H1 => ∃ dx, dxo = some dx ∧ ∀ a, H1 a = none → ts { nx := fun _ _ => False, rt := D.rt } ((List.replicate n none).set i (some (.ref a))) (upd H1 a (exF C dx a))
theorem ps_try {X : Cx} {C fI : Addr} {i : Nat} {n x : Str} {np hpos pos : Pos} {b0 : Stmt} {body suite : List Stmt} {tb : XK → TS} {ts : TS} (F : FltK X.K C fI) (hcalm : X.calm = true) (hex : X.ex = []) (hst : X.stack = X.env :: X.outer) (hf : X.env.frame = some X.env.locals)
    (hN : X.N.Nodup) (hi : X.N[i]? = some n) (hx : X.env.scope.names.lookup n = some .local) (hg : Gl X x) (hm : X.mg x = some (.ref C))
    (hb : ∀ (pn : List (Addr × Obj)) (xe : Value → Shared → Prop) (E : XK), Passes (CXF X.prog X.w C) { X with pn := pn, xe := xe } E → PSs { X with pn := pn, xe := xe } body (tb E))
    (hs : ∀ (e : Addr) (pn : List (Addr × Obj)), PSs { X with A := X.A.mark (some (.ref e)), calm := false, pn := pn, xe := fun _ _ => False } (b0 :: suite) ts) (hdb : (x == ("__debug__" : Str)) = false := by decide) :
    PS X (.Try body [.ExceptHandler (some (.Name x np)) (some n) (b0 :: suite) hpos] [] [] pos) (fun D σ H => tb (EH C X.N.length i ts D) D σ H) := by
  intro pins s σ H D I h
  have hp1 : ∀ p, p ∈ (X.pn ++ pins) ++ [] → p ∈ X.pn ++ pins := fun p q => by simpa using q
  have hp2 : ∀ p, p ∈ X.pn ++ pins → p ∈ (X.pn ++ pins) ++ [] := fun p q => by simpa using q
  have hpass : Passes (CXF X.prog X.w C) { X with pn := X.pn ++ pins, xe := fun e s1 => ∃ pins' σ' H1 a dx hc, e = .ref a ∧ Inv { X with pn := X.pn ++ pins } pins' σ' H1 s1 ∧ Old { X with pn := X.pn ++ pins } pins' hc ∧ Flying C H1 hc s1.heap a dx ∧ EH C X.N.length i ts D (.ref C) (some dx) H1 } (EH C X.N.length i ts D) := by
    intro pins' σ' H1 s1 e s' I1 hcx
    obtain ⟨a, dx, H', rfl, os, bare, un, hok, fl, hE⟩ := hcx
    have J := I1.call' (ch := []) os un hok bare (fun b z => absurd z (by simp))
    have O := inv_old I1
    exact ⟨pins', σ', H', a, dx, s1.heap, rfl, ⟨⟨J.ok.mod, J.ok.kind, J.ok.glob, J.ok.blt, J.ok.above, J.ok.inj, J.ok.has, J.ok.cab, J.ok.hd, J.ok.frames, J.ok.stk, J.ok.exf, J.ok.bs, J.ok.bsz, J.ok.noex, J.ok.exfs, J.ok.funs, J.ok.frf⟩, J.os, J.bare, J.base, J.loc, J.cell, J.free, J.freeC, J.pin, J.hok, J.len⟩, ⟨O.st, O.fr, O.cl, O.pn⟩, fl, hE⟩
  have I1 : Inv { X with pn := X.pn ++ pins, xe := fun e s1 => ∃ pins' σ' H1 a dx hc, e = .ref a ∧ Inv { X with pn := X.pn ++ pins } pins' σ' H1 s1 ∧ Old { X with pn := X.pn ++ pins } pins' hc ∧ Flying C H1 hc s1.heap a dx ∧ EH C X.N.length i ts D (.ref C) (some dx) H1 } [] σ H s :=
    inv_conv (A := X.A) (c := X.calm) I rfl (fun z => I.ok.hd z) hp1
  refine wpAny_Try_except (wpAny_mono (hb _ _ _ hpass [] s σ H D I1 h) (fun fl s1 q => ?_) fun e s1 q => ?_)
  · have back : ∀ {σ' : St} {H' : Hp}, Inv { X with pn := X.pn ++ pins, xe := fun e s1 => ∃ pins' σ' H1 a dx hc, e = .ref a ∧ Inv { X with pn := X.pn ++ pins } pins' σ' H1 s1 ∧ Old { X with pn := X.pn ++ pins } pins' hc ∧ Flying C H1 hc s1.heap a dx ∧ EH C X.N.length i ts D (.ref C) (some dx) H1 } [] σ' H' s1 → Inv X pins σ' H' s1 :=
      fun J => inv_unconv (A := X.A) (c := X.calm) J I.ok hp2
    cases fl with
    | next =>
      obtain ⟨σ', H', J, z⟩ := q
      exact wpAny_execs_nil ⟨σ', H', back J, z⟩
    | brk =>
      obtain ⟨σ', H', J, z⟩ := q
      exact ⟨σ', H', back J, z⟩
    | cont =>
      obtain ⟨σ', H', J, z⟩ := q
      exact ⟨σ', H', back J, z⟩
    | ret u =>
      obtain ⟨v, σ', H', J, rv, z⟩ := q
      exact ⟨v, σ', H', back J, rv, z⟩
  · obtain ⟨pins', σ', H1, a, dx, hc, rfl, J, O, fl, dx', ed, hE⟩ := q
    cases ed
    obtain ⟨f1, f2, oe, vs, T, oT, ts', e1, e2, e3, e4, e5, e6, e7, e8, e9, e10, e11⟩ := fl
    have hsz : 1 < vs.size := (Array.getElem?_eq_some_iff.mp e5).1
    have hfr : X.A.frames = some (X.env :: X.outer) := by rw [← hst]; exact J.ok.frames
    have hstk : s1.heap.FunFrames X.base (X.env :: X.outer) := by rw [← hst]; exact J.stack
    refine note_next (base := X.base) (L := X.env.locals) hfr hstk hf e1 e4 e5 e9 e10 e11 e6 fun h2 T' No => ?_
    refine No.flight (s := { s1 with heap := h2 }) (fr := none) e4 hsz fun h3 No3 => ?_
    have No3' : Noted (frs X.stack) a (some T) oe T' .none s1.heap h3 := by rw [hst]; exact No3
    have J3 := inv_noted (t' := s1.toks) J No3' hst hf O f1 f2 (fun b z => by cases z; exact ⟨e7, e8⟩)
    have K3 : Inv { X with A := X.A.mark (some (.ref a)), calm := false, pn := X.pn ++ pins, xe := fun _ _ => False } pins' σ' H1 { s1 with heap := h3 } := inv_conv (X := { X with pn := X.pn ++ pins }) (A := X.A.mark (some (.ref a))) (c := false) J3 rfl (fun z => nomatch z) (fun p q => q)
    refine fault_handle (C := C) ?_
    refine ld_glob K3 hg hm ?_ hdb
    obtain ⟨mN, FA, _⟩ := F.at_ _ K3.kIn
    refine ⟨rfl, ⟨mN, _, FA, No3.exc, (map_cls _ _).trans e2⟩, ?_⟩
    refine No3.flight (s := { s1 with heap := h3 }) (fr := none) e4 hsz fun h4 No4 => ?_
    have No4' : Noted (frs X.stack) a (some T) oe T' .none s1.heap h4 := by rw [hst]; exact No4
    have J4 := inv_noted (t' := s1.toks) J No4' hst hf O f1 f2 (fun b z => by cases z; exact ⟨e7, e8⟩)
    have J5 := inv_track (o := exF C dx a) J4 O f1 f2 (exF_ok No4.exc ((map_cls _ _).trans e2) ((map_dict _ _).trans e3) (Obj.data_mapFields e4 _)) hex
    have J6 := J5.weak (σ' := List.replicate X.N.length none) (by rw [List.length_replicate]; exact J5.len.symm) (fun j v q => by
      rw [List.getElem?_replicate] at q
      split at q <;> cases q)
    have K6 : Inv { X with A := X.A.mark (some (.ref a)), calm := false, pn := X.pn ++ pins, xe := fun _ _ => False } pins' (List.replicate X.N.length none) (upd H1 a (exF C dx a)) { s1 with heap := h4 } := inv_conv (X := { X with pn := X.pn ++ pins }) (A := X.A.mark (some (.ref a))) (c := false) J6 rfl (fun z => nomatch z) (fun p q => q)
    refine store_ok (X := { X with A := X.A.mark (some (.ref a)), calm := false, pn := X.pn ++ pins, xe := fun _ _ => False }) (i := i) (v := .ref a) K6 hN hi (.inl hx) rfl (fun s5 K7 => ?_) (.inr hx)
    refine wpAny_mono (hs a (X.pn ++ pins) pins' s5 _ _ { nx := fun _ _ => False, rt := D.rt } K7 (hE a f1)) (fun fl2 s6 q => ?_) fun _ _ z => z
    cases fl2 with
    | next =>
      obtain ⟨_, _, _, z⟩ := q
      exact z.elim
    | brk =>
      obtain ⟨_, _, _, z⟩ := q
      exact z.elim
    | cont =>
      obtain ⟨_, _, _, z⟩ := q
      exact z.elim
    | ret u =>
      obtain ⟨v, σ7, H7, J7, rv, z⟩ := q
      have J8 : Inv X pins σ7 H7 s6 := inv_unconv (X := X) (A := X.A.mark (some (.ref a))) (c := false) (pn := X.pn ++ pins) (pins' := pins') J7 I.ok (fun p q => List.mem_append_left _ q)
      obtain ⟨m, hn, _⟩ := J8.loc
      refine wpAny_nameGoes hx hn (by rw [J8.ok.kind]; rfl) fun h7 m' hn' hs' => ?_
      exact ⟨v, _, H7, inv_goes J8 hn' hs', rv, z⟩
end SbX
end
section
set_option maxHeartbeats 2000000
namespace SbEnum
open PySem
open AutoSeq1 (wpAny_loadPart')
theorem tc_start (a b : Value) : checkTypeCall "enumerate" ⟨[a], [("start", b)]⟩ = pure () := by kernel_rfl
theorem nc_start (a b : Value) : checkBuiltinCall "enumerate.__new__" ⟨[.type "enumerate", a], [("start", b)]⟩ = pure () := by kernel_rfl
abbrev itO (l : Addr) : Obj := { cls := .type "list_iterator", data := .fields #[.ref l, .int 0 0] }
abbrev enO (it : Addr) (n : Int) : Obj := { cls := .type "enumerate", data := .fields #[.none, .bool false, .ref it, rawInt n, .none, .none] }
theorem new_start (l : Addr) (items : Array Value) (n : Nat) (dct : Option Addr) (sl : Array (Option Value)) (k : Int) (t : Tok) (hf : Builtin.SmallTypes.fitsIndex k = true) :
    Meets (Builtin.«enumerate.__new__» ⟨[.type "enumerate", .ref l], [("start", .int k t)]⟩) (fun _ R s => s.heap.get? l = some { cls := .type "list", dict := dct, data := .seq items n, slots := sl } ∧
      R (.ok (.ret (.ref (s.heap.push (itO l)).objs.size))) { s with heap := (s.heap.push (itO l)).push (enO s.heap.objs.size k) }) :=
  .of_wp fun prog w A R s h => by
    obtain ⟨hp, g, d, tk, os⟩ := s
    obtain ⟨hl, h⟩ := h
    have hsub := sub_enumerate
    have hL : Heap.IsList (Shared.heap ⟨hp, g, d, tk, os⟩) l items := ⟨_, hl, rfl, n, rfl⟩
    wp_walk using wpAny_loadPart' hl
    refine wpAny_stack_any fun st => wpAny_pure ?_
    split
    · rename_i c _ _ _ _ _
      cases (c == Value.type "enumerate")
      · wp_walk using wpAny_loadPart' hl, wpAny_pyIter_list hL
        exact ⟨_, rfl, h⟩
      · wp_walk using wpAny_loadPart' hl, wpAny_pyIter_list hL
        exact ⟨_, rfl, h⟩
    · wp_walk using wpAny_loadPart' hl, wpAny_pyIter_list hL
      exact ⟨_, rfl, h⟩
section
variable {prog : Program} {w : World} {A : Around} {E : Value → Shared → Prop} {s : Shared}
theorem init_kw (obj a b : Value) : argsOk "object.__init__" ⟨[obj, a], [("start", b)]⟩ := by
  first | exact rfl | kernel_rfl | decide +kernel
theorem init_meets (obj a b : Value) : Meets (Builtin.«object.__init__» ⟨[obj, a], [("start", b)]⟩) (fun _ R s => s.TypeIs obj "enumerate" ∧ R (.ok (.ret .none)) s) := by
  refine Meets.of_wp fun prog w A R s hs => ?_
  obtain ⟨hT, hq⟩ := hs
  have hl := F.called_enumerate.init.lookup
  have hm := F.called_enumerate.made
  have hne : (some "enumerate.__new__" != some "object.__new__") = true := by decide
  repeat (any_goals (first | assumption | wp_step))
  exact ⟨_, rfl, hq⟩
theorem call_start {l : Addr} {items : Array Value} {k : Int} {t : Tok} {Q : Value → Shared → Prop} (hf : Builtin.SmallTypes.fitsIndex k = true) (hL : s.heap.IsList l items)
    (h : ∀ h', IsEnum h' (s.heap.objs.size + 1) s.heap.objs.size k .none → h'.IsListIter s.heap.objs.size l 0 → h'.objs.size = s.heap.objs.size + 2 →
      (∀ b o, s.heap.get? b = some o → h'.get? b = some o) → Q (.ref (s.heap.objs.size + 1)) { s with heap := h' }) :
    wpAny (model prog w) A (call (.type "enumerate") [.ref l] [("start", .int k t)]) Q E s := by
  obtain ⟨⟨c, dct, dt, sl⟩, hl, hc, n, hd⟩ := hL
  cases (show c = .type "list" from hc)
  cases (show dt = .seq items n from hd)
  have ft := F.called_enumerate
  have h1 := ft.notType
  have h2 := ft.canCreate
  have hmade := ft.made
  have hsub := ft.sub
  obtain ⟨c0, tl0, hmro⟩ := ft.mro
  have hct := tc_start (.ref l) (.int k t)
  refine wpAny_call (codeAny_of_tree ?_)
  show wpAny _ _ (callAny (.type "enumerate") _) _ _ _
  refine wpAny_pure ⟨Code.quiet_builtin _ (by decide +kernel), codeAny_builtin F.entry_type_call ?_⟩
  rw [Around.under_plain (weight_type_call_type "enumerate" [.ref l] [("start", .int k t)]) (units_type_call_type "enumerate" [.ref l] [("start", .int k t)])]
  repeat (any_goals (first | assumption | wp_step))
  let NQ : Value → Shared → Prop := fun obj s1 => s1.TypeIs obj "enumerate" ∧ Q obj s1
  have hz : (s.heap.push (itO l)).objs.size = s.heap.objs.size + 1 := Heap.size_push ..
  have he : IsEnum ((s.heap.push (itO l)).push (enO s.heap.objs.size k)) (s.heap.objs.size + 1) s.heap.objs.size k .none := by
    have z := Heap.get?_push_size (s.heap.push (itO l)) (o := enO s.heap.objs.size k) rfl
    rw [hz] at z
    exact z
  have hN : NQ (.ref (s.heap.push (itO l)).objs.size) { s with heap := (s.heap.push (itO l)).push (enO s.heap.objs.size k) } := by
    rw [hz]
    refine ⟨⟨_, he, rfl⟩, h _ he ⟨_, Heap.get?_push_of_some _ (Heap.get?_push_size _ rfl), rfl, rfl⟩ ?_ fun b o z => Heap.get?_push_of_some _ (Heap.get?_push_of_some _ z)⟩
    rw [Heap.size_push, hz]
  have hW : wants NQ E (.ok (.ret (.ref (s.heap.push (itO l)).objs.size))) { s with heap := (s.heap.push (itO l)).push (enO s.heap.objs.size k) } := hN
  have hrun := codeAny_call_builtin (A := A.in1) ft.plain F.entry_enumerate_new (wpAny_of_eq (nc_start (.ref l) (.int k t)) (new_start l items n dct sl k t hf prog w A.in1 (wants NQ E) s ⟨hl, hW⟩))
  refine codeAny_mono hrun fun r s1 hr => ?_
  cases r with
  | error e => exact hr
  | ok fl =>
    cases fl with
    | ret obj =>
      obtain ⟨hT, hq⟩ : NQ obj s1 := hr
      have hli := ft.init.lookup
      have hbi := ft.init.bind obj
      repeat (any_goals (first | assumption | wp_step))
      have hrun2 := codeAny_call_builtin (A := A.in1) ft.init.plain F.entry_object_init (ft.init.check _ _ _ _ _ _ _ _ hT (init_kw obj (.ref l) (.int k t))
        (init_meets obj (.ref l) (.int k t) prog w A.in1 (wants (fun v s2 => v = .none ∧ Q obj s2) E) s1 ⟨hT, rfl, hq⟩))
      refine codeAny_mono hrun2 fun r2 s2 hr2 => ?_
      cases r2 with
      | error e => exact hr2
      | ok fl2 =>
        cases fl2 with
        | ret v =>
          obtain ⟨rfl, hq2⟩ := hr2
          repeat (any_goals (first | assumption | wp_step))
        | next => exact hr2.elim
        | brk => exact hr2.elim
        | cont => exact hr2.elim
    | next => exact hr.elim
    | brk => exact hr.elim
    | cont => exact hr.elim
end
end SbEnum
end
section
set_option maxHeartbeats 2000000
namespace SbEnum
open PySem
section
variable {prog : Program} {w : World} {A : Around} {E : Value → Shared → Prop} {s : Shared}
abbrev prO (c : Int) (t : Tok) (x : Value) : Obj := { cls := .type "tuple", data := .seq #[.int c t, x] }
/-- what a turn leaves: e the enumerate object, it the list's iterator -/
structure Turned (e it l : Addr) (i : Nat) (c : Int) (x : Value) (t : Tok) (h h' : Heap) : Prop where
  out : IsEnumOut h' e it (c + 1) x h.objs.size
  iter : h'.IsListIter it l (i + 1)
  pair : h'.get? h.objs.size = some (prO c t x)
  size : h'.objs.size = h.objs.size + 1
  keep : ∀ b o, b ≠ e → b ≠ it → h.get? b = some o → h'.get? b = some o
theorem next_at {e it l : Addr} {i : Nat} {c : Int} {items : Array Value} {x old : Value} {Q : Value → Shared → Prop} (he : IsEnum s.heap e it c old) (hit : s.heap.IsListIter it l i) (hl : s.heap.IsList l items)
    (hx : items[i]? = some x) (hne : e ≠ it) (hQ : ∀ h', Turned e it l i c x s.toks s.heap h' → Q (.ref s.heap.objs.size) { s with heap := h', toks := s.toks + 1 }) :
    wpAny (model prog w) A (Builtin.«enumerate.__next__» ⟨[.ref e], []⟩) (fun fin s' => ∃ v, fin = .done (.ret v) ∧ Q v s') E s := by
  obtain ⟨h0, g, d, tk, os⟩ := s
  have lt : e < h0.objs.size := Heap.lt_size he
  show wpAny _ _ (field (.ref e) 2 >>= _) _ _ _
  refine wpAny_bind (wpAny_field he rfl (x := .ref it) rfl (wpAny_bind (wpAny_nextOf_list_item hit hl hx fun h1 i1 b1 => ?_)))
  have b1 : Heap.SameBut it h0 h1 := b1
  have e1 : IsEnum h1 e it c old := (b1.2 e hne).trans he
  show wpAny _ _ (field (.ref e) 3 >>= _) _ _ ⟨h1, g, d, tk, os⟩
  refine wpAny_bind (wpAny_field e1 rfl (x := rawInt c) rfl ?_)
  show wpAny _ _ (field (.ref e) 4 >>= _) _ _ ⟨h1, g, d, tk, os⟩
  refine wpAny_bind (wpAny_field e1 rfl (x := .none) rfl ?_)
  show wpAny _ _ (mkInt c >>= _) _ _ ⟨h1, g, d, tk, os⟩
  refine wpAny_bind (wpAny_mkInt ?_)
  show wpAny _ _ (setField (.ref e) 3 (rawInt (c + 1)) >>= _) _ _ ⟨h1, g, d, tk + 1, os⟩
  refine wpAny_bind (wpAny_setField_rec e1 (by simp) fun h2 e2 b2 => ?_)
  have b2 : Heap.SameBut e h1 h2 := b2
  have e2 : IsEnum h2 e it (c + 1) old := e2
  show wpAny _ _ (setField (.ref e) 4 .none >>= _) _ _ ⟨h2, g, d, tk + 1, os⟩
  refine wpAny_bind (wpAny_setField_rec e2 (by simp) fun h3 e3 b3 => ?_)
  have b3 : Heap.SameBut e h2 h3 := b3
  have e3 : IsEnum h3 e it (c + 1) old := e3
  have z3 : h3.objs.size = h0.objs.size := by rw [b3.1, b2.1, b1.1]
  show wpAny _ _ (newTuple [.int c tk, x] >>= _) _ _ ⟨h3, g, d, tk + 1, os⟩
  refine wpAny_bind (wpAny_newTuple ?_)
  rw [z3]
  obtain ⟨h4, q4⟩ : ∃ h4, h4 = h3.push (prO c tk x) := ⟨_, rfl⟩
  have e4 : IsEnum h4 e it (c + 1) old := by rw [q4]; exact Heap.get?_push_of_some _ e3
  have p4 : h4.get? h0.objs.size = some (prO c tk x) := by rw [q4, ← z3]; exact Heap.get?_push_size _ rfl
  have z4 : h4.objs.size = h0.objs.size + 1 := by rw [q4, Heap.size_push, z3]
  have k4 : ∀ b o, b ≠ e → b ≠ it → h0.get? b = some o → h4.get? b = some o := fun b o n1 n2 q => by
    rw [q4]
    exact Heap.get?_push_of_some _ (b3.extBut b o n1 (b2.extBut b o n1 (b1.extBut b o n2 q)))
  have i4 : h4.IsListIter it l (i + 1) := by
    obtain ⟨o, ho, r⟩ := (i1.extBut b2.extBut (Ne.symm hne)).extBut b3.extBut (Ne.symm hne)
    exact ⟨o, by rw [q4]; exact Heap.get?_push_of_some _ ho, r⟩
  show wpAny _ _ (Builtin.SmallTypes.ownedTupleIsFree (.ref e) >>= _) _ _ ⟨h3.push (prO c tk x), g, d, tk + 1, os⟩
  rw [← q4]
  clear q4 e3 b3 e2 b2 e1 b1 i1 z3
  refine wpAny_bind ?_
  unfold Builtin.SmallTypes.ownedTupleIsFree
  refine wpAny_bind (wpAny_field e4 rfl (x := .none) rfl (wpAny_pure ?_))
  simp only [if_true]
  refine wpAny_bind (wpAny_rule (wpAny_bind (wpAny_field e4 rfl (x := old) rfl ?_)))
  refine wpAny_bind (wpAny_setField_rec e4 (by simp) fun h5 e5 b5 => ?_)
  have b5 : Heap.SameBut e h4 h5 := b5
  have e5 : IsEnum h5 e it (c + 1) x := e5
  show wpAny _ _ (Builtin.SmallTypes.ownedTupleHandOut (.ref e) (.ref h0.objs.size) >>= _) _ _ ⟨h5, g, d, tk + 1, os⟩
  refine wpAny_bind ?_
  unfold Builtin.SmallTypes.ownedTupleHandOut
  refine wpAny_bind (wpAny_setField_rec e5 (by simp) fun h6 e6 b6 => ?_)
  have b6 : Heap.SameBut e h5 h6 := b6
  have e6 : IsEnumOut h6 e it (c + 1) x h0.objs.size := e6
  refine wpAny_setField_rec e6 (by simp) fun h7 e7 b7 => ?_
  have b7 : Heap.SameBut e h6 h7 := b7
  have up : ∀ b o, b ≠ e → h4.get? b = some o → h7.get? b = some o := fun b o n q => b7.extBut b o n (b6.extBut b o n (b5.extBut b o n q))
  refine wpAny_bind (wpAny_letGo (wpAny_pure ⟨_, rfl, hQ h7 ⟨e7, ?_, up _ _ (Nat.ne_of_gt lt) p4, ?_, fun b o n1 n2 q => up b o n1 (k4 b o n1 n2 q)⟩⟩))
  · exact ((i4.extBut b5.extBut (Ne.symm hne)).extBut b6.extBut (Ne.symm hne)).extBut b7.extBut (Ne.symm hne)
  · rw [b7.1, b6.1, b5.1, z4]
theorem py_item {e it l : Addr} {i : Nat} {c : Int} {items : Array Value} {x old : Value} {Q : Option Value → Shared → Prop} (he : IsEnum s.heap e it c old) (hit : s.heap.IsListIter it l i) (hl : s.heap.IsList l items)
    (hx : items[i]? = some x) (hne : e ≠ it) (hQ : ∀ h', Turned e it l i c x s.toks s.heap h' → Q (some (.ref s.heap.objs.size)) { s with heap := h', toks := s.toks + 1 }) : wpAny (model prog w) A (pyNext (.ref e)) Q E s := by
  have ty : s.TypeIs (.ref e) "enumerate" := ⟨_, he, rfl⟩
  unfold pyNext
  refine wpAny_bind (wpAny_attempt (wpAny_callSpecial?_slot (name := Str.ofString "__next__") ty F.slot_enumerate_next (wpAny_call_entry F.slot_enumerate_next ty F.entry_enumerate_next ?_ (F.args_enumerate_next_1 _))))
  exact next_at he hit hl hx hne fun h' T => wpAny_pure (hQ h' T)
theorem py_end {e it l : Addr} {i : Nat} {c : Int} {items : Array Value} {old : Value} {Q : Option Value → Shared → Prop} (hh : A.handled = none) (he : IsEnum s.heap e it c old) (hit : s.heap.IsListIter it l i) (hl : s.heap.IsList l items)
    (hx : items[i]? = none) (hQ : ∀ h', Heap.ExtBut it s.heap h' → Q none { s with heap := h' }) : wpAny (model prog w) A (pyNext (.ref e)) Q E s := by
  have ty : s.TypeIs (.ref e) "enumerate" := ⟨_, he, rfl⟩
  unfold pyNext
  refine wpAny_bind (wpAny_attempt (wpAny_callSpecial?_slot (name := Str.ofString "__next__") ty F.slot_enumerate_next (wpAny_call_entry F.slot_enumerate_next ty F.entry_enumerate_next ?_ (F.args_enumerate_next_1 _))))
  show wpAny _ _ (field (.ref e) 2 >>= _) _ _ _
  refine wpAny_bind (wpAny_field he rfl (x := .ref it) rfl (wpAny_bind (wpAny_nextOf_list_end hh hit hl hx fun h' y k ho => ?_)))
  obtain ⟨o, ho, hc⟩ := ho
  exact wpAny_bind (wpAny_isInstance (T := "StopIteration") (b := true) ⟨o, ho, hc⟩ isSubtype_stop (wpAny_pure (hQ _ k)))
end
end SbEnum
end
section
set_option maxHeartbeats 1000000
namespace SbEnum
open PySem PySem.Spec L2
open PyProof.Rows hiding St
theorem callWith_tyK {M : Model} {A : Around} {E : Value → Shared → Prop} {s : Shared} {pos : Pos} {ty : String} {args : List (Bool × Sem Value)} {keywords : List (Option Str × Sem Value)} {Q : Value → Shared → Prop}
    (h1 : args.any (·.1) = false) (h2 : keywords.any (·.1.isNone) = false)
    (h : wpAny M A (evalArgs (.type ty) true args keywords) (fun a s1 => wpAny M A (call (.type ty) a.pos a.kw) Q E s1) E s) : wpAny M A (callWith pos (.type ty) [] args keywords) Q E s := by
  unfold callWith
  refine wpAny_bind (wpAny_holding (wpAny_mono h (fun a s1 q => wpAny_bind (wpAny_standAt ?_)) fun _ _ x => x))
  simp only [h1, h2, Bool.or_false]
  refine wpAny_bind (wpAny_pure (wpAny_bind (wpAny_mono q (fun r s2 hr => ?_) fun _ _ x => x)))
  exact wpAny_bind (wpAny_holding (wpAny_point (wpAny_pure hr)))
/-- the list at a as it stands at each turn, each item in a new pair with its number from n on -/
def IteS (K : PySem.W.Frag) (a : Addr) (n : Int) : It :=
  ⟨fun i H => ∃ (xs : List V) (x : V), SqL K H a xs ∧ xs[i]? = some x, fun i H v H' => ∃ T x, v = .ref T ∧ H T = none ∧ H' = upd H T (.tup [.int (n + (i : Nat)), x]) ∧ ∀ xs, SqL K H a xs → xs[i]? = some x,
    fun i H => ∃ xs : List V, SqL K H a xs ∧ xs.length ≤ i⟩
theorem turn_enumS {P : Program} {w : World} {K : PySem.W.Frag} {elts : List Expr} {kk : Nat} {tpos : Pos} (a e it : Addr) (n : Int) :
    Turn P w K (.Tuple elts kk tpos) (IteS K a n) [e, it] e (fun i h => (∃ old, IsEnum h e it (n + (i : Nat)) old) ∧ h.IsListIter it a i ∧ e ≠ it) where
  mem := by simp
  obj := fun i h st b hb => by
    obtain ⟨⟨old, he⟩, ⟨o, ho, hc, hd⟩, _⟩ := st
    have e' : b = e ∨ b = it := by simpa using hb
    rcases e' with z | z
    · rw [z]; exact ⟨_, he, fun v q => nomatch q⟩
    · rw [z]; exact ⟨o, ho, fun v q => by rw [hd] at q; cases q⟩
  keep := fun i h h' st k => let ⟨⟨old, he⟩, hi, hne⟩ := st; ⟨⟨old, k e (by simp) _ he⟩, hi.at fun o q => k it (by simp) o q, hne⟩
  item := by
    intro X hP hw hK hc i pins s σ H E I hf st hg
    subst hP hw hK
    obtain ⟨⟨old, he⟩, hit, hne⟩ := st
    obtain ⟨xs, x, hq, hx⟩ := hg
    obtain ⟨its, rv, p, hz⟩ := I.list hq
    obtain ⟨u, hu, ru⟩ := rv.get hx
    have hel : e < s.heap.objs.size := Heap.lt_size he
    have hil : it < s.heap.objs.size := by obtain ⟨_, q, _⟩ := hit; exact Heap.lt_size q
    refine py_item he hit p.isList (x := u) (by simpa using hu) hne fun h' ⟨ho, hit', hT, hsz, hk⟩ => ?_
    refine ⟨_, rfl, wpAny_letOwnedTupleGo_enum (s := { s with heap := h', toks := s.toks + 1 }) ho fun h'' he' sb => ?_⟩
    have hT2 : h''.get? s.heap.objs.size = some (prO (n + (i : Nat)) s.toks u) := (sb.2 _ (Nat.ne_of_gt hel)).trans hT
    have new : ObjOk X.prog X.w (upd H s.heap.objs.size (.tup [.int (n + (i : Nat)), x])) h'' s.heap.objs.size (.tup [.int (n + (i : Nat)), x]) :=
      ⟨by show 2 ≤ sizeLine; decide, [.int (n + (i : Nat)) s.toks, u], .cons ⟨_, rfl⟩ (.cons ru .nil), ⟨_, hT2, rfl, _, rfl⟩⟩
    have I1 : Inv X pins σ (upd H s.heap.objs.size (.tup [.int (n + (i : Nat)), x])) { s with heap := h'', toks := s.toks + 1 } :=
      I.turnedNew (ch := [e, it]) (fun b ob hb q => (sb.2 b (fun z => hb (by simp [z]))).trans (hk b ob (fun z => hb (by simp [z])) (fun z => hb (by simp [z])) q)) hf (Nat.le_refl _) new
    refine ⟨.ref s.heap.objs.size, _, I1, rfl, ⟨_, x, rfl, I.hok.fresh (Nat.le_refl _), rfl, fun ys hy => by rw [I.list_inj hy hq]; exact hx⟩, ⟨⟨u, ?_⟩, hit'.at fun o q => (sb.2 it (Ne.symm hne)).trans q, hne⟩, fun b hb => ?_⟩
    · have e1 : n + ((i + 1 : Nat) : Int) = n + (i : Int) + 1 := by omega
      rw [e1]; exact he'
    · have hb' : b < s.heap.objs.size := by
        have e' : b = e ∨ b = it := by simpa using hb
        rcases e' with z | z
        · rw [z]; exact hel
        · rw [z]; exact hil
      rw [upd_ne (Nat.ne_of_lt hb')]
      exact (hf b hb).1
  done := by
    intro X hP hw hK hc i pins s σ H E I hf st hg
    subst hP hw hK
    obtain ⟨⟨old, he⟩, hit, hne⟩ := st
    obtain ⟨xs, hq, hx⟩ := hg
    obtain ⟨its, rv, p, hz⟩ := I.list hq
    obtain ⟨f0, f1, f2, f3, f4, f5⟩ := hf it (by simp)
    have hl := rv.length
    exact py_end (I.ok.hd hc) he hit p.isList (by simp; omega) fun h' eb => ⟨rfl, I.turned (t' := s.toks) (fun b o hb q => eb b o hb q) f0 f1 f3 f4 f5⟩
  self := fun A i s Q E st h => let ⟨⟨_, he⟩, _⟩ := st; wpAny_pyIter_enum he h
def iEnumS (K : PySem.W.Frag) (ta : TA) (te : TE) : TI := fun σ H R => ta σ H fun vs H1 => te σ H1 fun y H2 => ∃ a xs n, vs = [.ref a] ∧ y = .int n ∧ Builtin.SmallTypes.fitsIndex n = true ∧ SqL K H2 a xs ∧ R (IteS K a n) H2
theorem pi_enumS {X : Cx} {e e2 : Expr} {ta : TA} {te : TE} {p pos tpos kpos : Pos} {elts : List Expr} {kk : Nat} (hg : Gl X "enumerate") (hm : X.mg "enumerate" = none) (ha : PA X [e] ta) (he2 : PE X e2 te)
    (hs : backTo pos (starEach [e] X.env) = [(false, eval e X.env)] := by rfl) (hall : (backToKw pos (keywordEach [⟨some "start", e2, kpos⟩] X.env)).all (·.1.isSome) = true := by rfl)
    (hkw : (backToKw pos (keywordEach [⟨some "start", e2, kpos⟩] X.env)).any (·.1.isNone) = false := by rfl)
    (hnm : (backToKw pos (keywordEach [⟨some "start", e2, kpos⟩] X.env)).filterMap (·.1) = [("start" : Str)] := by rfl) :
    PI X (.Tuple elts kk tpos) (.Call (.Name "enumerate" p) [e] [⟨some "start", e2, kpos⟩] pos) (iEnumS X.K ta te) := by
  intro pins s σ H R I h
  refine wpAny_Call_Name_kw (ld_blt I hg hm boot_enumerate (callWith_tyK (by rw [hs]; rfl) hkw ?_))
  have hA := ha pos pins s σ H _ I h
  rw [hs] at hA ⊢
  refine evalArgs_kwB hall (thn hA fun us s1 ⟨vs, H1, I1, r1, q1⟩ => kws_cons (thn (he2 pins s1 σ H1 _ I1 q1) fun u s2 ⟨y, H2, I2, r2, q2⟩ => kws_nil ?_))
  obtain ⟨a, xs, n, ex, ey, hf, hq, q⟩ := q2
  subst ex ey
  obtain ⟨t, rfl⟩ := r2
  cases r1 with
  | cons r rr =>
    cases rr
    cases r
    rw [hnm]
    obtain ⟨its, rv, p', hz⟩ := I2.list hq
    refine call_start hf p'.isList fun h' he hit hsz hk => wpAny_pyIter_enum he ?_
    have I3 : Inv X pins σ H2 { s2 with heap := h' } := I2.kept (t' := s2.toks) hk
    refine ⟨s2.heap.objs.size + 1, [s2.heap.objs.size + 1, s2.heap.objs.size], _, _, H2, rfl, I3, turn_enumS a (s2.heap.objs.size + 1) s2.heap.objs.size n, ⟨⟨.none, ?_⟩, hit, Nat.succ_ne_self _⟩, fun b hb => ?_, q⟩
    · have e0 : n + ((0 : Nat) : Int) = n := by omega
      rw [e0]; exact he
    · have e' : b = s2.heap.objs.size + 1 ∨ b = s2.heap.objs.size := by simpa using hb
      have hle : s2.heap.objs.size ≤ b := by
        rcases e' with z | z
        · rw [z]; exact Nat.le_add_right _ _
        · rw [z]; exact Nat.le_refl _
      exact I2.fpOk hle (I2.hok.fresh hle)
/-- over such pairs, of a list that the body leaves as it is -/
theorem for_enumS {K : PySem.W.Frag} {a : Addr} {n : Int} {xs : List V} {g : TG} {tb : TS} {D : Ends} {σ : St} {H : Hp} (Pv : Nat → St → Hp → Prop) (h0 : Pv 0 σ H) (hl : ∀ i σ H, i ≤ xs.length → Pv i σ H → SqL K H a xs)
    (hs : ∀ i x σ H T, xs[i]? = some x → Pv i σ H → H T = none → g (.ref T) σ (upd H T (.tup [.int (n + (i : Nat)), x])) fun σ2 H2 => tb { D with nx := Pv (i + 1), ct := Pv (i + 1), bk := D.nx } σ2 H2) (hd : ∀ σ H, Pv xs.length σ H → D.nx σ H) :
    ∃ W : Nat → Nat → St → Hp → Prop, (∃ m, W 0 m σ H) ∧ ∀ i m σ H, W i m σ H →
      ((IteS K a n).stop i H ∧ D.nx σ H) ∨ ((IteS K a n).go i H ∧ ∃ N : St → Hp → Prop, (∀ σ' H', N σ' H' → ∃ m', m' < m ∧ W (i + 1) m' σ' H') ∧ ∀ x H', (IteS K a n).yld i H x H' → g x σ H' fun σ2 H2 => tb { D with nx := N, ct := N, bk := D.nx } σ2 H2) := by
  refine ⟨fun i m σ H => m = xs.length - i ∧ i ≤ xs.length ∧ Pv i σ H, ⟨xs.length, by simp, Nat.zero_le _, h0⟩, ?_⟩
  rintro i m σ H ⟨rfl, hi, p⟩
  have q := hl i σ H hi p
  by_cases hlt : i < xs.length
  · refine .inr ⟨⟨xs, xs[i], q, by simp [hlt]⟩, Pv (i + 1), fun σ' H' p' => ⟨xs.length - (i + 1), by omega, rfl, hlt, p'⟩, fun x H' y => ?_⟩
    obtain ⟨T, z, ev, hT, eH, y⟩ := y
    subst ev eH
    exact hs i z σ _ T (y xs q) p hT
  · have e : i = xs.length := by omega
    subst e
    exact .inl ⟨⟨xs, q, Nat.le_refl _⟩, hd σ H p⟩
end SbEnum
end
section
set_option maxHeartbeats 1000000
namespace SbW
open PySem PySem.Spec L2 SbX
open PyProof.Rows hiding St
/-! ### the text by places -/
def top (i : Nat) : Stmt := PySem.Challenge.pw_surebounds_s01_answers.main.body.getD i (.Pass ⟨0, 0, 0, 0⟩)
abbrev st_is_nominal : Stmt := top 7
abbrev st_are_fit : Stmt := top 8
abbrev st_unit : Stmt := top 9
abbrev st_root_upwards : Stmt := top 10
abbrev st_width : Stmt := top 11
abbrev st_step : Stmt := top 12
abbrev st_is_shaft : Stmt := top 13
abbrev st_letter_number : Stmt := top 14
abbrev st_code_limits : Stmt := top 15
abbrev st_SizeFault_init : Stmt := inClass (top 30) 0
abbrev st_Size_init : Stmt := inClass (top 31) 0
abbrev st_Shape_init : Stmt := inClass (top 32) 0
abbrev st_is_digit : Stmt := top 33
abbrev st_is_letter : Stmt := top 34
abbrev st_Reader_init : Stmt := inClass (top 35) 0
abbrev st_Reader_ahead : Stmt := inClass (top 35) 1
abbrev st_Reader_demand : Stmt := inClass (top 35) 2
abbrev st_Reader_take : Stmt := inClass (top 35) 3
abbrev st_Reader_take_digit : Stmt := inClass (top 35) 4
abbrev st_Reader_take_whole : Stmt := inClass (top 35) 5
abbrev st_Reader_take_fraction : Stmt := inClass (top 35) 6
abbrev st_Reader_take_number : Stmt := inClass (top 35) 7
abbrev st_Reader_take_deviation : Stmt := inClass (top 35) 8
abbrev st_Reader_take_grade : Stmt := inClass (top 35) 9
abbrev st_Reader_is_even : Stmt := inClass (top 35) 10
abbrev st_take_even : Stmt := top 36
abbrev st_take_code : Stmt := top 37
abbrev st_take_uneven : Stmt := top 38
abbrev st_shape_of : Stmt := top 39
abbrev st_check_deviations : Stmt := top 40
abbrev st_limits_of : Stmt := top 41
abbrev st_said : Stmt := top 42
abbrev st_Tool_init : Stmt := inClass (top 50) 0
abbrev st_are_limits : Stmt := top 51
abbrev st_is_tool : Stmt := top 52
abbrev st_can_show : Stmt := top 53
abbrev st_can_read : Stmt := top 54
abbrev st_can_be_checked : Stmt := top 55
abbrev st_turned : Stmt := top 56
abbrev st_first_span : Stmt := top 57
abbrev st_later_span : Stmt := top 58
abbrev st_read_span : Stmt := top 59
abbrev st_check_span : Stmt := top 60
abbrev st_Use_init : Stmt := inClass (top 65) 0
abbrev st_item_value : Stmt := top 66
abbrev st_mark_value : Stmt := top 67
abbrev st_span_rows : Stmt := top 68
abbrev st_use_rows : Stmt := top 69
abbrev st_count_values : Stmt := top 70
abbrev st_rows_of : Stmt := top 71
abbrev st_lower_once : Stmt := top 72
abbrev st_most_above : Stmt := top 73
abbrev st_is_possible : Stmt := top 74
abbrev st_bounds_between : Stmt := top 75
abbrev st_item_bounds : Stmt := top 76
abbrev st_apart_bounds : Stmt := top 77
abbrev st_next_mark_bounds : Stmt := top 78
abbrev st_judged : Stmt := top 93
abbrev st_Book_init : Stmt := inClass (top 94) 0
abbrev st_Book_add_item : Stmt := inClass (top 94) 1
abbrev st_Book_add_tool : Stmt := inClass (top 94) 2
abbrev st_Book_add_use : Stmt := inClass (top 94) 3
abbrev st_Book_read : Stmt := inClass (top 94) 4
abbrev st_Book_check : Stmt := inClass (top 94) 5
abbrev st_Book_bounds_of : Stmt := inClass (top 94) 6
abbrev st_Book_known : Stmt := inClass (top 94) 7
abbrev st_Book_upcoming : Stmt := inClass (top 94) 8
abbrev st_Book_judge : Stmt := inClass (top 94) 9
abbrev st_Book_apart : Stmt := inClass (top 94) 10
abbrev st_Book_back : Stmt := inClass (top 94) 11
abbrev st_Book_counts : Stmt := inClass (top 94) 12
abbrev st_call_end : Stmt := top 108
abbrev st_told : Stmt := top 109
abbrev st_answer_of : Stmt := top 110
abbrev st_answers : Stmt := top 111
/-- the classes' addresses; cI: the fault's __init__ -/
structure Cl where
  cF : Addr
  cI : Addr
  cS : Addr
  cH : Addr
  cR : Addr
  cT : Addr
  cU : Addr
  cB : Addr
/-- a whole number of the module's top -/
def Cst (mg : Str → Option Value) (x : Str) (n : Int) : Prop := ∃ t, mg x = some (.int n t)
/-- a def, a method, an __init__ as the top has made them -/
def FnT (K : PySem.W.Frag) (mg : Str → Option Value) (x : Str) (st : Stmt) : Prop := ∃ f fd, mg x = some (.ref f) ∧ Fun K x x st f fd
def MtT (K : PySem.W.Frag) (C : Addr) (m qual : Str) (st : Stmt) : Prop := ∃ f fd, Meth K C m f ∧ Fun K m qual st f fd
def InT (K : PySem.W.Frag) (C : Addr) (qual : Str) (st : Stmt) : Prop := ∃ f fd, Mk K C f ∧ Fun K "__init__" qual st f fd
/-- the table of a call's numbers -/
def numEs (t0 t1 t2 t3 t4 t5 t6 t7 t8 t9 t10 t11 t12 t13 t14 t15 t16 t17 : Tok) : Array DictEntry := #[⟨2, .int 2 t0, .int 5 t1⟩, ⟨3, .int 3 t2, .int 3 t3⟩, ⟨4, .int 4 t4, .int 4 t5⟩, ⟨5, .int 5 t6, .int 1 t7⟩, ⟨6, .int 6 t8, .int 1 t9⟩, ⟨7, .int 7 t10, .int 1 t11⟩, ⟨8, .int 8 t12, .int 2 t13⟩, ⟨9, .int 9 t14, .int 1 t15⟩, ⟨10, .int 10 t16, .int 0 t17⟩]
def NumT (K : PySem.W.Frag) (mg : Str → Option Value) : Prop := ∃ (a : Addr) (t0 t1 t2 t3 t4 t5 t6 t7 t8 t9 t10 t11 t12 t13 t14 t15 t16 t17 : Tok), mg "NUMBERS" = some (.ref a) ∧ K.lookup a = some ⟨.type "dict", none, .dict (numEs t0 t1 t2 t3 t4 t5 t6 t7 t8 t9 t10 t11 t12 t13 t14 t15 t16 t17) 9, #[]⟩ ∧ (a == sysModules) = false
structure Top (K : PySem.W.Frag) (mg : Str → Option Value) (C : Cl) : Prop where
  c_MOST_NOMINAL : Cst mg "MOST_NOMINAL" (2147483647)
  c_MOST_DEVIATION : Cst mg "MOST_DEVIATION" (1073741824)
  c_UNIT_FACTOR : Cst mg "UNIT_FACTOR" (111)
  c_LETTER_H : Cst mg "LETTER_H" (8)
  c_FIRST_SHAFT : Cst mg "FIRST_SHAFT" (97)
  c_FIRST_HOLE : Cst mg "FIRST_HOLE" (65)
  c_NOTHING : Cst mg "NOTHING" (-1)
  c_BLANK : Cst mg "BLANK" (32)
  c_PLUS : Cst mg "PLUS" (43)
  c_MINUS : Cst mg "MINUS" (45)
  c_POINT : Cst mg "POINT" (46)
  c_DIGIT_0 : Cst mg "DIGIT_0" (48)
  c_DIGIT_9 : Cst mg "DIGIT_9" (57)
  c_MOST_WHOLE_DIGITS : Cst mg "MOST_WHOLE_DIGITS" (9)
  c_TICKS : Cst mg "TICKS" (10000)
  c_PLAIN : Cst mg "PLAIN" (0)
  c_EVEN : Cst mg "EVEN" (1)
  c_UNEVEN : Cst mg "UNEVEN" (2)
  c_CODED : Cst mg "CODED" (3)
  c_INSTRUMENT : Cst mg "INSTRUMENT" (0)
  c_PLUG : Cst mg "PLUG" (1)
  c_RING : Cst mg "RING" (2)
  c_FARTHEST_LIMIT : Cst mg "FARTHEST_LIMIT" (8589934592)
  c_FARTHEST_READING : Cst mg "FARTHEST_READING" (1099511627776)
  c_MOST_ERROR : Cst mg "MOST_ERROR" (1048576)
  c_LEAST_SIZE : Cst mg "LEAST_SIZE" (1)
  c_MOST_SIZE : Cst mg "MOST_SIZE" (4294967296)
  c_GROUND : Cst mg "GROUND" (0)
  c_TOO_LONG : Cst mg "TOO_LONG" (-1)
  c_FAULTY : Cst mg "FAULTY" (-2)
  c_UNFIT : Cst mg "UNFIT" (-3)
  c_NO_SUCH : Cst mg "NO_SUCH" (-4)
  c_IMPOSSIBLE : Cst mg "IMPOSSIBLE" (-5)
  c_FULL : Cst mg "FULL" (-7)
  c_MOST_BYTES : Cst mg "MOST_BYTES" (64)
  c_MOST_ITEMS : Cst mg "MOST_ITEMS" (16)
  c_MOST_TOOLS : Cst mg "MOST_TOOLS" (8)
  c_MOST_USES : Cst mg "MOST_USES" (32)
  c_UNTOLD : Cst mg "UNTOLD" (0)
  c_ACCEPTED : Cst mg "ACCEPTED" (1)
  c_REFUSED : Cst mg "REFUSED" (2)
  c_ITEM : Cst mg "ITEM" (1)
  c_TOOL : Cst mg "TOOL" (2)
  c_READ : Cst mg "READ" (3)
  c_CHECK : Cst mg "CHECK" (4)
  c_KNOWN : Cst mg "KNOWN" (5)
  c_NEXT : Cst mg "NEXT" (6)
  c_JUDGE : Cst mg "JUDGE" (7)
  c_APART : Cst mg "APART" (8)
  c_BACK : Cst mg "BACK" (9)
  c_COUNTS : Cst mg "COUNTS" (10)
  n_len : mg "len" = none
  n_abs : mg "abs" = none
  n_list : mg "list" = none
  n_range : mg "range" = none
  n_enumerate : mg "enumerate" = none
  n_ValueError : mg "ValueError" = none
  g_SizeFault : mg "SizeFault" = some (.ref C.cF)
  g_Size : mg "Size" = some (.ref C.cS)
  g_Shape : mg "Shape" = some (.ref C.cH)
  g_Reader : mg "Reader" = some (.ref C.cR)
  g_Tool : mg "Tool" = some (.ref C.cT)
  g_Use : mg "Use" = some (.ref C.cU)
  g_Book : mg "Book" = some (.ref C.cB)
  k_Size : Cls K C.cS
  a_Size_nominal : NoAttr K C.cS "nominal"
  a_Size_lo : NoAttr K C.cS "lo"
  a_Size_hi : NoAttr K C.cS "hi"
  a_Size_form : NoAttr K C.cS "form"
  a_Size_letter : NoAttr K C.cS "letter"
  a_Size_grade : NoAttr K C.cS "grade"
  k_Shape : Cls K C.cH
  a_Shape_nominal : NoAttr K C.cH "nominal"
  a_Shape_form : NoAttr K C.cH "form"
  a_Shape_behind : NoAttr K C.cH "behind"
  a_Shape_deviations : NoAttr K C.cH "deviations"
  a_Shape_letter : NoAttr K C.cH "letter"
  a_Shape_grade : NoAttr K C.cH "grade"
  k_Reader : Cls K C.cR
  a_Reader_text : NoAttr K C.cR "text"
  a_Reader_at : NoAttr K C.cR "at"
  k_Tool : Cls K C.cT
  a_Tool_kind : NoAttr K C.cT "kind"
  a_Tool_lo : NoAttr K C.cT "lo"
  a_Tool_hi : NoAttr K C.cT "hi"
  a_Tool_e : NoAttr K C.cT "e"
  a_Tool_d : NoAttr K C.cT "d"
  k_Use : Cls K C.cU
  a_Use_tool : NoAttr K C.cU "tool"
  a_Use_item : NoAttr K C.cU "item"
  a_Use_span : NoAttr K C.cU "span"
  k_Book : Cls K C.cB
  a_Book_sizes : NoAttr K C.cB "sizes"
  a_Book_tools : NoAttr K C.cB "tools"
  a_Book_uses : NoAttr K C.cB "uses"
  flt : FltK K C.cF C.cI
  i_SizeFault : ∃ fd, Fun K "__init__" "SizeFault.__init__" st_SizeFault_init C.cI fd
  find_ve : PySem.W.findCls K (.type "ValueError") (.type "type") "__init__" = some (.val (.builtin "ValueError.__init__"))
  num : NumT K mg
  f_is_nominal : FnT K mg "is_nominal" st_is_nominal
  f_are_fit : FnT K mg "are_fit" st_are_fit
  f_unit : FnT K mg "unit" st_unit
  f_root_upwards : FnT K mg "root_upwards" st_root_upwards
  f_width : FnT K mg "width" st_width
  f_step : FnT K mg "step" st_step
  f_is_shaft : FnT K mg "is_shaft" st_is_shaft
  f_letter_number : FnT K mg "letter_number" st_letter_number
  f_code_limits : FnT K mg "code_limits" st_code_limits
  i_Size : InT K C.cS "Size.__init__" st_Size_init
  i_Shape : InT K C.cH "Shape.__init__" st_Shape_init
  f_is_digit : FnT K mg "is_digit" st_is_digit
  f_is_letter : FnT K mg "is_letter" st_is_letter
  i_Reader : InT K C.cR "Reader.__init__" st_Reader_init
  m_Reader_ahead : MtT K C.cR "ahead" "Reader.ahead" st_Reader_ahead
  m_Reader_demand : MtT K C.cR "demand" "Reader.demand" st_Reader_demand
  m_Reader_take : MtT K C.cR "take" "Reader.take" st_Reader_take
  m_Reader_take_digit : MtT K C.cR "take_digit" "Reader.take_digit" st_Reader_take_digit
  m_Reader_take_whole : MtT K C.cR "take_whole" "Reader.take_whole" st_Reader_take_whole
  m_Reader_take_fraction : MtT K C.cR "take_fraction" "Reader.take_fraction" st_Reader_take_fraction
  m_Reader_take_number : MtT K C.cR "take_number" "Reader.take_number" st_Reader_take_number
  m_Reader_take_deviation : MtT K C.cR "take_deviation" "Reader.take_deviation" st_Reader_take_deviation
  m_Reader_take_grade : MtT K C.cR "take_grade" "Reader.take_grade" st_Reader_take_grade
  m_Reader_is_even : MtT K C.cR "is_even" "Reader.is_even" st_Reader_is_even
  f_take_even : FnT K mg "take_even" st_take_even
  f_take_code : FnT K mg "take_code" st_take_code
  f_take_uneven : FnT K mg "take_uneven" st_take_uneven
  f_shape_of : FnT K mg "shape_of" st_shape_of
  f_check_deviations : FnT K mg "check_deviations" st_check_deviations
  f_limits_of : FnT K mg "limits_of" st_limits_of
  f_said : FnT K mg "said" st_said
  i_Tool : InT K C.cT "Tool.__init__" st_Tool_init
  f_are_limits : FnT K mg "are_limits" st_are_limits
  f_is_tool : FnT K mg "is_tool" st_is_tool
  f_can_show : FnT K mg "can_show" st_can_show
  f_can_read : FnT K mg "can_read" st_can_read
  f_can_be_checked : FnT K mg "can_be_checked" st_can_be_checked
  f_turned : FnT K mg "turned" st_turned
  f_first_span : FnT K mg "first_span" st_first_span
  f_later_span : FnT K mg "later_span" st_later_span
  f_read_span : FnT K mg "read_span" st_read_span
  f_check_span : FnT K mg "check_span" st_check_span
  i_Use : InT K C.cU "Use.__init__" st_Use_init
  f_item_value : FnT K mg "item_value" st_item_value
  f_mark_value : FnT K mg "mark_value" st_mark_value
  f_span_rows : FnT K mg "span_rows" st_span_rows
  f_use_rows : FnT K mg "use_rows" st_use_rows
  f_count_values : FnT K mg "count_values" st_count_values
  f_rows_of : FnT K mg "rows_of" st_rows_of
  f_lower_once : FnT K mg "lower_once" st_lower_once
  f_most_above : FnT K mg "most_above" st_most_above
  f_is_possible : FnT K mg "is_possible" st_is_possible
  f_bounds_between : FnT K mg "bounds_between" st_bounds_between
  f_item_bounds : FnT K mg "item_bounds" st_item_bounds
  f_apart_bounds : FnT K mg "apart_bounds" st_apart_bounds
  f_next_mark_bounds : FnT K mg "next_mark_bounds" st_next_mark_bounds
  f_judged : FnT K mg "judged" st_judged
  i_Book : InT K C.cB "Book.__init__" st_Book_init
  m_Book_add_item : MtT K C.cB "add_item" "Book.add_item" st_Book_add_item
  m_Book_add_tool : MtT K C.cB "add_tool" "Book.add_tool" st_Book_add_tool
  m_Book_add_use : MtT K C.cB "add_use" "Book.add_use" st_Book_add_use
  m_Book_read : MtT K C.cB "read" "Book.read" st_Book_read
  m_Book_check : MtT K C.cB "check" "Book.check" st_Book_check
  m_Book_bounds_of : MtT K C.cB "bounds_of" "Book.bounds_of" st_Book_bounds_of
  m_Book_known : MtT K C.cB "known" "Book.known" st_Book_known
  m_Book_upcoming : MtT K C.cB "upcoming" "Book.upcoming" st_Book_upcoming
  m_Book_judge : MtT K C.cB "judge" "Book.judge" st_Book_judge
  m_Book_apart : MtT K C.cB "apart" "Book.apart" st_Book_apart
  m_Book_back : MtT K C.cB "back" "Book.back" st_Book_back
  m_Book_counts : MtT K C.cB "counts" "Book.counts" st_Book_counts
  f_call_end : FnT K mg "call_end" st_call_end
  f_told : FnT K mg "told" st_told
  f_answer_of : FnT K mg "answer_of" st_answer_of
  f_answers : FnT K mg "answers" st_answers
/-! ### promises -/
/-- a promise by its arguments: how they are written as values, what is asked of them -/
def SpOf {α : Type} (enc : α → List V) (B : α → Hp → VK → XK → Prop) : Sp := fun vs H Q E => ∃ a, vs = enc a ∧ B a H Q E
def Def (P : Program) (w : World) (K : PySem.W.Frag) (mg : Str → Option Value) (base : Heap) (CX : CXT) (k : Nat) (x : Str) (ps : List Str) (sp : Sp) : Prop :=
  ∃ f fd, mg x = some (.ref f) ∧ PySem.W.keepIn K (.ref f) = true ∧ Binds K fd ps [] ∧ FnOk P w K mg base CX k f fd ps sp
def MDef (P : Program) (w : World) (K : PySem.W.Frag) (mg : Str → Option Value) (base : Heap) (CX : CXT) (k : Nat) (C : Addr) (m : Str) (ps : List Str) (sp : Sp) : Prop :=
  ∃ f fd, Meth K C m f ∧ Binds K fd ps [] ∧ FnOk P w K mg base CX k f fd ps sp
def IDef (P : Program) (w : World) (K : PySem.W.Frag) (mg : Str → Option Value) (base : Heap) (CX : CXT) (k : Nat) (C : Addr) (ps : List Str) (sp : Sp) : Prop :=
  ∃ f fd, Mk K C f ∧ Binds K fd ps [] ∧ FnOk P w K mg base CX k f fd ps sp
def FDef (P : Program) (w : World) (K : PySem.W.Frag) (mg : Str → Option Value) (base : Heap) (C : Cl) : Prop :=
  ∃ fd, Binds K fd ["self", "kind", "place"] [] ∧ FnOk P w K mg base CX0 1 C.cI fd ["self", "kind", "place"] (spFI C.cF)
section
variable {P : Program} {w : World} {K : PySem.W.Frag} {mg : Str → Option Value} {base : Heap} {k : Nat} {x m qual : Str} {st : Stmt} {C cF : Addr} {N ps : List Str} {α : Type} {enc : α → List V} {B : α → Hp → VK → XK → Prop}
abbrev BindH (x qual : Str) (st : Stmt) (ps : List Str) : Prop := ∀ (kV doc pm : Value) (an : Option Addr) (cdv ct : Value) (us : List Value), us.length = ps.length → bindArgs (PySem.W.fnOf x qual (defArgs st) (defBody st) (defScope st) .none kV doc pm an cdv ct) ⟨us, []⟩ = pure (ps.zip us)
abbrev Body0 (P : Program) (w : World) (K : PySem.W.Frag) (mg : Str → Option Value) (base : Heap) (k : Nat) (qual : Str) (st : Stmt) (N : List Str) (enc : α → List V) (B : α → Hp → VK → XK → Prop) : Prop :=
  ∀ (f : Addr) (cdv : Value) (A : Around) (outer : List Env) (s : Shared) (H : Hp) (a : α) (Q : VK) (E : XK), Room k (A.deeper (envOfC qual (defScope st) s.heap.objs.size f cdv)) → B a H Q E →
    ∃ t, PSs (cxOf CX0 P w K mg base N qual (defScope st) f cdv A outer s H E).nox (defBody st) t ∧ t { nx := fun _ H' => Q .non H', rt := Q } (start N (enc a)) H
abbrev BodyF (cF : Addr) (P : Program) (w : World) (K : PySem.W.Frag) (mg : Str → Option Value) (base : Heap) (k : Nat) (qual : Str) (st : Stmt) (N : List Str) (enc : α → List V) (B : α → Hp → VK → XK → Prop) : Prop :=
  ∀ (f : Addr) (cdv : Value) (A : Around) (outer : List Env) (s : Shared) (H : Hp) (a : α) (Q : VK) (E : XK), Room k (A.deeper (envOfC qual (defScope st) s.heap.objs.size f cdv)) → B a H Q E →
    ∃ t, PSs (cxOf (CXF P w cF) P w K mg base N qual (defScope st) f cdv A outer s H E) (defBody st) t ∧ t { nx := fun _ H' => Q .non H', rt := Q } (start N (enc a)) H
theorem sp_len (len : ∀ a, (enc a).length = ps.length) : ∀ vs H Q E, SpOf enc B vs H Q E → vs.length = ps.length := fun vs H Q E ⟨a, e, _⟩ => by
  rw [e]
  exact len a
theorem fun_ok0 {f : Addr} {fd : FuncData} (F : Fun K x qual st f fd) (S : FnScope N ps (defScope st)) (len : ∀ a, (enc a).length = ps.length) (hb : Body0 P w K mg base k qual st N enc B) : FnOk P w K mg base CX0 (k + 1) f fd ps (SpOf enc B) :=
  F.ok S (sp_len len) fun cdv A outer s H vs Q E hr ⟨a, e, h⟩ => by
    subst e
    exact hb f cdv A outer s H a Q E hr h
theorem fun_okF {f : Addr} {fd : FuncData} (F : Fun K x qual st f fd) (S : FnScope N ps (defScope st)) (len : ∀ a, (enc a).length = ps.length) (hb : BodyF cF P w K mg base k qual st N enc B) : FnOk P w K mg base (CXF P w cF) (k + 1) f fd ps (SpOf enc B) := by
  obtain ⟨oc, od, kV, doc, pm, an, cdv, ct, osl, rfl, lk, hcd⟩ := F.ex
  refine fn_of lk hcd S (sp_len len) fun A outer s H vs Q E hr ⟨a, e, h⟩ => ?_
  subst e
  exact hb f cdv A outer s H a Q E hr h
theorem def_mk (h : FnT K mg x st) (bh : BindH x x st ps) (S : FnScope N ps (defScope st)) (len : ∀ a, (enc a).length = ps.length) (hb : Body0 P w K mg base k x st N enc B) : Def P w K mg base CX0 (k + 1) x ps (SpOf enc B) := by
  obtain ⟨f, fd, h1, F⟩ := h
  exact ⟨f, fd, h1, F.kp, F.binds bh, fun_ok0 F S len hb⟩
theorem def_mkF (h : FnT K mg x st) (bh : BindH x x st ps) (S : FnScope N ps (defScope st)) (len : ∀ a, (enc a).length = ps.length) (hb : BodyF cF P w K mg base k x st N enc B) : Def P w K mg base (CXF P w cF) (k + 1) x ps (SpOf enc B) := by
  obtain ⟨f, fd, h1, F⟩ := h
  exact ⟨f, fd, h1, F.kp, F.binds bh, fun_okF F S len hb⟩
theorem mdef_mk (h : MtT K C m qual st) (bh : BindH m qual st ps) (S : FnScope N ps (defScope st)) (len : ∀ a, (enc a).length = ps.length) (hb : Body0 P w K mg base k qual st N enc B) : MDef P w K mg base CX0 (k + 1) C m ps (SpOf enc B) := by
  obtain ⟨f, fd, h1, F⟩ := h
  exact ⟨f, fd, h1, F.binds bh, fun_ok0 F S len hb⟩
theorem mdef_mkF (h : MtT K C m qual st) (bh : BindH m qual st ps) (S : FnScope N ps (defScope st)) (len : ∀ a, (enc a).length = ps.length) (hb : BodyF cF P w K mg base k qual st N enc B) : MDef P w K mg base (CXF P w cF) (k + 1) C m ps (SpOf enc B) := by
  obtain ⟨f, fd, h1, F⟩ := h
  exact ⟨f, fd, h1, F.binds bh, fun_okF F S len hb⟩
theorem idef_mk (h : InT K C qual st) (bh : BindH "__init__" qual st ps) (S : FnScope N ps (defScope st)) (len : ∀ a, (enc a).length = ps.length) (hb : Body0 P w K mg base k qual st N enc B) : IDef P w K mg base CX0 (k + 1) C ps (SpOf enc B) := by
  obtain ⟨f, fd, h1, F⟩ := h
  exact ⟨f, fd, h1, F.binds bh, fun_ok0 F S len hb⟩
end
section
variable {X : Cx} {CX : CXT} {k : Nat} {C : Addr} {ps : List Str} {sp : Sp} {E : XK} {x m : Str} {p pos apos : Pos} {e o : Expr} {es : List Expr} {ta : TE} {t : TA}
theorem pc {n : Int} (c : Cst X.mg x n) (hg : Gl X x := by rfl) (hd : (x == ("__debug__" : Str)) = false := by decide) : PE X (.Name x pos) (tC (.int n)) := by
  obtain ⟨t, e⟩ := c
  exact pe_glob hg e ⟨t, rfl⟩ hd
theorem pe_callD (D : Def X.prog X.w X.K X.mg X.base CX k x ps sp) (hr : Room k X.A) (hg : Gl X x) (hx : Passes CX X E) (ha : PA X (e :: es) t) (hdb : (x == ("__debug__" : Str)) = false := by decide)
    (he : starEach (e :: es) X.env = (false, eval e X.env) :: starEach es X.env := by rfl) (hpl : (backTo pos (starEach es X.env)).any (·.1) = false := by rfl) : PE X (.Call (.Name x p) (e :: es) [] pos) (tCall sp [] E t) := by
  obtain ⟨f, fd, h1, h2, h3, h4⟩ := D
  exact pe_call h4 hr hg h1 h2 h3 .nil hx ha hdb he hpl
theorem pe_methD {pl : Sem Bool} (he : PE X o ta) (c : Cls X.K C) (D : MDef X.prog X.w X.K X.mg X.base CX k C m ps sp) (hr : Room k X.A) (hx : Passes CX X E) (ha : PA X (e :: es) t)
    (hst : starEach (e :: es) X.env = (false, eval e X.env) :: starEach es X.env := by rfl) (hpl : (backTo pos (starEach es X.env)).any (·.1) = false := by rfl)
    (ht : eval (.Call (.Attribute o m apos) (e :: es) [] pos) X.env = (do
      let ov ← eval o X.env
      standAt apos.atName
      let (f, first) ← holding [ov] (getMethod ov m pl)
      callWith pos f first (backTo pos (starEach (e :: es) X.env)) (backToKw pos (keywordEach [] X.env))) := by rfl) : PE X (.Call (.Attribute o m apos) (e :: es) [] pos) (tMeth C m sp [] E ta t) := by
  obtain ⟨f, fd, h1, h2, h3⟩ := D
  exact pe_meth he c h1 h3 hr h2 .nil hx ha hst hpl ht
theorem pe_methD0 {pl : Sem Bool} (he : PE X o ta) (c : Cls X.K C) (D : MDef X.prog X.w X.K X.mg X.base CX k C m ps sp) (hr : Room k X.A) (hx : Passes CX X E)
    (ht : eval (.Call (.Attribute o m apos) [] [] pos) X.env = (do
      let ov ← eval o X.env
      standAt apos.atName
      let (f, first) ← holding [ov] (getMethod ov m pl)
      callWith pos f first (backTo pos (starEach [] X.env)) (backToKw pos (keywordEach [] X.env))) := by rfl) : PE X (.Call (.Attribute o m apos) [] [] pos) (tMeth C m sp [] E ta tNil) := by
  obtain ⟨f, fd, h1, h2, h3⟩ := D
  exact pe_meth0 he c h1 h3 hr h2 .nil hx ht
theorem pe_makeD (D : IDef X.prog X.w X.K X.mg X.base CX0 k C ps sp) (hr : Room (k + 1) X.A) (hg : Gl X x) (hm : X.mg x = some (.ref C)) (ha : PA X (e :: es) t) (hdb : (x == ("__debug__" : Str)) = false := by decide)
    (he : starEach (e :: es) X.env = (false, eval e X.env) :: starEach es X.env := by rfl) (hpl : (backTo pos (starEach es X.env)).any (·.1) = false := by rfl) : PE X (.Call (.Name x p) (e :: es) [] pos) (tMake C sp [] E0 t) := by
  obtain ⟨f, fd, h1, h2, h3⟩ := D
  exact pe_make h1 h3 hr hg hm h2 .nil pass0 ha hdb he hpl
theorem pe_makeD0 (D : IDef X.prog X.w X.K X.mg X.base CX0 k C ps sp) (hr : Room (k + 1) X.A) (hg : Gl X x) (hm : X.mg x = some (.ref C)) (hdb : (x == ("__debug__" : Str)) = false := by decide) : PE X (.Call (.Name x p) [] [] pos) (tMake C sp [] E0 tNil) := by
  obtain ⟨f, fd, h1, h2, h3⟩ := D
  exact pe_make0 h1 h3 hr hg hm h2 .nil pass0 hdb
end
section
variable {P : Program} {w : World} {K : PySem.W.Frag} {mg : Str → Option Value} {base : Heap} {N : List Str} {qual : Str} {scope : Scope} {f : Addr} {C : Cl} {cd : Value} {A : Around} {outer : List Env} {s0 : Shared} {H0 : Hp} {E : XK}
theorem ps_faultD {np cpos pos : Pos} {e1 e2 : Expr} {t : TA} (D : FDef P w K mg base C) (T : Top K mg C) (hr : Room 2 (cxOf (CXF P w C.cF) P w K mg base N qual scope f cd A outer s0 H0 E).A)
    (hg : Gl (cxOf (CXF P w C.cF) P w K mg base N qual scope f cd A outer s0 H0 E) "SizeFault")
    (ha : PA (cxOf (CXF P w C.cF) P w K mg base N qual scope f cd A outer s0 H0 E) [e1, e2] t)
    (he : starEach [e1, e2] (cxOf (CXF P w C.cF) P w K mg base N qual scope f cd A outer s0 H0 E).env = (false, eval e1 (cxOf (CXF P w C.cF) P w K mg base N qual scope f cd A outer s0 H0 E).env) :: starEach [e2] (cxOf (CXF P w C.cF) P w K mg base N qual scope f cd A outer s0 H0 E).env := by rfl)
    (hpl : (backTo cpos (starEach [e2] (cxOf (CXF P w C.cF) P w K mg base N qual scope f cd A outer s0 H0 E).env)).any (·.1) = false := by rfl) :
    PS (cxOf (CXF P w C.cF) P w K mg base N qual scope f cd A outer s0 H0 E) (.Raise (some (.Call (.Name "SizeFault" np) [e1, e2] [] cpos)) none pos) (tFault C.cF E t) := by
  obtain ⟨fd, h2, h3⟩ := D
  exact ps_fault T.flt h3 hr hg T.g_SizeFault h2 ha (by decide) he hpl
end
/-! ### tests, loops, ends -/
theorem boot_abs : bootBuiltins "abs" = some (.builtin "abs") := by decide +kernel
theorem boot_list : bootBuiltins "list" = some (.type "list") := by decide +kernel
theorem ifD {c A B : Prop} [Decidable c] (h1 : c → A) (h2 : ¬ c → B) : if decide c = true then A else B := by
  by_cases h : c
  · rw [if_pos (decide_eq_true h)]
    exact h1 h
  · rw [if_neg (by rw [decide_eq_false h]; decide)]
    exact h2 h
theorem ifB {c : Bool} {A B : Prop} (h1 : c = true → A) (h2 : c = false → B) : if c = true then A else B := by
  cases c with
  | true => exact iteT (h1 rfl)
  | false => exact iteF (h2 rfl)
/-- not c -/
theorem ifN {c A B : Prop} [Decidable c] (h1 : ¬ c → A) (h2 : c → B) : if (!decide c) = true then A else B := by
  by_cases h : c
  · rw [decide_eq_true h]
    exact iteF (h2 h)
  · rw [decide_eq_false h]
    exact iteT (h1 h)
theorem ifNB {c : Bool} {A B : Prop} (h1 : c = false → A) (h2 : c = true → B) : if (!c) = true then A else B := by
  cases c with
  | true => exact iteF (h2 rfl)
  | false => exact iteT (h1 rfl)
/-- x == y of whole numbers -/
theorem ifE {i j : Int} {A B : Prop} (h1 : i = j → A) (h2 : ¬ i = j → B) : if decide (V.int i = V.int j) = true then A else B :=
  ifD (fun h => h1 (V.int.inj h)) fun h => h2 fun q => h (by rw [q])
theorem bl_eq {Q : VK} {a b : Bool} {H : Hp} (h : Q (.bl a) H) (e : a = b) : Q (.bl b) H := e ▸ h
theorem int_eq {Q : VK} {a b : Int} {H : Hp} (h : Q (.int a) H) (e : a = b) : Q (.int b) H := e ▸ h
/-- a while by a word with a number that falls: what is to be shown behind the test -/
def WK (Pv : Nat → St → Hp → Prop) (tb : TS) (D : Ends) (m : Nat) (σ : St) (b : Bool) (H1 : Hp) : Prop := if b = true then ∃ N : St → Hp → Prop, (∀ σ' H', N σ' H' → ∃ m', m' < m ∧ Pv m' σ' H') ∧ tb { D with nx := N, ct := N, bk := D.nx } σ H1 else D.nx σ H1
theorem while_on {c : TT} {tb : TS} {D : Ends} {σ : St} {H : Hp} (Pv : Nat → St → Hp → Prop) (h0 : ∃ m, Pv m σ H) (hs : ∀ m σ H, Pv m σ H → c σ H fun b H1 => WK Pv tb D m σ b H1) : tWhile c tb D σ H := ⟨Pv, h0, hs⟩
theorem wkT {Pv : Nat → St → Hp → Prop} {tb : TS} {D : Ends} {m : Nat} {σ : St} {H1 : Hp} (h : tb { D with nx := fun σ' H' => ∃ m', m' < m ∧ Pv m' σ' H', ct := fun σ' H' => ∃ m', m' < m ∧ Pv m' σ' H', bk := D.nx } σ H1) : WK Pv tb D m σ true H1 := iteT ⟨_, fun _ _ q => q, h⟩
theorem wkF {Pv : Nat → St → Hp → Prop} {tb : TS} {D : Ends} {m : Nat} {σ : St} {H1 : Hp} (h : D.nx σ H1) : WK Pv tb D m σ false H1 := iteF h
theorem wkD {Pv : Nat → St → Hp → Prop} {tb : TS} {D : Ends} {m : Nat} {σ : St} {H1 : Hp} {c : Prop} [Decidable c] (h1 : c → tb { D with nx := fun σ' H' => ∃ m', m' < m ∧ Pv m' σ' H', ct := fun σ' H' => ∃ m', m' < m ∧ Pv m' σ' H', bk := D.nx } σ H1) (h2 : ¬ c → D.nx σ H1) : WK Pv tb D m σ (decide c) H1 := by
  by_cases h : c
  · rw [decide_eq_true h]
    exact wkT (h1 h)
  · rw [decide_eq_false h]
    exact wkF (h2 h)
/-- what stands but at xs stays -/
def Keep (xs : List Addr) (H H' : Hp) : Prop := ∀ b o, H b = some o → b ∉ xs → H' b = some o
theorem Keep.refl (xs : List Addr) (H : Hp) : Keep xs H H := fun _ _ h _ => h
theorem Keep.trans {xs : List Addr} {H H1 H2 : Hp} (a : Keep xs H H1) (b : Keep xs H1 H2) : Keep xs H H2 := fun c o h n => b c o (a c o h n) n
theorem Keep.mono {xs ys : List Addr} {H H' : Hp} (a : Keep xs H H') (h : ∀ b, b ∈ xs → b ∈ ys) : Keep ys H H' := fun c o e n => a c o e fun z => n (h c z)
theorem Keep.of {xs : List Addr} {H H' : Hp} (s : Same H H') : Keep xs H H' := fun c o h _ => s c o h
theorem Keep.same {H H' : Hp} (a : Keep [] H H') : Same H H' := fun c o h => a c o h (by simp)
theorem Keep.put {xs : List Addr} {H H' : Hp} {a : Addr} {o : HO} (k : Keep xs H H') (h : a ∈ xs) : Keep xs H (upd H' a o) := fun c u e n => by
  rw [upd_ne (fun z => n (by rw [z]; exact h))]
  exact k c u e n
theorem _root_.L2.Same.new {H : Hp} {a : Addr} {o : HO} (h : H a = none) : Same H (upd H a o) := fun c u e => by
  rw [upd_ne (ne_of_none e h)]
  exact e
theorem _root_.L2.Same.on {H H1 : Hp} {a : Addr} {o : HO} (s : Same H H1) (h : H1 a = none) : Same H (upd H1 a o) := s.trans (Same.new h)
/-- a change at an address that was free at first -/
theorem _root_.L2.Same.own {H H1 : Hp} {a : Addr} {o : HO} (s : Same H H1) (h : H a = none) : Same H (upd H1 a o) := fun c u e => by
  rw [upd_ne (ne_of_none e h)]
  exact s c u e
/-- a fault of kind k at place p leaves: all that stood but at xs stands -/
def Err (cF : Addr) (E : XK) (xs : List Addr) (H : Hp) (k p : Int) : Prop := ∀ dx H', H' dx = some (dcO (kp k p) dx) → Keep xs H H' → E (.ref cF) (some dx) H'
theorem Err.on {cF : Addr} {E : XK} {xs ys : List Addr} {H H1 : Hp} {k p : Int} (h : Err cF E ys H k p) (ke : Keep ys H H1) (hs : ∀ b, b ∈ xs → b ∈ ys) : Err cF E xs H1 k p := fun dx H' a b => h dx H' a (ke.trans (b.mono hs))
theorem Err.raise {cF : Addr} {E : XK} {xs : List Addr} {H : Hp} {k p : Int} (h : Err cF E xs H k p) : ∀ dx H2, H dx = none → H2 dx = some (dcO (kp k p) dx) → Same H H2 → E (.ref cF) (some dx) H2 := fun dx H2 _ a b => h dx H2 a (Keep.of b)
/-! ### attributes -/
theorem look_none {fs : List (Str × V)} {m : Str} (h : ((fs.map (·.1)).contains m) = false) : fs.lookup m = none := by
  induction fs with
  | nil => rfl
  | cons p fs ih =>
    rw [List.map_cons, List.contains_cons, Bool.or_eq_false_iff] at h
    obtain ⟨a, b⟩ := p
    rw [List.lookup_cons, h.1]
    exact ih h.2
theorem look_hd {f : Str} {v : V} {fs : List (Str × V)} : ((f, v) :: fs).lookup f = some v := by
  rw [List.lookup_cons, beq_self_eq_true]
theorem look_tl {f g : Str} {v u : V} {fs : List (Str × V)} (h : fs.lookup g = some u) (n : (g == f) = false) : ((f, v) :: fs).lookup g = some u := by
  rw [List.lookup_cons, n]
  exact h
theorem put_nil {f : Str} {v : V} : putF f v [] = [(f, v)] := rfl
theorem put_hd {f : Str} {v u : V} {fs : List (Str × V)} : putF f v ((f, u) :: fs) = (f, v) :: fs := by simp [putF]
theorem put_tl {f g : Str} {v u : V} {fs gs : List (Str × V)} (h : putF f v fs = gs) (n : ¬ g = f) : putF f v ((g, u) :: fs) = (g, u) :: gs := by
  simp [putF, n, h]
/-- an option of the mirror as a value -/
def oV : Option Int → V
  | none => .non
  | some i => .int i
end SbW
end
section
set_option maxHeartbeats 1000000
namespace SbW
open PySem PySem.Spec L2 SbX SbEnum
open PyProof.Rows hiding St
section
variable {P : Program} {w : World} {K : PySem.W.Frag} {mg : Str → Option Value} {base : Heap} {C : Cl}
def sp_is_nominal : Sp := SpOf (fun n : Int => [.int n]) fun n H Q _ => Q (.bl (decide (1 ≤ n ∧ n ≤ 2147483647))) H
theorem sc_is_nominal : FnScope ["nominal"] ["nominal"] (defScope st_is_nominal) := ⟨rfl, rfl, rfl, by decide +kernel, rfl, by decide +kernel, by decide +kernel⟩
theorem D_is_nominal (T : Top K mg C) : Def P w K mg base CX0 1 "is_nominal" ["nominal"] sp_is_nominal := by
  refine def_mk T.f_is_nominal (fun _ _ _ _ _ _ us hl => match us, hl with | [_], _ => rfl) sc_is_nominal (fun _ => rfl) fun f cdv A outer s H n Q E hr h => ?_
  refine ⟨_, (pss_one (ps_ret (pe_chain op_le op_le pe_int (pv 0) (pc T.c_MOST_NOMINAL)))), ?_⟩
  refine ⟨_, rfl, 1, n, rfl, rfl, _, rfl, ifD (fun h1 => ⟨n, _, rfl, rfl, bl_eq h ?_⟩) fun h1 => bl_eq h ?_⟩
  · simp [h1]
  · simp [h1]
def sp_are_fit : Sp := SpOf (fun x : Int × Int × Int => [.int x.1, .int x.2.1, .int x.2.2]) fun x H Q _ => Q (.bl (SbText.fit x.1 x.2.1 x.2.2)) H
theorem sc_are_fit : FnScope ["nominal", "lo", "hi"] ["nominal", "lo", "hi"] (defScope st_are_fit) := ⟨rfl, rfl, rfl, by decide +kernel, rfl, by decide +kernel, by decide +kernel⟩
theorem D_are_fit (T : Top K mg C) : Def P w K mg base CX0 1 "are_fit" ["nominal", "lo", "hi"] sp_are_fit := by
  refine def_mk T.f_are_fit (fun _ _ _ _ _ _ us hl => match us, hl with | [_, _, _], _ => rfl) sc_are_fit (fun _ => rfl) fun f cdv A outer s H x Q E hr k => ?_
  obtain ⟨n, lo, hi⟩ := x
  try dsimp only at k
  refine ⟨_, (pss_cons (ps_if (PW.pt (pw_or (pt_cmpR op_gt (pv 1) (pv 2) (nomark _)) (pw_or1 (pt_cmpR op_lt (pe_op op_add (pv 0) (pv 1)) pe_int (nomark _))))) (pss_one (ps_ret pe_bl)) pss_nil) (pss_one (ps_ret (pe_and (pe_cmpR op_le (pe_callB call_abs (by rfl) T.n_abs boot_abs (pa_cons (pv 1) pa_nil)) (pc T.c_MOST_DEVIATION) (nomark _)) (pe_one (pe_cmpR op_le (pe_callB call_abs (by rfl) T.n_abs boot_abs (pa_cons (pv 2) pa_nil)) (pc T.c_MOST_DEVIATION) (nomark _))))))), ?_⟩
  refine ⟨_, rfl, _, rfl, lo, hi, rfl, rfl, _, rfl, ifD (fun h => iteT ?_) fun h => ?_⟩
  · exact bl_eq k (by simp [SbText.fit]; omega)
  · refine ⟨_, rfl, _, rfl, n, lo, rfl, rfl, _, _, rfl, rfl, _, rfl, ifD (fun h2 => ?_) fun h2 => ?_⟩
    · exact bl_eq k (by simp [SbText.fit]; omega)
    · refine ⟨_, rfl, lo, rfl, _, _, rfl, rfl, _, rfl, ifD (fun h3 => ?_) fun h3 => ?_⟩
      · refine ⟨_, rfl, hi, rfl, _, _, rfl, rfl, bl_eq k ?_⟩
        refine decide_eq_decide.mpr ?_
        split at h3 <;> split <;> omega
      · refine bl_eq k ?_
        simp only [SbText.fit]
        split at h3 <;> simp <;> omega
theorem cub_mono {a b : Nat} (h : a ≤ b) : a * a * a ≤ b * b * b := Nat.mul_le_mul (Nat.mul_le_mul h h) h
def sp_unit : Sp := SpOf (fun n : Nat => [.int n]) fun n H Q _ => 1 ≤ n ∧ n ≤ 2147483647 ∧ Q (.int (Ft.unit n : Nat)) H
theorem sc_unit : FnScope ["nominal", "found"] ["nominal"] (defScope st_unit) := ⟨rfl, rfl, rfl, by decide +kernel, rfl, by decide +kernel, by decide +kernel⟩
theorem D_unit (T : Top K mg C) : Def P w K mg base CX0 1 "unit" ["nominal"] sp_unit := by
  refine def_mk T.f_unit (fun _ _ _ _ _ _ us hl => match us, hl with | [_], _ => rfl) sc_unit (fun _ => rfl) fun f cdv A outer s H n Q E hr h => ?_
  obtain ⟨hn1, hn2, k⟩ := h
  refine ⟨_, (pss_cons (ps_set (i := 1) sc_unit.nd rfl (Or.inl rfl) pe_int) (pss_cons (ps_while PassesOwn.never (pt_cmpR op_lt (pe_op op_mul (pe_op op_mul (pe_op op_mul (pc T.c_UNIT_FACTOR) (pv 1)) (pv 1)) (pv 1)) (pv 0) (nomark _)) (pss_one (ps_set (i := 1) sc_unit.nd rfl (Or.inl rfl) (pe_op op_add (pv 1) pe_int)))) (pss_one (ps_ret (pv 1))))), ?_⟩
  refine while_on (fun m σ H' => H' = H ∧ ∃ u : Nat, m = 300 - u ∧ σ = [some (.int n), some (.int u)] ∧ 1 ≤ u ∧ u ≤ 270 ∧ ∀ q, q < u → 111 * (q * q * q) < n) ⟨_, rfl, 1, rfl, rfl, by omega, by omega, fun q hq => ?_⟩ ?_
  · have e0 : q = 0 := by omega
    subst e0
    omega
  · rintro m σ H' ⟨rfl, u, rfl, rfl, h1, h2, h3⟩
    have hu3 : ((u * u * u : Nat) : Int) = (u : Int) * u * u := by simp
    have b1 : u * u ≤ 270 * 270 := Nat.mul_le_mul h2 h2
    have b2 : u * u * u ≤ 270 * 270 * 270 := Nat.mul_le_mul b1 h2
    have e1 : (111 : Int) * u * u * u = ((111 * (u * u * u) : Nat) : Int) := by
      rw [Int.natCast_mul, hu3, Int.mul_assoc, Int.mul_assoc, Int.mul_assoc]
      rfl
    refine ⟨_, rfl, _, _, rfl, rfl, .inl ⟨by omega, by omega⟩, _, rfl, _, _, rfl, rfl, .inr ⟨by omega, by omega⟩, _, rfl, _, _, rfl, rfl, .inr ⟨by omega, by omega⟩, _, rfl, _, _, rfl, rfl, _, rfl, wkD (fun h => ?_) fun h => ?_⟩
    · have h : (111 : Int) * u * u * u < n := h
      rw [e1] at h
      have h270 : u ≠ 270 := by
        intro hc
        subst hc
        omega
      refine ⟨_, rfl, _, _, rfl, rfl, 300 - (u + 1), by omega, rfl, u + 1, rfl, rfl, by omega, by omega, fun q hq => ?_⟩
      by_cases hmu : q < u
      · exact h3 q hmu
      · have : q = u := by omega
        subst this
        omega
    · have h : ¬ (111 : Int) * u * u * u < n := h
      rw [e1] at h
      have := SbSize.unit_eq hn1 hn2 (u := u) (by omega) h3
      exact ⟨_, rfl, int_eq k (by rw [this])⟩
def sp_root_upwards : Sp := SpOf (fun n : Nat => [.int n]) fun n H Q _ => n < 2 ^ 60 ∧ ∀ t : Nat, n ≤ t * t → (∀ m, m < t → m * m < n) → Q (.int t) H
theorem sc_root_upwards : FnScope ["square", "below", "enough", "middle"] ["square"] (defScope st_root_upwards) := ⟨rfl, rfl, rfl, by decide +kernel, rfl, by decide +kernel, by decide +kernel⟩
theorem D_root_upwards (T : Top K mg C) : Def P w K mg base CX0 1 "root_upwards" ["square"] sp_root_upwards := by
  refine def_mk T.f_root_upwards (fun _ _ _ _ _ _ us hl => match us, hl with | [_], _ => rfl) sc_root_upwards (fun _ => rfl) fun f cdv A outer s H n Q E hr h => ?_
  obtain ⟨hn, k⟩ := h
  refine ⟨_, (pss_cons (ps_set (i := 1) sc_root_upwards.nd rfl (Or.inl rfl) (pe_un un_neg pe_int)) (pss_cons (ps_set (i := 2) sc_root_upwards.nd rfl (Or.inl rfl) (pv 0)) (pss_cons (ps_while PassesOwn.never (pt_cmpR op_gt (pe_op op_sub (pv 2) (pv 1)) pe_int (nomark _)) (pss_cons (ps_set (i := 3) sc_root_upwards.nd rfl (Or.inl rfl) (pe_op op_fdiv (pe_op op_add (pv 1) (pv 2)) pe_int)) (pss_one (ps_if (pt_cmpR op_ge (pe_op op_mul (pv 3) (pv 3)) (pv 0) (nomark _)) (pss_one (ps_set (i := 2) sc_root_upwards.nd rfl (Or.inl rfl) (pv 3))) (pss_one (ps_set (i := 1) sc_root_upwards.nd rfl (Or.inl rfl) (pv 3))))))) (pss_one (ps_ret (pv 2)))))), ?_⟩
  refine ⟨_, rfl, _, rfl, ?_⟩
  refine while_on (fun m σ H' => H' = H ∧ ∃ (lo : Int) (e : Nat) (v3 : Option V), m = (e - lo).toNat ∧ σ = [some (.int n), some (.int lo), some (.int e), v3] ∧ -1 ≤ lo ∧ lo < e ∧ e ≤ n ∧ n ≤ e * e ∧ ∀ q : Nat, (q : Int) ≤ lo → q * q < n)
    ⟨_, rfl, -1, n, none, rfl, rfl, by omega, by omega, by omega, ?_, fun q hq => by omega⟩ ?_
  · rcases Nat.eq_zero_or_pos n with h0 | h0
    · omega
    · exact Nat.le_mul_of_pos_left n h0
  · rintro m σ H' ⟨rfl, lo, e, v3, rfl, rfl, h1, h2, h3, h4, h5⟩
    refine ⟨_, rfl, _, rfl, _, _, rfl, rfl, _, _, rfl, rfl, _, rfl, wkD (fun h => ?_) fun h => ?_⟩
    · have h : (1 : Int) < (e : Int) - lo := h
      obtain ⟨mid, hm⟩ : ∃ mid : Nat, (lo + e) / 2 = (mid : Int) := ⟨((lo + e) / 2).toNat, by omega⟩
      have hm1 : lo < mid := by omega
      have hm2 : mid < e := by omega
      have hmm : ((mid * mid : Nat) : Int) = (mid : Int) * mid := by simp
      refine ⟨_, rfl, _, rfl, _, _, rfl, rfl, _, _, rfl, rfl, ⟨by decide, by decide⟩, ?_⟩
      refine ⟨_, rfl, _, rfl, _, _, rfl, rfl, .inl ⟨?_, ?_⟩, _, rfl, _, _, rfl, rfl, _, rfl, ifD (fun hc => ?_) fun hc => ?_⟩
      · show -(2 ^ 64) < (lo + e) / 2
        omega
      · show (lo + e) / 2 < 2 ^ 64
        omega
      · have hc : (n : Int) ≤ (lo + e) / 2 * ((lo + e) / 2) := hc
        rw [hm, ← hmm] at hc
        refine ⟨_, rfl, (mid - lo).toNat, by omega, rfl, lo, mid, some (V.int mid), rfl, ?_, h1, hm1, by omega, by omega, h5⟩
        show [some (V.int n), some (V.int lo), some (V.int ((lo + e) / 2)), some (V.int ((lo + e) / 2))] = _
        rw [hm]
      · have hc : ¬ (n : Int) ≤ (lo + e) / 2 * ((lo + e) / 2) := hc
        rw [hm, ← hmm] at hc
        refine ⟨_, rfl, (e - (mid : Int)).toNat, by omega, rfl, mid, e, some (V.int mid), rfl, ?_, by omega, by omega, h3, h4, fun q hq => ?_⟩
        · show [some (V.int n), some (V.int ((lo + e) / 2)), some (V.int e), some (V.int ((lo + e) / 2))] = _
          rw [hm]
        · have hq' : q ≤ mid := by omega
          have := Nat.mul_le_mul hq' hq'
          omega
    · have h : ¬ (1 : Int) < (e : Int) - lo := h
      exact ⟨_, rfl, k e h4 fun m hm => h5 m (by omega)⟩
def sp_width : Sp := SpOf (fun x : Nat × Nat => [.int x.1, .int x.2]) fun x H Q _ => x.1 ≤ 21 ∧ 1 ≤ x.2 ∧ x.2 ≤ 2147483647 ∧ Q (.int (Ft.width x.2 x.1 : Nat)) H
theorem sc_width : FnScope ["grade", "nominal", "square", "doubling"] ["grade", "nominal"] (defScope st_width) := ⟨rfl, rfl, rfl, by decide +kernel, rfl, by decide +kernel, by decide +kernel⟩
theorem D_width (T : Top K mg C) : Def P w K mg base CX0 2 "width" ["grade", "nominal"] sp_width := by
  refine def_mk T.f_width (fun _ _ _ _ _ _ us hl => match us, hl with | [_, _], _ => rfl) sc_width (fun _ => rfl) fun f cdv A outer s H x Q E hr h => ?_
  obtain ⟨g, n⟩ := x
  try dsimp only at h
  obtain ⟨hg, hn1, hn2, k⟩ := h
  have hu := SbSize.unit_le hn2
  have hu2 : Ft.unit n ^ 2 ≤ 269 ^ 2 := Nat.pow_le_pow_left hu 2
  have hg2 : 2 ^ g ≤ 2 ^ 21 := Nat.pow_le_pow_right (by decide) hg
  have hsq : Ft.unit n ^ 2 * 2 ^ g ≤ 269 ^ 2 * 2 ^ 21 := Nat.mul_le_mul hu2 hg2
  refine ⟨_, (pss_cons (ps_set (i := 2) sc_width.nd rfl (Or.inl rfl) (pe_op op_pow (pe_callD (D_unit T) (hr.mono (by decide)) (by rfl) pass0 (pa_cons (pv 1) pa_nil)) pe_int)) (pss_cons (ps_for PassesOwn.never rfl (pi_range1 rfl T.n_range (pa_cons (pv 0) pa_nil)) (pg_name (i := 3) sc_width.nd rfl (Or.inl rfl)) (pss_one (ps_set (i := 2) sc_width.nd rfl (Or.inl rfl) (pe_op op_mul (pv 2) pe_int)))) (pss_one (ps_ret (pe_callD (D_root_upwards T) (hr.mono (by decide)) (by rfl) pass0 (pa_cons (pv 2) pa_nil)))))), ?_⟩
  refine ⟨_, rfl, n, rfl, hn1, hn2, _, _, rfl, rfl, ⟨by decide, by decide, ?_⟩, ?_⟩
  · show ((Ft.unit n : Nat) : Int).natAbs < 2 ^ 64
    omega
  · refine ⟨_, rfl, (g : Int), rfl, by omega, by omega, for_range (lo := 0) (n := g) (fun i σ H' => i ≤ g ∧ H' = H ∧ ∃ v, σ = [some (.int g), some (.int n), some (.int ((Ft.unit n ^ 2 * 2 ^ i : Nat) : Int)), v]) ⟨by omega, rfl, none, ?_⟩ ?_ ?_⟩
    · show [some (V.int g), some (V.int n), some (V.int ((Ft.unit n : Int) ^ 2)), none] = _
      simp
    · rintro i σ H' hi ⟨_, rfl, v, rfl⟩
      have hb : Ft.unit n ^ 2 * 2 ^ i ≤ 269 ^ 2 * 2 ^ 21 := Nat.mul_le_mul hu2 (Nat.pow_le_pow_right (by decide) (by omega))
      refine ⟨_, rfl, _, _, rfl, rfl, .inl ⟨by omega, by omega⟩, by omega, rfl, some (V.int (0 + (i : Int))), ?_⟩
      show [some (V.int g), some (V.int n), some (V.int (((Ft.unit n ^ 2 * 2 ^ i : Nat) : Int) * 2)), some (V.int (0 + (i : Int)))] = _
      rw [show 2 ^ (i + 1) = 2 ^ i * 2 from Nat.pow_succ .., ← Nat.mul_assoc, Int.natCast_mul _ 2]
      rfl
    · rintro σ H' ⟨_, rfl, v, rfl⟩
      refine ⟨_, rfl, _, rfl, by omega, fun t h1 h2 => int_eq k ?_⟩
      rw [SbSize.width_eq hn2 hg h1 h2]
def sp_step : Sp := SpOf (fun x : Nat × Nat => [.int x.1, .int x.2]) fun x H Q _ => x.1 ≤ 18 ∧ 1 ≤ x.2 ∧ x.2 ≤ 2147483647 ∧ Q (.int (Ft.step (Ft.width x.2) x.1 : Nat)) H
theorem sc_step : FnScope ["number", "nominal"] ["number", "nominal"] (defScope st_step) := ⟨rfl, rfl, rfl, by decide +kernel, rfl, by decide +kernel, by decide +kernel⟩
theorem D_step (T : Top K mg C) : Def P w K mg base CX0 3 "step" ["number", "nominal"] sp_step := by
  refine def_mk T.f_step (fun _ _ _ _ _ _ us hl => match us, hl with | [_, _], _ => rfl) sc_step (fun _ => rfl) fun f cdv A outer s H x Q E hr h => ?_
  obtain ⟨g, n⟩ := x
  try dsimp only at h
  obtain ⟨hg, hn1, hn2, k⟩ := h
  refine ⟨_, (pss_cons (ps_if (pt_cmpR op_eq (pv 0) pe_int (nomark _)) (pss_one (ps_ret pe_int)) pss_nil) (pss_one (ps_ret (pe_callD (D_width T) (hr.mono (by decide)) (by rfl) pass0 (pa_cons (pe_op op_add (pv 0) pe_int) (pa_cons (pv 1) pa_nil)))))), ?_⟩
  refine ⟨_, rfl, rfl, _, rfl, ifE (fun h => ?_) fun h => ?_⟩
  · have e : g = 0 := by omega
    exact int_eq k (by rw [e]; rfl)
  · refine ⟨_, rfl, _, _, rfl, rfl, _, rfl, (g + 3, n), rfl, by show g + 3 ≤ 21; omega, hn1, hn2, int_eq k ?_⟩
    have e : g ≠ 0 := by omega
    simp [Ft.step, e]
def sp_is_shaft : Sp := SpOf (fun n : Int => [.int n]) fun n H Q _ => Q (.bl (decide (97 ≤ n))) H
theorem sc_is_shaft : FnScope ["letter"] ["letter"] (defScope st_is_shaft) := ⟨rfl, rfl, rfl, by decide +kernel, rfl, by decide +kernel, by decide +kernel⟩
theorem D_is_shaft (T : Top K mg C) : Def P w K mg base CX0 1 "is_shaft" ["letter"] sp_is_shaft := by
  refine def_mk T.f_is_shaft (fun _ _ _ _ _ _ us hl => match us, hl with | [_], _ => rfl) sc_is_shaft (fun _ => rfl) fun f cdv A outer s H n Q E hr h => ?_
  exact ⟨_, (pss_one (ps_ret (pe_cmpR op_ge (pv 0) (pc T.c_FIRST_SHAFT) (nomark _)))), ⟨_, rfl, _, _, rfl, rfl, h⟩⟩
def lnum (l : Int) : Int := if 97 ≤ l then l - 104 else l - 72
def sp_letter_number : Sp := SpOf (fun n : Int => [.int n]) fun n H Q _ => Q (.int (lnum n)) H
theorem sc_letter_number : FnScope ["letter", "first"] ["letter"] (defScope st_letter_number) := ⟨rfl, rfl, rfl, by decide +kernel, rfl, by decide +kernel, by decide +kernel⟩
theorem D_letter_number (T : Top K mg C) : Def P w K mg base CX0 2 "letter_number" ["letter"] sp_letter_number := by
  refine def_mk T.f_letter_number (fun _ _ _ _ _ _ us hl => match us, hl with | [_], _ => rfl) sc_letter_number (fun _ => rfl) fun f cdv A outer s H n Q E hr h => ?_
  refine ⟨_, (pss_cons (ps_set (i := 1) sc_letter_number.nd rfl (Or.inl rfl) (pe_ifExp (pt_val (pe_callD (D_is_shaft T) (hr.mono (by decide)) (by rfl) pass0 (pa_cons (pv 0) pa_nil))) (pc T.c_FIRST_SHAFT) (pc T.c_FIRST_HOLE))) (pss_one (ps_ret (pe_op op_sub (pe_op op_add (pe_op op_sub (pv 0) (pv 1)) pe_int) (pc T.c_LETTER_H))))), ?_⟩
  refine ⟨_, rfl, n, rfl, _, rfl, ifD (fun c => ?_) fun c => ?_⟩
  · refine ⟨_, rfl, _, rfl, _, _, rfl, rfl, _, _, rfl, rfl, _, _, rfl, rfl, int_eq h ?_⟩
    unfold lnum
    rw [if_pos c]
    omega
  · refine ⟨_, rfl, _, rfl, _, _, rfl, rfl, _, _, rfl, rfl, _, _, rfl, rfl, int_eq h ?_⟩
    unfold lnum
    rw [if_neg c]
    omega
def sp_code_limits : Sp := SpOf (fun x : Nat × Nat × Nat => [.int x.1, .int x.2.1, .int x.2.2]) fun x H Q _ => x.2.1 ≤ 16 ∧ 1 ≤ x.2.2 ∧ x.2.2 ≤ 2147483647 ∧
  ∃ h m, Ft.letterOf x.1 = some (h, m) ∧ ∀ p, H p = none → Q (.ref p) (upd H p (.tup [.int (Ft.codeLimits (Ft.width x.2.2) h m x.2.1).1, .int (Ft.codeLimits (Ft.width x.2.2) h m x.2.1).2]))
theorem letter_spec {l : Nat} {h : Bool} {m : Int} (e : Ft.letterOf l = some (h, m)) : m = lnum l ∧ -7 ≤ m ∧ m ≤ 18 ∧ (h = true ↔ ¬ (97 : Int) ≤ l) := by
  unfold Ft.letterOf at e
  unfold lnum
  split at e
  · cases e
    rw [if_pos (by omega)]
    refine ⟨rfl, by omega, by omega, ?_⟩
    simp
    omega
  · split at e
    · cases e
      rw [if_neg (by omega)]
      refine ⟨rfl, by omega, by omega, ?_⟩
      simp
      omega
    · cases e
theorem tup_eq {Q : VK} {H : Hp} {p : Addr} {a b c d : Int} (h : Q (.ref p) (upd H p (.tup [.int a, .int b]))) (e1 : a = c) (e2 : b = d) : Q (.ref p) (upd H p (.tup [.int c, .int d])) := by
  subst e1 e2
  exact h
theorem sc_code_limits : FnScope ["letter", "grade", "nominal", "number", "away", "wide"] ["letter", "grade", "nominal"] (defScope st_code_limits) := ⟨rfl, rfl, rfl, by decide +kernel, rfl, by decide +kernel, by decide +kernel⟩
theorem D_code_limits (T : Top K mg C) : Def P w K mg base CX0 4 "code_limits" ["letter", "grade", "nominal"] sp_code_limits := by
  refine def_mk T.f_code_limits (fun _ _ _ _ _ _ us hl => match us, hl with | [_, _, _], _ => rfl) sc_code_limits (fun _ => rfl) fun f cdv A outer s H x Q E hr h => ?_
  obtain ⟨l, g, n⟩ := x
  try dsimp only at h
  obtain ⟨hg, hn1, hn2, hb, m, hl, k⟩ := h
  obtain ⟨em, m1, m2, hh⟩ := letter_spec hl
  have ea : (if lnum l < 0 then -lnum l else lnum l) = ((m.natAbs : Nat) : Int) := by
    rw [← em]
    split <;> omega
  refine ⟨_, (pss_cons (ps_set (i := 3) sc_code_limits.nd rfl (Or.inl rfl) (pe_callD (D_letter_number T) (hr.mono (by decide)) (by rfl) pass0 (pa_cons (pv 0) pa_nil))) (pss_cons (ps_set (i := 4) sc_code_limits.nd rfl (Or.inl rfl) (pe_callD (D_step T) (hr.mono (by decide)) (by rfl) pass0 (pa_cons (pe_callB call_abs (by rfl) T.n_abs boot_abs (pa_cons (pv 3) pa_nil)) (pa_cons (pv 2) pa_nil)))) (pss_cons (ps_set (i := 5) sc_code_limits.nd rfl (Or.inl rfl) (pe_callD (D_width T) (hr.mono (by decide)) (by rfl) pass0 (pa_cons (pv 1) (pa_cons (pv 2) pa_nil)))) (pss_cons (ps_if (pt_cmpR op_eq (pe_callD (D_is_shaft T) (hr.mono (by decide)) (by rfl) pass0 (pa_cons (pv 0) pa_nil)) (pe_cmpR op_le (pv 3) pe_int (nomark _)) (nomark _)) (pss_one (ps_ret (pe_tup (pa_cons (pe_op op_sub (pe_un un_neg (pv 4)) (pv 5)) (pa_cons (pe_un un_neg (pv 4)) pa_nil))))) pss_nil) (pss_one (ps_ret (pe_tup (pa_cons (pv 4) (pa_cons (pe_op op_add (pv 4) (pv 5)) pa_nil))))))))), ?_⟩
  refine ⟨_, rfl, (l : Int), rfl, _, rfl, lnum l, rfl, _, rfl, (m.natAbs, n), ?_, by show m.natAbs ≤ 18; omega, hn1, hn2, _, rfl, _, rfl, (g, n), rfl, by show g ≤ 21; omega, hn1, hn2, ?_⟩
  · show [V.int (if lnum l < 0 then -lnum l else lnum l), V.int n] = _
    rw [ea]
  · refine ⟨_, rfl, (l : Int), rfl, _, rfl, _, _, rfl, rfl, rfl, _, rfl, ifD (fun c => ?_) fun c => ?_⟩
    · have c : decide ((97 : Int) ≤ l) = decide (lnum l ≤ 0) := V.bl.inj c
      have c : (97 : Int) ≤ l ↔ lnum l ≤ 0 := by simpa using c
      refine ⟨_, rfl, _, rfl, _, rfl, _, _, rfl, rfl, _, rfl, _, rfl, (by show 2 ≤ sizeLine; decide), fun p hp => tup_eq (k p hp) ?_ ?_⟩
      all_goals
        rw [← em] at c
        cases hb with
        | true =>
          have : ¬ (97 : Int) ≤ l := hh.mp rfl
          have hm : ¬ m ≤ 0 := fun z => this (c.mpr z)
          simp [Ft.codeLimits, Ft.shaftLimits, hm]
          try omega
        | false =>
          have : (97 : Int) ≤ l := by
            by_cases z : (97 : Int) ≤ l
            · exact z
            · cases hh.mpr z
          have hm : m ≤ 0 := c.mp this
          simp [Ft.codeLimits, Ft.shaftLimits, hm]
          try omega
    · have c : ¬ ((97 : Int) ≤ l ↔ lnum l ≤ 0) := fun z => c (by
        show V.bl (decide ((97 : Int) ≤ l)) = V.bl (decide (lnum l ≤ 0))
        rw [decide_eq_decide.mpr z])
      refine ⟨_, rfl, _, rfl, _, rfl, _, _, rfl, rfl, (by show 2 ≤ sizeLine; decide), fun p hp => tup_eq (k p hp) ?_ ?_⟩
      all_goals
        rw [← em] at c
        cases hb with
        | true =>
          have z : ¬ (97 : Int) ≤ l := hh.mp rfl
          have hm : m ≤ 0 := by
            by_cases y : m ≤ 0
            · exact y
            · exact (c ⟨fun q => (z q).elim, fun q => (y q).elim⟩).elim
          simp [Ft.codeLimits, Ft.shaftLimits, hm]
          try omega
        | false =>
          have z : (97 : Int) ≤ l := by
            by_cases z : (97 : Int) ≤ l
            · exact z
            · cases hh.mpr z
          have hm : ¬ m ≤ 0 := fun q => c ⟨fun _ => q, fun _ => z⟩
          simp [Ft.codeLimits, Ft.shaftLimits, hm]
          try omega
end
end SbW
end
section
set_option maxHeartbeats 1000000
namespace SbW
open PySem PySem.Spec L2 SbX SbEnum
open PyProof.Rows hiding St
open FtBench (Tool)
open SbBook (Span firstSpan laterSpan readSpan checkSpan)
section
variable {X : Cx} {pos : Pos} {a b c d : Expr} {ta tb tc td : TE}
/-- a op1 b op2 c op3 d -/
def tChain3 (r r' r2 : R2) (ta tb tc td : TE) : TE := fun σ H Q => ta σ H fun x H1 => tb σ H1 fun y H2 => r x y H2 fun z H3 => ∃ k, z = .bl k ∧
  (if k = true then tc σ H3 fun v H4 => r' y v H4 fun z' H5 => ∃ k', z' = .bl k' ∧ (if k' = true then td σ H5 fun u H6 => r2 v u H6 Q else Q (.bl false) H5) else Q (.bl false) H3)
open PyProof.Rows in
theorem pe_chain3 {op op' op2 : CmpOp} {r r' r2 : R2} (ho : OpR X (compareOp op) r) (ho' : OpR X (compareOp op') r') (ho2 : OpR X (compareOp op2) r2) (ha : PE X a ta) (hb : PE X b tb) (hc : PE X c tc) (hd : PE X d td)
    (hm : lastMarks [op, op', op2] [b, c, d] = false := by with_unfolding_all rfl) : PE X (.Compare a [op, op', op2] [b, c, d] pos) (tChain3 r r' r2 ta tb tc td) := by
  intro pins s σ H Q I h
  refine Compare_chain (thn (ha pins s σ H _ I h) fun v s1 ⟨x, H1, I1, r1, q1⟩ => chain_link (thn (hb pins s1 σ H1 _ I1 q1) fun u s2 ⟨y, H2, I2, r2, q2⟩ =>
    thn (ho pins s2 σ H2 x y v u _ I2 r1 r2 q2) fun d s3 ⟨z, H3, I3, r3, k, e, q3⟩ => ?_)) hm
  subst e
  cases r3
  refine wpAny_truthy_bool ?_
  cases k with
  | false => exact ite_ff ⟨.bl false, H3, I3, rfl, q3⟩
  | true =>
    refine ite_tt (chain_link (thn (hc pins s3 σ H3 _ I3 q3) fun w' s4 ⟨z', H4, I4, r4, q4⟩ => thn (ho' pins s4 σ H4 y z' u w' _ I4 r2 r4 q4) fun d' s5 ⟨z2, H5, I5, r5, k', e', q5⟩ => ?_))
    subst e'
    cases r5
    refine wpAny_truthy_bool ?_
    cases k' with
    | false => exact ite_ff ⟨.bl false, H5, I5, rfl, q5⟩
    | true => exact ite_tt (chain_last (thn (hd pins s5 σ H5 _ I5 q5) fun w2 s6 ⟨z3, H6, I6, r6, q6⟩ => ho2 pins s6 σ H6 z' z3 w' w2 Q I6 r4 r6 q6))
end
def toolF (t : Tool) : List (Str × V) := [("kind", .int t.kind), ("lo", .int t.lo), ("hi", .int t.hi), ("e", .int t.e), ("d", .int t.d)]
theorem l_Tool_kind {t : Tool} : (toolF t).lookup ("kind" : Str) = some (.int t.kind) := look_hd
theorem l_Tool_lo {t : Tool} : (toolF t).lookup ("lo" : Str) = some (.int t.lo) := look_tl look_hd (by decide +kernel)
theorem l_Tool_hi {t : Tool} : (toolF t).lookup ("hi" : Str) = some (.int t.hi) := look_tl (look_tl look_hd (by decide +kernel)) (by decide +kernel)
theorem l_Tool_e {t : Tool} : (toolF t).lookup ("e" : Str) = some (.int t.e) := look_tl (look_tl (look_tl look_hd (by decide +kernel)) (by decide +kernel)) (by decide +kernel)
theorem l_Tool_d {t : Tool} : (toolF t).lookup ("d" : Str) = some (.int t.d) := look_tl (look_tl (look_tl (look_tl look_hd (by decide +kernel)) (by decide +kernel)) (by decide +kernel)) (by decide +kernel)
def ToolAt (C : Cl) (H : Hp) (a : Addr) (t : Tool) : Prop := ∃ dx, H a = some (.ins C.cT dx (toolF t))
theorem ToolAt.on {C : Cl} {H H' : Hp} {a : Addr} {t : Tool} (h : ToolAt C H a t) (s : Same H H') : ToolAt C H' a t := let ⟨dx, e⟩ := h; ⟨dx, s _ _ e⟩
def spanO (s : Span) : HO := .tup [oV s.1, oV s.2]
theorem shown0 {t : Tool} {r : Int} (h : t.kind = 0) : FtBench.shownOk t r = decide (-1099511627776 ≤ r ∧ r ≤ 1099511627776) := by
  rw [Bool.eq_iff_iff, decide_eq_true_eq]
  unfold FtBench.shownOk
  rw [if_pos h]
  simp only [Bool.and_eq_true, decide_eq_true_eq]
  exact Iff.rfl
theorem checked_iff {t : Tool} {lo hi r : Int} : FtBench.checkOk t lo hi r = decide ((-8589934592 ≤ lo ∧ lo ≤ hi ∧ hi ≤ 8589934592) ∧ (t.kind ≠ 0 ∨ (-1099511627776 ≤ r ∧ r ≤ 1099511627776))) := by
  rw [Bool.eq_iff_iff, decide_eq_true_eq]
  unfold FtBench.checkOk
  have e1 : (-FtBench.WIDE ≤ lo) = (-8589934592 ≤ lo) := rfl
  have e2 : (hi ≤ FtBench.WIDE) = (hi ≤ 8589934592) := rfl
  by_cases c : t.kind = 0
  · rw [shown0 c]
    simp only [Bool.and_eq_true, decide_eq_true_eq, Bool.or_eq_true, bne_iff_ne]
    rw [e1, e2]
    omega
  · simp only [Bool.and_eq_true, decide_eq_true_eq, Bool.or_eq_true, bne_iff_ne]
    rw [e1, e2]
    constructor
    · rintro ⟨h1, h2, h3, _⟩
      exact ⟨⟨h2, h1, h3⟩, .inl c⟩
    · rintro ⟨⟨h2, h1, h3⟩, _⟩
      exact ⟨h1, h2, h3, .inl c⟩
section
variable {P : Program} {w : World} {K : PySem.W.Frag} {mg : Str → Option Value} {base : Heap} {C : Cl}
/-! ### Tool -/
def sp_Tool_init (C : Cl) : Sp := SpOf (fun x : Addr × Tool => [.ref x.1, .int x.2.kind, .int x.2.lo, .int x.2.hi, .int x.2.e, .int x.2.d]) fun x H Q _ => ∃ dx, H x.1 = some (.ins C.cT dx []) ∧
  ∀ H', H' x.1 = some (.ins C.cT dx (toolF x.2)) → Keep [x.1] H H' → Q .non H'
theorem sc_Tool_init : FnScope ["self", "kind", "lo", "hi", "e", "d"] ["self", "kind", "lo", "hi", "e", "d"] (defScope st_Tool_init) := ⟨rfl, rfl, rfl, by decide +kernel, rfl, by decide +kernel, by decide +kernel⟩
theorem D_Tool_init (T : Top K mg C) : IDef P w K mg base CX0 1 C.cT ["self", "kind", "lo", "hi", "e", "d"] (sp_Tool_init C) := by
  refine idef_mk T.i_Tool (fun _ _ _ _ _ _ us hl => match us, hl with | [_, _, _, _, _, _], _ => rfl) sc_Tool_init (fun _ => rfl) fun f cdv A outer s H x Q E hr h => ?_
  obtain ⟨p, t⟩ := x
  try dsimp only at h
  obtain ⟨dx, hp, k⟩ := h
  refine ⟨_, (pss_cons (ps_fld (pv 0) (pv 1) rfl) (pss_cons (ps_fld (pv 0) (pv 2) rfl) (pss_cons (ps_fld (pv 0) (pv 3) rfl) (pss_cons (ps_fld (pv 0) (pv 4) rfl) (pss_one (ps_fld (pv 0) (pv 5) rfl)))))), ?_⟩
  refine ⟨_, rfl, _, rfl, p, _, dx, _, rfl, hp, T.k_Tool, T.a_Tool_kind, (by show 0 < 1000; decide), _, rfl, _, rfl, p, _, dx, _, rfl, upd_same, T.k_Tool, T.a_Tool_lo, (by show 1 < 1000; decide),
    _, rfl, _, rfl, p, _, dx, _, rfl, upd_same, T.k_Tool, T.a_Tool_hi, (by show 2 < 1000; decide), _, rfl, _, rfl, p, _, dx, _, rfl, upd_same, T.k_Tool, T.a_Tool_e, (by show 3 < 1000; decide),
    _, rfl, _, rfl, p, _, dx, _, rfl, upd_same, T.k_Tool, T.a_Tool_d, (by show 4 < 1000; decide), ?_⟩
  refine k _ ?_ ((((((Keep.refl _ H).put (by simp)).put (by simp)).put (by simp)).put (by simp)).put (by simp))
  rw [upd_same]
  rfl
/-! ### what may be -/
def sp_are_limits : Sp := SpOf (fun x : Int × Int => [.int x.1, .int x.2]) fun x H Q _ => Q (.bl (decide (-8589934592 ≤ x.1 ∧ x.1 ≤ x.2 ∧ x.2 ≤ 8589934592))) H
theorem sc_are_limits : FnScope ["lo", "hi"] ["lo", "hi"] (defScope st_are_limits) := ⟨rfl, rfl, rfl, by decide +kernel, rfl, by decide +kernel, by decide +kernel⟩
theorem D_are_limits (T : Top K mg C) : Def P w K mg base CX0 1 "are_limits" ["lo", "hi"] sp_are_limits := by
  refine def_mk T.f_are_limits (fun _ _ _ _ _ _ us hl => match us, hl with | [_, _], _ => rfl) sc_are_limits (fun _ => rfl) fun f cdv A outer s H x Q E hr h => ?_
  obtain ⟨lo, hi⟩ := x
  try dsimp only at h
  refine ⟨_, (pss_one (ps_ret (pe_chain3 op_le op_le op_le (pe_un un_neg (pc T.c_FARTHEST_LIMIT)) (pv 0) (pv 1) (pc T.c_FARTHEST_LIMIT)))), ?_⟩
  refine ⟨_, rfl, _, rfl, _, _, rfl, rfl, _, rfl, ifD (fun h1 => ⟨_, rfl, _, _, rfl, rfl, _, rfl, ifD (fun h2 => ⟨_, _, rfl, rfl, bl_eq h ?_⟩) fun h2 => bl_eq h ?_⟩) fun h1 => bl_eq h ?_⟩
  · have h1 : -8589934592 ≤ lo := h1
    simp [h1, h2]
  · simp [h2]
  · have h1 : ¬ -8589934592 ≤ lo := h1
    simp
    omega
def sp_can_show : Sp := SpOf (fun r : Int => [.int r]) fun r H Q _ => Q (.bl (decide (-1099511627776 ≤ r ∧ r ≤ 1099511627776))) H
theorem sc_can_show : FnScope ["r"] ["r"] (defScope st_can_show) := ⟨rfl, rfl, rfl, by decide +kernel, rfl, by decide +kernel, by decide +kernel⟩
theorem D_can_show (T : Top K mg C) : Def P w K mg base CX0 1 "can_show" ["r"] sp_can_show := by
  refine def_mk T.f_can_show (fun _ _ _ _ _ _ us hl => match us, hl with | [_], _ => rfl) sc_can_show (fun _ => rfl) fun f cdv A outer s H r Q E hr h => ?_
  refine ⟨_, (pss_one (ps_ret (pe_chain op_le op_le (pe_un un_neg (pc T.c_FARTHEST_READING)) (pv 0) (pc T.c_FARTHEST_READING)))), ?_⟩
  refine ⟨_, rfl, _, rfl, _, _, rfl, rfl, _, rfl, ifD (fun h1 => ⟨_, _, rfl, rfl, bl_eq h ?_⟩) fun h1 => bl_eq h ?_⟩
  · have h1 : -1099511627776 ≤ r := h1
    simp [h1]
  · have h1 : ¬ -1099511627776 ≤ r := h1
    simp
    omega
def sp_is_tool (C : Cl) : Sp := SpOf (fun x : Addr × Tool => [.ref x.1]) fun x H Q _ => ToolAt C H x.1 x.2 ∧ Q (.bl x.2.right) H
theorem sc_is_tool : FnScope ["tool"] ["tool"] (defScope st_is_tool) := ⟨rfl, rfl, rfl, by decide +kernel, rfl, by decide +kernel, by decide +kernel⟩
theorem D_is_tool (T : Top K mg C) : Def P w K mg base CX0 2 "is_tool" ["tool"] (sp_is_tool C) := by
  refine def_mk T.f_is_tool (fun _ _ _ _ _ _ us hl => match us, hl with | [_], _ => rfl) sc_is_tool (fun _ => rfl) fun f cdv A outer s H x Q E hr h => ?_
  obtain ⟨a, t⟩ := x
  try dsimp only at h
  obtain ⟨⟨dx, ht⟩, k⟩ := h
  refine ⟨_, (pss_cons (ps_if (PW.pt (pw_or (pt_cmpR op_gt (pe_fld (pv 0) rfl) (pc T.c_RING) (nomark _)) (pw_or1 (pt_not (pt_val (pe_callD (D_are_limits T) (hr.mono (by decide)) (by rfl) pass0 (pa_cons (pe_fld (pv 0) rfl) (pa_cons (pe_fld (pv 0) rfl) pa_nil)))))))) (pss_one (ps_ret pe_bl)) pss_nil) (pss_cons (ps_if (PW.pt (pw_or (pt_not (pt_chain op_le op_le pe_int (pe_fld (pv 0) rfl) (pc T.c_MOST_ERROR))) (pw_or1 (pt_not (pt_chain op_le op_le pe_int (pe_fld (pv 0) rfl) (pc T.c_MOST_ERROR)))))) (pss_one (ps_ret pe_bl)) pss_nil) (pss_one (ps_ret (pe_or (pe_cmpR op_eq (pe_fld (pv 0) rfl) (pc T.c_INSTRUMENT) (nomark _)) (pe_one (pe_cmpR op_eq (pe_fld (pv 0) rfl) pe_int (nomark _)))))))), ?_⟩
  have er : t.right = decide (t.kind ≤ 2 ∧ t.e ≤ 1048576 ∧ t.d ≤ 1048576 ∧ (t.kind = 0 ∨ t.e = 0) ∧ t.lo ≤ t.hi ∧ -8589934592 ≤ t.lo ∧ t.hi ≤ 8589934592) := by
    rw [Bool.eq_iff_iff, decide_eq_true_eq]
    unfold Tool.right
    simp only [Bool.and_eq_true, decide_eq_true_eq, Bool.or_eq_true, beq_iff_eq]
    exact Iff.rfl
  rw [er] at k
  refine ⟨_, rfl, _, _, _, _, _, rfl, ht, T.k_Tool, T.a_Tool_kind, l_Tool_kind, _, _, rfl, rfl, _, rfl, ifD (fun c => iteT (bl_eq k ?_)) fun c => ⟨_, rfl, _, _, _, _, _, rfl, ht, T.k_Tool, T.a_Tool_lo, l_Tool_lo, _, rfl, _, _, _, _, _, rfl, ht, T.k_Tool, T.a_Tool_hi, l_Tool_hi, (t.lo, t.hi), rfl, _, rfl, ifN (fun c2 => bl_eq k ?_) fun c2 => ?_⟩⟩
  · simp; omega
  · simp at c2; simp; omega
  · refine ⟨_, rfl, _, _, _, _, _, rfl, ht, T.k_Tool, T.a_Tool_e, l_Tool_e, _, _, rfl, rfl, _, rfl, ifD (fun c3 => ⟨_, _, rfl, rfl, _, rfl, ?_⟩) fun c3 => ?_⟩
    · refine ifN (fun c4 => iteT (bl_eq k ?_)) fun c4 => ?_
      · simp; omega
      · refine ⟨_, rfl, _, _, _, _, _, rfl, ht, T.k_Tool, T.a_Tool_d, l_Tool_d, _, _, rfl, rfl, _, rfl, ifD (fun c5 => ⟨_, _, rfl, rfl, _, rfl, ?_⟩) fun c5 => ?_⟩
        · refine ifN (fun c6 => bl_eq k ?_) fun c6 => ?_
          · simp; omega
          · refine ⟨_, rfl, _, _, _, _, _, rfl, ht, T.k_Tool, T.a_Tool_kind, l_Tool_kind, rfl, _, rfl, ifE (fun c7 => bl_eq k ?_) fun c7 => ⟨_, rfl, _, _, _, _, _, rfl, ht, T.k_Tool, T.a_Tool_e, l_Tool_e, rfl, bl_eq k ?_⟩⟩
            · simp at c2; simp; omega
            · simp at c2
              refine Bool.eq_iff_iff.mpr ?_
              simp
              omega
        · exact absurd (show (0 : Int) ≤ t.d by omega) c5
    · exact absurd (show (0 : Int) ≤ t.e by omega) c3
def sp_can_read (C : Cl) : Sp := SpOf (fun x : Addr × Tool × Int => [.ref x.1, .int x.2.2]) fun x H Q _ => ToolAt C H x.1 x.2.1 ∧ Q (.bl (FtBench.shownOk x.2.1 x.2.2)) H
theorem sc_can_read : FnScope ["tool", "r"] ["tool", "r"] (defScope st_can_read) := ⟨rfl, rfl, rfl, by decide +kernel, rfl, by decide +kernel, by decide +kernel⟩
theorem D_can_read (T : Top K mg C) : Def P w K mg base CX0 2 "can_read" ["tool", "r"] (sp_can_read C) := by
  refine def_mk T.f_can_read (fun _ _ _ _ _ _ us hl => match us, hl with | [_, _], _ => rfl) sc_can_read (fun _ => rfl) fun f cdv A outer s H x Q E hr h => ?_
  obtain ⟨a, t, r⟩ := x
  try dsimp only at h
  obtain ⟨⟨dx, ht⟩, k⟩ := h
  refine ⟨_, (pss_cons (ps_if (pt_cmpR op_eq (pe_fld (pv 0) rfl) (pc T.c_INSTRUMENT) (nomark _)) (pss_one (ps_ret (pe_callD (D_can_show T) (hr.mono (by decide)) (by rfl) pass0 (pa_cons (pv 1) pa_nil)))) pss_nil) (pss_one (ps_ret (pe_or (pe_cmpR op_eq (pv 1) pe_int (nomark _)) (pe_one (pe_cmpR op_eq (pv 1) pe_int (nomark _))))))), ?_⟩
  refine ⟨_, rfl, _, _, _, _, _, rfl, ht, T.k_Tool, T.a_Tool_kind, l_Tool_kind, rfl, _, rfl, ifE (fun c => ?_) fun c => ?_⟩
  · have c0 : t.kind = 0 := by omega
    refine ⟨_, rfl, r, rfl, bl_eq k ?_⟩
    rw [shown0 c0]
  · have c0 : ¬ t.kind = 0 := by omega
    have ek : FtBench.shownOk t r = (r == 0 || r == 1) := by simp [FtBench.shownOk, c0]
    simp only [ek] at k
    refine ⟨_, rfl, rfl, _, rfl, ifE (fun c1 => bl_eq k ?_) fun c1 => ⟨_, rfl, rfl, bl_eq k ?_⟩⟩
    · have c1 : r = 0 := c1
      simp [c1]
    · have c1 : ¬ r = 0 := c1
      refine Bool.eq_iff_iff.mpr ?_
      simp [c1]
def sp_can_be_checked (C : Cl) : Sp := SpOf (fun x : Addr × Tool × Int × Int × Int => [.ref x.1, .int x.2.2.1, .int x.2.2.2.1, .int x.2.2.2.2]) fun x H Q _ => ToolAt C H x.1 x.2.1 ∧ Q (.bl (FtBench.checkOk x.2.1 x.2.2.1 x.2.2.2.1 x.2.2.2.2)) H
theorem sc_can_be_checked : FnScope ["tool", "a", "b", "r"] ["tool", "a", "b", "r"] (defScope st_can_be_checked) := ⟨rfl, rfl, rfl, by decide +kernel, rfl, by decide +kernel, by decide +kernel⟩
theorem D_can_be_checked (T : Top K mg C) : Def P w K mg base CX0 2 "can_be_checked" ["tool", "a", "b", "r"] (sp_can_be_checked C) := by
  refine def_mk T.f_can_be_checked (fun _ _ _ _ _ _ us hl => match us, hl with | [_, _, _, _], _ => rfl) sc_can_be_checked (fun _ => rfl) fun f cdv A outer s H x Q E hr h => ?_
  obtain ⟨a, t, lo, hi, r⟩ := x
  try dsimp only at h
  obtain ⟨⟨dx, ht⟩, k⟩ := h
  rw [checked_iff] at k
  refine ⟨_, (pss_one (ps_ret (pe_and (pe_callD (D_are_limits T) (hr.mono (by decide)) (by rfl) pass0 (pa_cons (pv 1) (pa_cons (pv 2) pa_nil))) (pe_one (pe_or (pe_cmpR op_ne (pe_fld (pv 0) rfl) (pc T.c_INSTRUMENT) (nomark _)) (pe_one (pe_callD (D_can_show T) (hr.mono (by decide)) (by rfl) pass0 (pa_cons (pv 3) pa_nil)))))))), ?_⟩
  refine ⟨_, rfl, _, rfl, (lo, hi), rfl, _, rfl, ifD (fun c => ?_) fun c => bl_eq k ?_⟩
  · refine ⟨_, rfl, _, _, _, _, _, rfl, ht, T.k_Tool, T.a_Tool_kind, l_Tool_kind, rfl, _, rfl, ?_⟩
    refine ifN (fun c2 => bl_eq k ?_) fun c2 => ⟨_, rfl, r, rfl, bl_eq k ?_⟩
    · have c2 : ¬ (t.kind : Int) = 0 := fun z => c2 (by show V.int _ = V.int _; rw [z])
      have c : (-8589934592 ≤ lo ∧ lo ≤ hi ∧ hi ≤ 8589934592) := c
      exact decide_eq_true (show (-8589934592 ≤ lo ∧ lo ≤ hi ∧ hi ≤ 8589934592) ∧ (t.kind ≠ 0 ∨ (-1099511627776 ≤ r ∧ r ≤ 1099511627776)) from ⟨c, .inl (by omega)⟩)
    · have c2 : (t.kind : Int) = 0 := V.int.inj c2
      have c : (-8589934592 ≤ lo ∧ lo ≤ hi ∧ hi ≤ 8589934592) := c
      refine decide_eq_decide.mpr ?_
      have ck : t.kind = 0 := by omega
      show ((-8589934592 ≤ lo ∧ lo ≤ hi ∧ hi ≤ 8589934592) ∧ (t.kind ≠ 0 ∨ (-1099511627776 ≤ r ∧ r ≤ 1099511627776))) ↔ (-1099511627776 ≤ r ∧ r ≤ 1099511627776)
      omega
  · have c : ¬ (-8589934592 ≤ lo ∧ lo ≤ hi ∧ hi ≤ 8589934592) := c
    simp [c]
end
end SbW
end
section
set_option maxHeartbeats 1000000
namespace SbW
open PySem PySem.Spec L2 SbX SbEnum
open PyProof.Rows hiding St
open FtBench (Tool)
open FtNet (Bound)
open SbBook (Span firstSpan laterSpan readSpan checkSpan PUse spanRows pShowRows)
theorem two_le : 2 ≤ sizeLine := by decide
theorem three_le : 3 ≤ sizeLine := by decide
def turnP (t : Tool) (x : Int × Int) : Int × Int := if t.kind = 0 then (-x.2, -x.1) else x
section
variable {P : Program} {w : World} {K : PySem.W.Frag} {mg : Str → Option Value} {base : Heap} {C : Cl}
def sp_turned (C : Cl) : Sp := SpOf (fun x : Addr × Tool × Addr × Int × Int => [.ref x.1, .ref x.2.2.1]) fun x H Q _ => ToolAt C H x.1 x.2.1 ∧ H x.2.2.1 = some (.tup [.int x.2.2.2.1, .int x.2.2.2.2]) ∧
  ∀ H' q, Same H H' → H' q = some (.tup [.int (turnP x.2.1 x.2.2.2).1, .int (turnP x.2.1 x.2.2.2).2]) → Q (.ref q) H'
theorem sc_turned : FnScope ["tool", "span"] ["tool", "span"] (defScope st_turned) := ⟨rfl, rfl, rfl, by decide +kernel, rfl, by decide +kernel, by decide +kernel⟩
theorem D_turned (T : Top K mg C) : Def P w K mg base CX0 1 "turned" ["tool", "span"] (sp_turned C) := by
  refine def_mk T.f_turned (fun _ _ _ _ _ _ us hl => match us, hl with | [_, _], _ => rfl) sc_turned (fun _ => rfl) fun f cdv A outer s H x Q E hr h => ?_
  obtain ⟨a, t, q, x, y⟩ := x
  try dsimp only at h
  obtain ⟨⟨dx, ht⟩, hq, k⟩ := h
  refine ⟨_, (pss_cons (ps_if (pt_cmpR op_eq (pe_fld (pv 0) rfl) (pc T.c_INSTRUMENT) (nomark _)) (pss_one (ps_ret (pe_tup (pa_cons (pe_un un_neg (pe_ix ix_tup (pv 1) pe_int (fun _ _ => rfl))) (pa_cons (pe_un un_neg (pe_ix ix_tup (pv 1) pe_int (fun _ _ => rfl))) pa_nil))))) pss_nil) (pss_one (ps_ret (pv 1)))), ?_⟩
  refine ⟨_, rfl, _, _, _, _, _, rfl, ht, T.k_Tool, T.a_Tool_kind, l_Tool_kind, rfl, _, rfl, ifE (fun c => ?_) fun c => ?_⟩
  · have c0 : t.kind = 0 := by omega
    refine ⟨_, rfl, _, _, _, _, rfl, rfl, SqT.of hq, rfl, _, rfl, _, rfl, _, _, _, _, rfl, rfl, SqT.of hq, rfl, _, rfl, two_le, fun p hp => k _ p (Same.new hp) ?_⟩
    rw [upd_same]
    simp [turnP, c0]
  · have c0 : ¬ t.kind = 0 := by omega
    refine ⟨_, rfl, k _ q (Same.refl _) ?_⟩
    simp only [turnP, if_neg c0]
    exact hq
/-- a span is told in a new tuple -/
abbrev spanQ (C : Cl) (H : Hp) (Q : VK) (s : Span) : Prop := ∀ H' q, Same H H' → H' q = some (spanO s) → Q (.ref q) H'
def sp_first_span (C : Cl) : Sp := SpOf (fun x : Addr × Tool => [.ref x.1]) fun x H Q _ => ToolAt C H x.1 x.2 ∧ spanQ C H Q (firstSpan x.2)
theorem sc_first_span : FnScope ["tool"] ["tool"] (defScope st_first_span) := ⟨rfl, rfl, rfl, by decide +kernel, rfl, by decide +kernel, by decide +kernel⟩
theorem D_first_span (T : Top K mg C) : Def P w K mg base CX0 2 "first_span" ["tool"] (sp_first_span C) := by
  refine def_mk T.f_first_span (fun _ _ _ _ _ _ us hl => match us, hl with | [_], _ => rfl) sc_first_span (fun _ => rfl) fun f cdv A outer s H x Q E hr h => ?_
  obtain ⟨a, t⟩ := x
  try dsimp only at h
  obtain ⟨⟨dx, ht⟩, k⟩ := h
  refine ⟨_, (pss_one (ps_ret (pe_callD (D_turned T) (hr.mono (by decide)) (by rfl) pass0 (pa_cons (pv 0) (pa_cons (pe_tup (pa_cons (pe_fld (pv 0) rfl) (pa_cons (pe_fld (pv 0) rfl) pa_nil))) pa_nil))))), ?_⟩
  refine ⟨_, rfl, _, rfl, _, _, _, _, _, rfl, ht, T.k_Tool, T.a_Tool_lo, l_Tool_lo, _, rfl, _, _, _, _, _, rfl, ht, T.k_Tool, T.a_Tool_hi, l_Tool_hi, two_le, fun p hp => ⟨(a, t, p, t.lo, t.hi), rfl, ToolAt.on ⟨dx, ht⟩ (Same.new hp), upd_same, fun H' q s1 e => k H' q ((Same.new hp).trans s1) ?_⟩⟩
  rw [e]
  by_cases c : t.kind = 0
  · simp [turnP, firstSpan, c, spanO, oV]
  · simp [turnP, firstSpan, c, spanO, oV]
def sp_later_span (C : Cl) : Sp := SpOf (fun x : Addr × Tool => [.ref x.1]) fun x H Q _ => ToolAt C H x.1 x.2 ∧ spanQ C H Q (laterSpan x.2)
theorem sc_later_span : FnScope ["tool"] ["tool"] (defScope st_later_span) := ⟨rfl, rfl, rfl, by decide +kernel, rfl, by decide +kernel, by decide +kernel⟩
theorem D_later_span (T : Top K mg C) : Def P w K mg base CX0 1 "later_span" ["tool"] (sp_later_span C) := by
  refine def_mk T.f_later_span (fun _ _ _ _ _ _ us hl => match us, hl with | [_], _ => rfl) sc_later_span (fun _ => rfl) fun f cdv A outer s H x Q E hr h => ?_
  obtain ⟨a, t⟩ := x
  try dsimp only at h
  obtain ⟨⟨dx, ht⟩, k⟩ := h
  refine ⟨_, (pss_cons (ps_if (pt_cmpR op_eq (pe_fld (pv 0) rfl) (pc T.c_INSTRUMENT) (nomark _)) (pss_one (ps_ret (pe_tup (pa_cons (pe_un un_neg (pe_fld (pv 0) rfl)) (pa_cons (pe_fld (pv 0) rfl) pa_nil))))) pss_nil) (pss_one (ps_ret (pe_tup (pa_cons (pe_un un_neg (pe_fld (pv 0) rfl)) (pa_cons pe_int pa_nil)))))), ?_⟩
  refine ⟨_, rfl, _, _, _, _, _, rfl, ht, T.k_Tool, T.a_Tool_kind, l_Tool_kind, rfl, _, rfl, ifE (fun c => ?_) fun c => ?_⟩
  · have c0 : t.kind = 0 := by omega
    refine ⟨_, rfl, _, _, _, _, _, rfl, ht, T.k_Tool, T.a_Tool_d, l_Tool_d, _, rfl, _, rfl, _, _, _, _, _, rfl, ht, T.k_Tool, T.a_Tool_d, l_Tool_d, two_le, fun p hp => k _ p (Same.new hp) ?_⟩
    rw [upd_same]
    simp [laterSpan, c0, spanO, oV]
  · have c0 : ¬ t.kind = 0 := by omega
    refine ⟨_, rfl, _, _, _, _, _, rfl, ht, T.k_Tool, T.a_Tool_d, l_Tool_d, _, rfl, two_le, fun p hp => k _ p (Same.new hp) ?_⟩
    rw [upd_same]
    simp [laterSpan, c0, spanO, oV]
def sp_read_span (C : Cl) : Sp := SpOf (fun x : Addr × Tool × Int => [.ref x.1, .int x.2.2]) fun x H Q _ => ToolAt C H x.1 x.2.1 ∧ spanQ C H Q (readSpan x.2.1 x.2.2)
theorem sc_read_span : FnScope ["tool", "r"] ["tool", "r"] (defScope st_read_span) := ⟨rfl, rfl, rfl, by decide +kernel, rfl, by decide +kernel, by decide +kernel⟩
theorem D_read_span (T : Top K mg C) : Def P w K mg base CX0 1 "read_span" ["tool", "r"] (sp_read_span C) := by
  refine def_mk T.f_read_span (fun _ _ _ _ _ _ us hl => match us, hl with | [_, _], _ => rfl) sc_read_span (fun _ => rfl) fun f cdv A outer s H x Q E hr h => ?_
  obtain ⟨a, t, r⟩ := x
  try dsimp only at h
  obtain ⟨⟨dx, ht⟩, k⟩ := h
  refine ⟨_, (pss_cons (ps_if (pt_cmpR op_eq (pe_fld (pv 0) rfl) (pc T.c_INSTRUMENT) (nomark _)) (pss_one (ps_ret (pe_tup (pa_cons (pe_op op_sub (pv 1) (pe_fld (pv 0) rfl)) (pa_cons (pe_op op_add (pv 1) (pe_fld (pv 0) rfl)) pa_nil))))) pss_nil) (pss_cons (ps_if (pt_cmpR op_eq (pe_fld (pv 0) rfl) (pc T.c_PLUG) (nomark _)) (pss_one (ps_ret (pe_ifExp (pt_cmpR op_eq (pv 1) pe_int (nomark _)) (pe_tup (pa_cons pe_int (pa_cons pe_non pa_nil))) (pe_tup (pa_cons pe_non (pa_cons (pe_un un_neg pe_int) pa_nil)))))) pss_nil) (pss_one (ps_ret (pe_ifExp (pt_cmpR op_eq (pv 1) pe_int (nomark _)) (pe_tup (pa_cons pe_non (pa_cons pe_int pa_nil))) (pe_tup (pa_cons pe_int (pa_cons pe_non pa_nil)))))))), ?_⟩
  refine ⟨_, rfl, _, _, _, _, _, rfl, ht, T.k_Tool, T.a_Tool_kind, l_Tool_kind, rfl, _, rfl, ifE (fun c => ?_) fun c => ?_⟩
  · have c0 : t.kind = 0 := by omega
    refine ⟨_, rfl, _, rfl, _, _, _, _, _, rfl, ht, T.k_Tool, T.a_Tool_e, l_Tool_e, _, _, rfl, rfl, _, rfl, _, rfl, _, _, _, _, _, rfl, ht, T.k_Tool, T.a_Tool_e, l_Tool_e, _, _, rfl, rfl, two_le, fun p hp => k _ p (Same.new hp) ?_⟩
    rw [upd_same]
    simp [readSpan, c0, spanO, oV]
  · have c0 : ¬ t.kind = 0 := by omega
    refine ⟨_, rfl, _, _, _, _, _, rfl, ht, T.k_Tool, T.a_Tool_kind, l_Tool_kind, rfl, _, rfl, ifE (fun c1 => ?_) fun c1 => ?_⟩
    · have c1 : t.kind = 1 := by omega
      refine ⟨_, rfl, rfl, _, rfl, ifE (fun c2 => ?_) fun c2 => ?_⟩
      · have c2 : r = 1 := c2
        refine ⟨two_le, fun p hp => k _ p (Same.new hp) ?_⟩
        rw [upd_same]
        simp [readSpan, c1, c2, spanO, oV]
      · refine ⟨_, rfl, two_le, fun p hp => k _ p (Same.new hp) ?_⟩
        rw [upd_same]
        simp [readSpan, c1, c2, spanO, oV]
    · have c1 : ¬ t.kind = 1 := by omega
      refine ⟨_, rfl, rfl, _, rfl, ifE (fun c2 => ?_) fun c2 => ?_⟩
      · have c2 : r = 1 := c2
        refine ⟨two_le, fun p hp => k _ p (Same.new hp) ?_⟩
        rw [upd_same]
        simp [readSpan, c0, c1, c2, spanO, oV]
      · refine ⟨two_le, fun p hp => k _ p (Same.new hp) ?_⟩
        rw [upd_same]
        simp [readSpan, c0, c1, c2, spanO, oV]
def sp_check_span (C : Cl) : Sp := SpOf (fun x : Addr × Tool × Int × Int × Int => [.ref x.1, .int x.2.2.1, .int x.2.2.2.1, .int x.2.2.2.2]) fun x H Q _ => ToolAt C H x.1 x.2.1 ∧ spanQ C H Q (checkSpan x.2.1 x.2.2.1 x.2.2.2.1 x.2.2.2.2)
theorem sc_check_span : FnScope ["tool", "a", "b", "r"] ["tool", "a", "b", "r"] (defScope st_check_span) := ⟨rfl, rfl, rfl, by decide +kernel, rfl, by decide +kernel, by decide +kernel⟩
theorem D_check_span (T : Top K mg C) : Def P w K mg base CX0 1 "check_span" ["tool", "a", "b", "r"] (sp_check_span C) := by
  refine def_mk T.f_check_span (fun _ _ _ _ _ _ us hl => match us, hl with | [_, _, _, _], _ => rfl) sc_check_span (fun _ => rfl) fun f cdv A outer s H x Q E hr h => ?_
  obtain ⟨a, t, lo, hi, r⟩ := x
  try dsimp only at h
  obtain ⟨⟨dx, ht⟩, k⟩ := h
  refine ⟨_, (pss_cons (ps_if (pt_cmpR op_eq (pe_fld (pv 0) rfl) (pc T.c_INSTRUMENT) (nomark _)) (pss_one (ps_ret (pe_tup (pa_cons (pe_op op_sub (pe_op op_sub (pv 1) (pv 3)) (pe_fld (pv 0) rfl)) (pa_cons (pe_op op_add (pe_op op_sub (pv 2) (pv 3)) (pe_fld (pv 0) rfl)) pa_nil))))) pss_nil) (pss_one (ps_ret (pe_tup (pa_cons (pv 1) (pa_cons (pv 2) pa_nil)))))), ?_⟩
  refine ⟨_, rfl, _, _, _, _, _, rfl, ht, T.k_Tool, T.a_Tool_kind, l_Tool_kind, rfl, _, rfl, ifE (fun c => ?_) fun c => ?_⟩
  · have c0 : t.kind = 0 := by omega
    refine ⟨_, rfl, _, rfl, _, _, rfl, rfl, _, rfl, _, _, _, _, _, rfl, ht, T.k_Tool, T.a_Tool_e, l_Tool_e, _, _, rfl, rfl, _, rfl, _, rfl, _, _, rfl, rfl, _, rfl, _, _, _, _, _, rfl, ht, T.k_Tool, T.a_Tool_e, l_Tool_e, _, _, rfl, rfl, two_le, fun p hp => k _ p (Same.new hp) ?_⟩
    rw [upd_same]
    simp [checkSpan, c0, spanO, oV]
  · have c0 : ¬ t.kind = 0 := by omega
    refine ⟨_, rfl, _, rfl, two_le, fun p hp => k _ p (Same.new hp) ?_⟩
    rw [upd_same]
    simp [checkSpan, c0, spanO, oV]
/-! ### uses -/
def itemV : Option Nat → V
  | none => .non
  | some i => .int i
def useF (u : PUse) (q : Addr) : List (Str × V) := [("tool", .int u.tool), ("item", itemV u.item), ("span", .ref q)]
theorem l_Use_tool {u : PUse} {q : Addr} : (useF u q).lookup ("tool" : Str) = some (.int u.tool) := look_hd
theorem l_Use_item {u : PUse} {q : Addr} : (useF u q).lookup ("item" : Str) = some (itemV u.item) := look_tl look_hd (by decide +kernel)
theorem l_Use_span {u : PUse} {q : Addr} : (useF u q).lookup ("span" : Str) = some (.ref q) := look_tl (look_tl look_hd (by decide +kernel)) (by decide +kernel)
def UseAt (C : Cl) (H : Hp) (a : Addr) (u : PUse) : Prop := ∃ dx q, H a = some (.ins C.cU dx (useF u q)) ∧ H q = some (spanO u.span)
theorem UseAt.on {C : Cl} {H H' : Hp} {a : Addr} {u : PUse} (h : UseAt C H a u) (s : Same H H') : UseAt C H' a u := let ⟨dx, q, e1, e2⟩ := h; ⟨dx, q, s _ _ e1, s _ _ e2⟩
def sp_Use_init (C : Cl) : Sp := SpOf (fun x : Addr × PUse × Addr => [.ref x.1, .int x.2.1.tool, itemV x.2.1.item, .ref x.2.2]) fun x H Q _ => ∃ dx, H x.1 = some (.ins C.cU dx []) ∧
  ∀ H', H' x.1 = some (.ins C.cU dx (useF x.2.1 x.2.2)) → Keep [x.1] H H' → Q .non H'
theorem sc_Use_init : FnScope ["self", "tool", "item", "span"] ["self", "tool", "item", "span"] (defScope st_Use_init) := ⟨rfl, rfl, rfl, by decide +kernel, rfl, by decide +kernel, by decide +kernel⟩
theorem D_Use_init (T : Top K mg C) : IDef P w K mg base CX0 1 C.cU ["self", "tool", "item", "span"] (sp_Use_init C) := by
  refine idef_mk T.i_Use (fun _ _ _ _ _ _ us hl => match us, hl with | [_, _, _, _], _ => rfl) sc_Use_init (fun _ => rfl) fun f cdv A outer s H x Q E hr h => ?_
  obtain ⟨p, u, q⟩ := x
  try dsimp only at h
  obtain ⟨dx, hp, k⟩ := h
  refine ⟨_, (pss_cons (ps_fld (pv 0) (pv 1) rfl) (pss_cons (ps_fld (pv 0) (pv 2) rfl) (pss_one (ps_fld (pv 0) (pv 3) rfl)))), ?_⟩
  refine ⟨_, rfl, _, rfl, p, _, dx, _, rfl, hp, T.k_Use, T.a_Use_tool, (by show 0 < 1000; decide), _, rfl, _, rfl, p, _, dx, _, rfl, upd_same, T.k_Use, T.a_Use_item, (by show 1 < 1000; decide),
    _, rfl, _, rfl, p, _, dx, _, rfl, upd_same, T.k_Use, T.a_Use_span, (by show 2 < 1000; decide), ?_⟩
  refine k _ ?_ ((((Keep.refl _ H).put (by simp)).put (by simp)).put (by simp))
  rw [upd_same]
  rfl
def sp_item_value : Sp := SpOf (fun n : Nat => [.int n]) fun n H Q _ => Q (.int (n + 1 : Nat)) H
theorem sc_item_value : FnScope ["item"] ["item"] (defScope st_item_value) := ⟨rfl, rfl, rfl, by decide +kernel, rfl, by decide +kernel, by decide +kernel⟩
theorem D_item_value (T : Top K mg C) : Def P w K mg base CX0 1 "item_value" ["item"] sp_item_value := by
  refine def_mk T.f_item_value (fun _ _ _ _ _ _ us hl => match us, hl with | [_], _ => rfl) sc_item_value (fun _ => rfl) fun f cdv A outer s H n Q E hr h => ?_
  exact ⟨_, (pss_one (ps_ret (pe_op op_add (pv 0) pe_int))), ⟨_, rfl, _, _, rfl, rfl, h⟩⟩
def sp_mark_value : Sp := SpOf (fun n : Nat × Nat => [.int n.1, .int n.2]) fun n H Q _ => Q (.int (n.1 + 1 + n.2 : Nat)) H
theorem sc_mark_value : FnScope ["items", "use"] ["items", "use"] (defScope st_mark_value) := ⟨rfl, rfl, rfl, by decide +kernel, rfl, by decide +kernel, by decide +kernel⟩
theorem D_mark_value (T : Top K mg C) : Def P w K mg base CX0 1 "mark_value" ["items", "use"] sp_mark_value := by
  refine def_mk T.f_mark_value (fun _ _ _ _ _ _ us hl => match us, hl with | [_, _], _ => rfl) sc_mark_value (fun _ => rfl) fun f cdv A outer s H n Q E hr h => ?_
  exact ⟨_, (pss_one (ps_ret (pe_op op_add (pe_op op_add (pv 0) pe_int) (pv 1)))), ⟨_, rfl, _, _, rfl, rfl, _, rfl, _, _, rfl, rfl, h⟩⟩
/-! ### rows -/
theorem pair_get {α β : Type} {F : α → β → Prop} {as : List α} {bs : List β} (h : Paired F as bs) : ∀ {i : Nat} {b : β}, bs[i]? = some b → ∃ a, as[i]? = some a ∧ F a b := by
  induction h with
  | nil => intro i b e; simp at e
  | cons r _ ih =>
    intro i b e
    cases i with
    | zero => simp at e; subst e; exact ⟨_, rfl, r⟩
    | succ i => simp at e; obtain ⟨a, h1, h2⟩ := ih e; exact ⟨a, by simpa using h1, h2⟩
theorem pair_append {α β : Type} {F : α → β → Prop} {as as' : List α} {bs bs' : List β} (h : Paired F as bs) (h' : Paired F as' bs') : Paired F (as ++ as') (bs ++ bs') := by
  induction h with
  | nil => exact h'
  | cons r _ ih => exact .cons r ih
theorem pair_take {α β : Type} {F : α → β → Prop} {as : List α} {bs : List β} (h : Paired F as bs) : ∀ n, Paired F (as.take n) (bs.take n) := by
  induction h with
  | nil => intro n; simp; exact .nil
  | cons r _ ih =>
    intro n
    cases n with
    | zero => exact .nil
    | succ n => exact .cons r (ih n)
theorem pair_one {α β : Type} {F : α → β → Prop} {a : α} {b : β} (h : F a b) : Paired F [a] [b] := .cons h .nil
theorem pair_len {α β : Type} {F : α → β → Prop} {as : List α} {bs : List β} (h : Paired F as bs) : as.length = bs.length := by
  induction h with
  | nil => rfl
  | cons _ _ ih => simp [ih]
def RowAt (H : Hp) (a : Addr) (r : Bound) : Prop := H a = some (.tup [.int r.a, .int r.b, .int r.w])
def RowsAt (H : Hp) (l : Addr) (rs : List Bound) : Prop := ∃ as : List Addr, H l = some (.lst (as.map V.ref)) ∧ Paired (RowAt H) as rs
theorem rows_on {H H' : Hp} {as : List Addr} {rs : List Bound} (h : Paired (RowAt H) as rs) (s : Same H H') : Paired (RowAt H') as rs := Paired.imp' (fun _ _ e => s _ _ e) h
theorem RowsAt.on {H H' : Hp} {l : Addr} {rs : List Bound} (h : RowsAt H l rs) (s : Same H H') : RowsAt H' l rs := let ⟨as, e, p⟩ := h; ⟨as, s _ _ e, rows_on p s⟩
/-- a list of ours turns: the tuples stay -/
theorem rows_at {H : Hp} {l : Addr} {as : List Addr} {rs : List Bound} {xs ys : List V} (h : Paired (RowAt H) as rs) (hl : H l = some (.lst xs)) : Paired (RowAt (upd H l (.lst ys))) as rs := Paired.imp' (fun a r (e : H a = _) => by
  show upd H l _ a = _
  rw [upd_ne (ne_of e hl (by intro q; cases q))]
  exact e) h
def sp_span_rows : Sp := SpOf (fun x : Nat × Nat × Addr × Span => [.int x.1, .int x.2.1, .ref x.2.2.1]) fun x H Q _ => H x.2.2.1 = some (spanO x.2.2.2) ∧ ∀ H' l, Same H H' → RowsAt H' l (spanRows x.1 x.2.1 x.2.2.2) → Q (.ref l) H'
theorem sc_span_rows : FnScope ["low", "high", "span", "rows"] ["low", "high", "span"] (defScope st_span_rows) := ⟨rfl, rfl, rfl, by decide +kernel, rfl, by decide +kernel, by decide +kernel⟩
theorem D_span_rows (T : Top K mg C) : Def P w K mg base CX0 1 "span_rows" ["low", "high", "span"] sp_span_rows := by
  refine def_mk T.f_span_rows (fun _ _ _ _ _ _ us hl => match us, hl with | [_, _, _], _ => rfl) sc_span_rows (fun _ => rfl) fun f cdv A outer s H x Q E hr h => ?_
  obtain ⟨lo, hi, q, x, y⟩ := x
  try dsimp only at h
  obtain ⟨hq, k⟩ := h
  refine ⟨_, (pss_cons (ps_set (i := 3) sc_span_rows.nd rfl (Or.inl rfl) (pe_lst pa_nil)) (pss_cons (ps_if (pt_cmp (pc_notN (pe_ix ix_tup (pv 2) pe_int (fun _ _ => rfl)))) (pss_one (ps_expr (pe_bm PySem.F.plainAttrs_list PySem.F.slot_list_append PySem.F.type_list_append mt_append (pv 3) (pa_cons (pe_tup (pa_cons (pv 1) (pa_cons (pv 0) (pa_cons (pe_un un_neg (pe_ix ix_tup (pv 2) pe_int (fun _ _ => rfl))) pa_nil)))) pa_nil)))) pss_nil) (pss_cons (ps_if (pt_cmp (pc_notN (pe_ix ix_tup (pv 2) pe_int (fun _ _ => rfl)))) (pss_one (ps_expr (pe_bm PySem.F.plainAttrs_list PySem.F.slot_list_append PySem.F.type_list_append mt_append (pv 3) (pa_cons (pe_tup (pa_cons (pv 0) (pa_cons (pv 1) (pa_cons (pe_ix ix_tup (pv 2) pe_int (fun _ _ => rfl)) pa_nil)))) pa_nil)))) pss_nil) (pss_one (ps_ret (pv 3)))))), ?_⟩
  refine ⟨Nat.zero_le _, fun l hl => ?_⟩
  have q0 : upd H l (.lst []) q = some (spanO (x, y)) := by
    rw [upd_ne (ne_of_none hq hl)]
    exact hq
  have s0 : Same H (upd H l (.lst [])) := Same.new hl
  cases x with
  | none =>
    refine ⟨_, rfl, _, _, _, _, rfl, rfl, SqT.of q0, rfl, _, rfl, ?_⟩
    refine iteF ?_
    cases y with
    | none =>
      refine ⟨_, rfl, _, _, _, _, rfl, rfl, SqT.of q0, rfl, _, rfl, ?_⟩
      refine iteF ⟨_, rfl, k _ l s0 ⟨[], upd_same, .nil⟩⟩
    | some y =>
      refine ⟨_, rfl, _, _, _, _, rfl, rfl, SqT.of q0, rfl, _, rfl, ?_⟩
      refine iteT ⟨_, rfl, .inl ⟨rfl, _, SqL.of upd_same⟩, _, rfl, _, rfl, _, rfl, _, _, _, _, rfl, rfl, SqT.of q0, rfl, three_le, fun p hp => ⟨l, [], _, rfl, rfl, ?_, (by show 0 < sizeLine; decide), _, rfl, k _ l ?_ ⟨[p], upd_same, ?_⟩⟩⟩
      · exact (upd_ne (ne_of_none upd_same hp)).trans upd_same
      · exact (s0.on hp).own hl
      · refine pair_one ?_
        exact (upd_ne (fun z => by rw [z, upd_same] at hp; cases hp)).trans upd_same
  | some x =>
    refine ⟨_, rfl, _, _, _, _, rfl, rfl, SqT.of q0, rfl, _, rfl, ?_⟩
    refine iteT ⟨_, rfl, .inl ⟨rfl, _, SqL.of upd_same⟩, _, rfl, _, rfl, _, rfl, _, _, _, _, rfl, rfl, SqT.of q0, rfl, _, rfl, three_le, fun p hp => ⟨l, [], _, rfl, rfl, ?_, (by show 0 < sizeLine; decide), ?_⟩⟩
    · exact (upd_ne (ne_of_none upd_same hp)).trans upd_same
    · have npl : p ≠ l := fun z => by rw [z, upd_same] at hp; cases hp
      have s1 : Same H (upd (upd (upd H l (.lst [])) p (.tup [.int hi, .int lo, .int (-x)])) l (.lst ([] ++ [.ref p]))) := (s0.on hp).own hl
      have q1 := s1 _ _ hq
      cases y with
      | none =>
        refine ⟨_, rfl, _, _, _, _, rfl, rfl, SqT.of q1, rfl, _, rfl, ?_⟩
        refine iteF ⟨_, rfl, k _ l s1 ⟨[p], upd_same, pair_one ?_⟩⟩
        exact (upd_ne npl).trans upd_same
      | some y =>
        refine ⟨_, rfl, _, _, _, _, rfl, rfl, SqT.of q1, rfl, _, rfl, ?_⟩
        refine iteT ⟨_, rfl, .inl ⟨rfl, _, SqL.of upd_same⟩, _, rfl, _, rfl, _, rfl, _, _, _, _, rfl, rfl, SqT.of q1, rfl, three_le, fun r hr' => ⟨l, [.ref p], _, rfl, rfl, ?_, (by show 1 < sizeLine; decide), _, rfl, k _ l ?_ ⟨[p, r], upd_same, ?_⟩⟩⟩
        · exact (upd_ne (ne_of_none upd_same hr')).trans upd_same
        · exact (s1.on hr').own hl
        · have nrl : r ≠ l := fun z => by rw [z, upd_same] at hr'; cases hr'
          have npr : p ≠ r := fun z => by
            rw [← z, upd_ne npl, upd_same] at hr'
            cases hr'
          refine .cons ?_ (pair_one ?_)
          · exact (upd_ne npl).trans ((upd_ne npr).trans ((upd_ne npl).trans upd_same))
          · exact (upd_ne nrl).trans upd_same
def sp_use_rows (C : Cl) : Sp := SpOf (fun x : Addr × PUse × Nat => [.ref x.1, .int x.2.2]) fun x H Q _ => UseAt C H x.1 x.2.1 ∧ ∀ H' l, Same H H' → RowsAt H' l (pShowRows x.2.2 x.2.1) → Q (.ref l) H'
theorem sc_use_rows : FnScope ["use", "mark"] ["use", "mark"] (defScope st_use_rows) := ⟨rfl, rfl, rfl, by decide +kernel, rfl, by decide +kernel, by decide +kernel⟩
theorem D_use_rows (T : Top K mg C) : Def P w K mg base CX0 2 "use_rows" ["use", "mark"] (sp_use_rows C) := by
  refine def_mk T.f_use_rows (fun _ _ _ _ _ _ us hl => match us, hl with | [_, _], _ => rfl) sc_use_rows (fun _ => rfl) fun f cdv A outer s H x Q E hr h => ?_
  obtain ⟨a, u, m⟩ := x
  try dsimp only at h
  obtain ⟨⟨dx, q, hu, hq⟩, k⟩ := h
  refine ⟨_, (pss_cons (ps_if (pt_cmp (pc_isN (pe_fld (pv 0) rfl))) (pss_one (ps_ret (pe_callD (D_span_rows T) (hr.mono (by decide)) (by rfl) pass0 (pa_cons (pc T.c_GROUND) (pa_cons (pv 1) (pa_cons (pe_fld (pv 0) rfl) pa_nil)))))) pss_nil) (pss_one (ps_ret (pe_callD (D_span_rows T) (hr.mono (by decide)) (by rfl) pass0 (pa_cons (pv 1) (pa_cons (pe_callD (D_item_value T) (hr.mono (by decide)) (by rfl) pass0 (pa_cons (pe_fld (pv 0) rfl) pa_nil)) (pa_cons (pe_fld (pv 0) rfl) pa_nil))))))), ?_⟩
  refine ⟨_, rfl, _, _, _, _, _, rfl, hu, T.k_Use, T.a_Use_item, l_Use_item, _, rfl, ?_⟩
  cases e : u.item with
  | none =>
    refine iteT ⟨_, rfl, _, rfl, _, _, _, _, _, rfl, hu, T.k_Use, T.a_Use_span, l_Use_span, (0, m, q, u.span), rfl, hq, fun H' l s1 r1 => k H' l s1 ?_⟩
    simp only [pShowRows, e]
    exact r1
  | some i =>
    refine iteF ⟨_, rfl, _, rfl, _, _, _, _, _, rfl, hu, T.k_Use, T.a_Use_item, l_Use_item, i, ?_, _, rfl, _, _, _, _, _, rfl, hu, T.k_Use, T.a_Use_span, l_Use_span, (m, i + 1, q, u.span), rfl, hq, fun H' l s1 r1 => k H' l s1 ?_⟩
    · show [itemV u.item] = _
      rw [e]
      rfl
    · simp only [pShowRows, e]
      exact r1
end
end SbW
end
section
set_option maxHeartbeats 1000000
namespace SbW
open PySem PySem.Spec L2 SbX SbEnum
open PyProof.Rows hiding St
open FtBench (Tool)
open FtNet (Bound)
open SbNet (Hts lower1 lowerOnce rounds begin_ mostAbove)
open SbBook (Span firstSpan laterSpan PUse spanRows pShowRows pRows pRowsTo itemRows pUseRows pToolRows lastB pTool pBetween silent)
theorem pair_getL {α β : Type} {F : α → β → Prop} {as : List α} {bs : List β} (h : Paired F as bs) : ∀ {i : Nat} {a : α}, as[i]? = some a → ∃ b, bs[i]? = some b ∧ F a b := by
  induction h with
  | nil => intro i b e; simp at e
  | cons r _ ih =>
    intro i b e
    cases i with
    | zero => simp at e; subst e; exact ⟨_, rfl, r⟩
    | succ i => simp at e; obtain ⟨a, h1, h2⟩ := ih e; exact ⟨a, by simpa using h1, h2⟩
theorem ref_at {as : List Addr} {i : Nat} {x : V} (h : (as.map V.ref)[i]? = some x) : ∃ a, as[i]? = some a ∧ x = .ref a := by
  rw [List.getElem?_map] at h
  obtain ⟨a, h1, h2⟩ := Option.map_eq_some_iff.mp h
  exact ⟨a, h1, h2.symm⟩
theorem fold_take {α β : Type} {f : β → α → β} {z : β} {rows : List α} {i : Nat} {r : α} (h : rows[i]? = some r) : (rows.take (i + 1)).foldl f z = f ((rows.take i).foldl f z) r := by
  rw [List.take_add_one, h, List.foldl_append]
  rfl
theorem at_oV {h : Hts} {a : Nat} (ha : a < h.length) : atI (h.map oV) (a : Int) = some (oV (h.getD a none)) := by
  refine at_of rfl ?_
  rw [List.getElem?_map, List.getElem?_eq_getElem ha, List.getD_eq_getElem?_getD, List.getElem?_eq_getElem ha]
  rfl
theorem ixN_nat {n a : Nat} (h : a < n) : ixN n (a : Int) = some a := by
  unfold ixN
  rw [if_pos (by omega), if_pos (by omega)]
  simp
def ToolsAt (C : Cl) (H : Hp) (l : Addr) (ts : List Tool) : Prop := ∃ as : List Addr, H l = some (.lst (as.map V.ref)) ∧ Paired (ToolAt C H) as ts
def UsesAt (C : Cl) (H : Hp) (l : Addr) (us : List PUse) : Prop := ∃ as : List Addr, H l = some (.lst (as.map V.ref)) ∧ Paired (UseAt C H) as us
theorem ToolsAt.on {C : Cl} {H H' : Hp} {l : Addr} {ts : List Tool} (h : ToolsAt C H l ts) (s : Same H H') : ToolsAt C H' l ts := let ⟨as, e, p⟩ := h; ⟨as, s _ _ e, Paired.imp' (fun _ _ q => q.on s) p⟩
theorem UsesAt.on {C : Cl} {H H' : Hp} {l : Addr} {us : List PUse} (h : UsesAt C H l us) (s : Same H H') : UsesAt C H' l us := let ⟨as, e, p⟩ := h; ⟨as, s _ _ e, Paired.imp' (fun _ _ q => q.on s) p⟩
section
variable {P : Program} {w : World} {K : PySem.W.Frag} {mg : Str → Option Value} {base : Heap} {C : Cl}
def sp_count_values (C : Cl) : Sp := SpOf (fun x : Nat × Addr × List PUse => [.int x.1, .ref x.2.1]) fun x H Q _ => UsesAt C H x.2.1 x.2.2 ∧ Q (.int (1 + x.1 + x.2.2.length : Nat)) H
theorem sc_count_values : FnScope ["items", "uses"] ["items", "uses"] (defScope st_count_values) := ⟨rfl, rfl, rfl, by decide +kernel, rfl, by decide +kernel, by decide +kernel⟩
theorem D_count_values (T : Top K mg C) : Def P w K mg base CX0 1 "count_values" ["items", "uses"] (sp_count_values C) := by
  refine def_mk T.f_count_values (fun _ _ _ _ _ _ us hl => match us, hl with | [_, _], _ => rfl) sc_count_values (fun _ => rfl) fun f cdv A outer s H x Q E hr h => ?_
  obtain ⟨n, l, us⟩ := x
  try dsimp only at h
  obtain ⟨⟨as, hl, hp⟩, k⟩ := h
  refine ⟨_, (pss_one (ps_ret (pe_op op_add (pe_op op_add pe_int (pv 0)) (pe_callB call_len_seq (by rfl) T.n_len PySem.boot_len (pa_cons (pv 1) pa_nil))))), ?_⟩
  refine ⟨_, rfl, _, _, rfl, rfl, _, rfl, _, _, rfl, .inl (SqL.of hl), _, _, rfl, rfl, int_eq k ?_⟩
  have e := pair_len hp
  show _ = 1 + (n : Int) + ((as.map V.ref).length : Int)
  rw [List.length_map, e]
  omega
/-! ### lower_once -/
def InR (n : Nat) (rs : List Bound) : Prop := ∀ r, r ∈ rs → r.a < n ∧ r.b < n
def sp_lower_once : Sp := SpOf (fun x : Addr × Addr × List Bound × Hts => [.ref x.1, .ref x.2.1]) fun x H Q _ => RowsAt H x.1 x.2.2.1 ∧ x.1 ≠ x.2.1 ∧ H x.2.1 = some (.lst (x.2.2.2.map oV)) ∧ InR x.2.2.2.length x.2.2.1 ∧
  ∀ H', Keep [x.2.1] H H' → H' x.2.1 = some (.lst ((lowerOnce x.2.2.1 x.2.2.2).1.map oV)) → Q (.bl (lowerOnce x.2.2.1 x.2.2.2).2) H'
theorem sc_lower_once : FnScope ["rows", "above", "changed", "low", "high", "most", "reach"] ["rows", "above"] (defScope st_lower_once) := ⟨rfl, rfl, rfl, by decide +kernel, rfl, by decide +kernel, by decide +kernel⟩
theorem D_lower_once (T : Top K mg C) : Def P w K mg base CX0 1 "lower_once" ["rows", "above"] sp_lower_once := by
  refine def_mk T.f_lower_once (fun _ _ _ _ _ _ us hl => match us, hl with | [_, _], _ => rfl) sc_lower_once (fun _ => rfl) fun f cdv A outer s H x Q E hr h => ?_
  obtain ⟨lr, la, rs, h0⟩ := x
  try dsimp only at h
  obtain ⟨⟨as, hlr, hrs⟩, hne, hla, hin, k⟩ := h
  have el := pair_len hrs
  refine ⟨_, (pss_cons (ps_set (i := 2) sc_lower_once.nd rfl (Or.inl rfl) pe_bl) (pss_cons (ps_for PassesOwn.never rfl (pi_list (pv 0)) (pg_tup rfl (pgs_cons (pg_name (i := 3) sc_lower_once.nd rfl (Or.inl rfl)) (pgs_cons (pg_name (i := 4) sc_lower_once.nd rfl (Or.inl rfl)) (pgs_cons (pg_name (i := 5) sc_lower_once.nd rfl (Or.inl rfl)) pgs_nil)))) (pss_one (ps_if (pt_cmp (pc_notN (pe_ix ix_list (pv 1) (pv 3) (fun _ _ => rfl)))) (pss_cons (ps_set (i := 6) sc_lower_once.nd rfl (Or.inl rfl) (pe_op op_add (pe_ix ix_list (pv 1) (pv 3) (fun _ _ => rfl)) (pv 5))) (pss_one (ps_if (PW.pt (pw_or (pt_cmp (pc_isN (pe_ix ix_list (pv 1) (pv 4) (fun _ _ => rfl)))) (pw_or1 (pt_cmpR op_lt (pv 6) (pe_ix ix_list (pv 1) (pv 4) (fun _ _ => rfl)) (nomark _))))) (pss_cons (ps_asg (pv 6) (pg_sub (pv 1) (pv 4) set_list)) (pss_one (ps_set (i := 2) sc_lower_once.nd rfl (Or.inl rfl) pe_bl))) pss_nil))) pss_nil))) (pss_one (ps_ret (pv 2))))), ?_⟩
  have nla : ∀ b o, H b = some o → (∀ xs, o ≠ .lst xs) → b ∉ [la] := fun b o e n z => by
    have z : b = la := by simpa using z
    rw [z, hla] at e
    exact n _ (Option.some.inj e).symm
  have nlr : lr ∉ [la] := by simpa using hne
  refine ⟨_, rfl, lr, rfl, ⟨_, SqL.of hlr⟩, for_list (K := K) (a := lr) (xs := as.map V.ref) (fun i σ H' => ∃ v3 v4 v5 v6, σ = [some (.ref lr), some (.ref la), some (.bl ((rs.take i).foldl lower1 (h0, false)).2), v3, v4, v5, v6] ∧
    Keep [la] H H' ∧ H' la = some (.lst (((rs.take i).foldl lower1 (h0, false)).1.map oV))) ⟨none, none, none, none, rfl, Keep.refl _ _, hla⟩ (fun i σ H' _ ⟨_, _, _, _, _, kp, _⟩ => SqL.of (kp _ _ hlr nlr)) ?_ ?_⟩
  · rintro i x σ H' hx ⟨v3, v4, v5, v6, rfl, kp, hl⟩
    obtain ⟨a, ha, rfl⟩ := ref_at hx
    obtain ⟨r, hr1, hr2⟩ := pair_getL hrs ha
    have hr3 : H' a = _ := kp a _ hr2 (nla a _ hr2 fun xs q => nomatch q)
    have hmem := hin r (List.mem_of_getElem? hr1)
    rw [fold_take hr1]
    have hlen := SbNet.fold_len (rs.take i) (h0, false)
    generalize (rs.take i).foldl lower1 (h0, false) = st at hl hlen ⊢
    obtain ⟨h1, fl⟩ := st
    have hlen : h1.length = h0.length := hlen
    have hl : H' la = some (.lst (h1.map oV)) := hl
    have ia : r.a < h1.length := by omega
    have ib : r.b < h1.length := by omega
    refine ⟨_, _, rfl, SqT.of hr3, rfl, _, _, rfl, _, _, rfl, _, _, rfl, rfl, ?_⟩
    refine ⟨_, rfl, _, rfl, _, _, _, _, rfl, rfl, SqL.of hl, at_oV ia, _, rfl, ?_⟩
    have setl : ∀ v : Int, (h1.map oV).set r.b (.int v) = (h1.set r.b (some v)).map oV := fun v => by
      rw [List.map_set]
      rfl
    cases ea : h1.getD r.a none with
    | none =>
      rw [show lower1 (h1, fl) r = (h1, fl) by simp only [lower1, ea]]
      exact iteF ⟨_, _, _, _, rfl, kp, hl⟩
    | some u =>
      refine iteT ⟨_, rfl, _, rfl, _, _, _, _, rfl, rfl, SqL.of hl, at_oV ia, _, rfl, u, r.w, ?_, rfl, ?_⟩
      · rw [ea]
        rfl
      · refine ⟨_, rfl, _, rfl, _, _, _, _, rfl, rfl, SqL.of hl, at_oV ib, _, rfl, ?_⟩
        cases eb : h1.getD r.b none with
        | none =>
          rw [show lower1 (h1, fl) r = (h1.set r.b (some (u + r.w)), true) by simp only [lower1, ea, eb]]
          refine iteT ?_
          refine ⟨_, rfl, _, rfl, _, rfl, la, _, _, r.b, rfl, rfl, hl, ixN_nat (by simpa using ib), ?_⟩
          exact ⟨_, _, _, _, rfl, kp.put (by simp), upd_same.trans (congrArg (fun z => some (HO.lst z)) (setl _))⟩
        | some v =>
          refine iteF ⟨_, rfl, _, rfl, _, rfl, _, _, _, _, rfl, rfl, SqL.of hl, at_oV ib, u + r.w, v, rfl, ?_, _, rfl, ifD (fun c => ?_) fun c => ?_⟩
          · rw [eb]
            rfl
          · rw [show lower1 (h1, fl) r = (h1.set r.b (some (u + r.w)), true) by simp only [lower1, ea, eb, if_pos c]]
            refine ⟨_, rfl, _, rfl, _, rfl, la, _, _, r.b, rfl, rfl, hl, ixN_nat (by simpa using ib), ?_⟩
            exact ⟨_, _, _, _, rfl, kp.put (by simp), upd_same.trans (congrArg (fun z => some (HO.lst z)) (setl _))⟩
          · rw [show lower1 (h1, fl) r = (h1, fl) by simp only [lower1, ea, eb, if_neg c]]
            exact ⟨_, _, _, _, rfl, kp, hl⟩
  · rintro σ H' ⟨v3, v4, v5, v6, rfl, kp, hl⟩
    have e : rs.take (as.map V.ref).length = rs := List.take_of_length_le (by rw [List.length_map, el]; exact Nat.le_refl _)
    rw [e] at hl ⊢
    exact ⟨_, rfl, k _ kp hl⟩
end
end SbW
end
section
set_option maxHeartbeats 1000000
namespace SbW
open PySem PySem.Spec L2 SbX SbEnum
open PyProof.Rows hiding St
open FtBench (Tool)
open FtNet (Bound)
open SbNet (Hts lower1 lowerOnce rounds begin_ mostAbove)
open SbBook (Span firstSpan laterSpan PUse spanRows pShowRows pRows pRowsTo itemRows pUseRows pToolRows lastB pTool pBetween silent)
theorem one_le : 1 ≤ sizeLine := by decide
theorem k_le {n : Nat} (h : n ≤ 1000) : n ≤ sizeLine := Nat.le_of_lt (small1000 h)
theorem rep_none : ∀ n : Nat, (List.replicate n [V.non]).flatten = (List.replicate n (none : Option Int)).map oV
  | 0 => rfl
  | n + 1 => by
    rw [List.replicate_succ, List.flatten_cons, rep_none n]
    rfl
/-- a Keep at an address that is new to H -/
theorem same_keep {H H1 H2 : Hp} {l : Addr} (s : Same H H1) (k : Keep [l] H1 H2) (hl : H l = none) : Same H H2 := fun b o e => k b o (s b o e) (by
  have := ne_of_none e hl
  simpa using this)
section
variable {P : Program} {w : World} {K : PySem.W.Frag} {mg : Str → Option Value} {base : Heap} {C : Cl}
def sp_most_above : Sp := SpOf (fun x : Addr × Nat × Nat × List Bound => [.ref x.1, .int x.2.1, .int x.2.2.1]) fun x H Q _ => RowsAt H x.1 x.2.2.2 ∧ x.2.2.1 < x.2.1 ∧ x.2.1 ≤ 1000 ∧ InR x.2.1 x.2.2.2 ∧
  (mostAbove x.2.2.2 x.2.1 x.2.2.1 = none → ∀ H', Same H H' → Q .non H') ∧ ∀ g, mostAbove x.2.2.2 x.2.1 x.2.2.1 = some g → ∀ H' l, Same H H' → H' l = some (.lst (g.map oV)) → Q (.ref l) H'
theorem sc_most_above : FnScope ["rows", "values", "start", "above", "turn"] ["rows", "values", "start"] (defScope st_most_above) := ⟨rfl, rfl, rfl, by decide +kernel, rfl, by decide +kernel, by decide +kernel⟩
theorem D_most_above (T : Top K mg C) : Def P w K mg base CX0 2 "most_above" ["rows", "values", "start"] sp_most_above := by
  refine def_mk T.f_most_above (fun _ _ _ _ _ _ us hl => match us, hl with | [_, _, _], _ => rfl) sc_most_above (fun _ => rfl) fun f cdv A outer s H x Q E hr h => ?_
  obtain ⟨lr, n, st, rs⟩ := x
  try dsimp only at h
  obtain ⟨hrs, hst, hn, hin, k0, k1⟩ := h
  refine ⟨_, (pss_cons (ps_set (i := 3) sc_most_above.nd rfl (Or.inl rfl) (pe_op op_rep (pe_lst (pa_cons pe_non pa_nil)) (pv 1))) (pss_cons (ps_asg pe_int (pg_sub (pv 3) (pv 2) set_list)) (pss_cons (ps_for PassesOwn.never rfl (pi_range1 rfl T.n_range (pa_cons (pv 1) pa_nil)) (pg_name (i := 4) sc_most_above.nd rfl (Or.inl rfl)) (pss_one (ps_if (pt_not (pt_val (pe_callD (D_lower_once T) (hr.mono (by decide)) (by rfl) pass0 (pa_cons (pv 0) (pa_cons (pv 3) pa_nil))))) (pss_one (ps_ret (pv 3))) pss_nil))) (pss_one (ps_ret pe_non))))), ?_⟩
  refine ⟨one_le, fun l0 hl0 => ⟨_, rfl, l0, (n : Int), [.non], rfl, rfl, upd_same, by omega, by omega, ?_, fun la hla => ?_⟩⟩
  · show 1 * n ≤ sizeLine
    rw [Nat.one_mul]
    exact k_le hn
  · have s1 : Same H (upd H l0 (.lst [.non])) := Same.new hl0
    have hlaH : H la = none := s1.free hla
    have er : (List.replicate (n : Int).toNat [V.non]).flatten = (List.replicate n (none : Option Int)).map oV := rep_none n
    have s2 : Same H (upd (upd H l0 (.lst [.non])) la (.lst (List.replicate (n : Int).toNat [V.non]).flatten)) := s1.on hla
    refine ⟨_, rfl, _, rfl, la, _, _, st, rfl, rfl, upd_same, ixN_nat (by rw [er]; simpa using hst), ?_⟩
    have eb : ((List.replicate (n : Int).toNat [V.non]).flatten).set st (.int 0) = (begin_ n st).map oV := by
      rw [er]
      unfold begin_
      rw [List.map_set]
      rfl
    refine ⟨_, rfl, (n : Int), rfl, by omega, by omega, for_range (lo := 0) (n := n) (fun i σ H' => i ≤ n ∧ ∃ v4 h, σ = [some (.ref lr), some (.int n), some (.int st), some (.ref la), v4] ∧ Same H H' ∧ H' la = some (.lst (h.map oV)) ∧ h.length = n ∧ mostAbove rs n st = rounds rs (n - i) h)
      ⟨Nat.zero_le _, none, begin_ n st, rfl, ?_, upd_same.trans (congrArg (fun z => some (HO.lst z)) eb), SbNet.begin_len n st, rfl⟩ ?_ ?_⟩
    · exact s2.own hlaH
    · rintro i σ H' hi ⟨_, v4, h, rfl, s3, hl, hlen, hm⟩
      have hne : lr ≠ la := by
        obtain ⟨as, e, _⟩ := hrs
        exact ne_of_none e hlaH
      rw [show n - i = (n - (i + 1)) + 1 by omega] at hm
      unfold rounds at hm
      refine ⟨_, rfl, _, rfl, (lr, la, rs, h), rfl, hrs.on s3, hne, hl, by rw [hlen]; exact hin, fun H2 kp hl2 => ⟨_, rfl, ifNB (fun c => ?_) fun c => ?_⟩⟩
      · have c : (lowerOnce rs h).2 = false := c
        rw [c, if_neg (by decide)] at hm
        exact ⟨_, rfl, k1 _ hm H2 la (same_keep s3 kp hlaH) hl2⟩
      · have c : (lowerOnce rs h).2 = true := c
        rw [if_pos c] at hm
        exact ⟨by omega, _, _, rfl, same_keep s3 kp hlaH, hl2, (SbNet.fold_len rs (h, false)).trans hlen, hm⟩
    · rintro σ H' ⟨_, v4, h, rfl, s3, hl, hlen, hm⟩
      rw [Nat.sub_self] at hm
      exact k0 hm H' s3
/-! ### rows_of -/
/-- what may be handed to rows_of -/
structure Fine (n : Nat) (ts : List Tool) (us : List PUse) : Prop where
  tool : ∀ u, u ∈ us → u.tool < ts.length
  few : us.length ≤ 40
  items : n ≤ 40
abbrev BkArgs := Nat × Addr × Addr × List Tool × List PUse
def BkOk (C : Cl) (H : Hp) (x : BkArgs) : Prop := ToolsAt C H x.2.1 x.2.2.2.1 ∧ UsesAt C H x.2.2.1 x.2.2.2.2 ∧ Fine x.1 x.2.2.2.1 x.2.2.2.2
theorem BkOk.on {C : Cl} {H H' : Hp} {x : BkArgs} (h : BkOk C H x) (s : Same H H') : BkOk C H' x := ⟨h.1.on s, h.2.1.on s, h.2.2⟩
theorem lastB_succ {us : List PUse} {k : Nat} {u : PUse} (h : us[k]? = some u) (t : Nat) : lastB us (k + 1) t = if u.tool = t then some k else lastB us k t := by
  show (if (us[k]?).map PUse.tool = some t then some k else lastB us k t) = _
  rw [h]
  simp only [Option.map_some, Option.some.injEq]
theorem rowsTo_succ {n : Nat} {ts : List Tool} {us : List PUse} {k : Nat} {u : PUse} (h : us[k]? = some u) : pRowsTo n ts us (k + 1) = pRowsTo n ts us k ++ pUseRows n ts us k u := by
  show pRowsTo n ts us k ++ (match us[k]? with
    | some u => pUseRows n ts us k u
    | none => []) = _
  rw [h]
theorem tool_len (n : Nat) (tl : Tool) (j : Option Nat) (m : Nat) : (pToolRows n tl j m).length ≤ 2 := by
  cases j <;> exact SbBook.spanRows_len ..
theorem show_len (m : Nat) (u : PUse) : (pShowRows m u).length ≤ 2 := by
  unfold pShowRows
  split <;> exact SbBook.spanRows_len ..
def sp_rows_of (C : Cl) : Sp := SpOf (fun x : BkArgs => [.int x.1, .ref x.2.1, .ref x.2.2.1]) fun x H Q _ => BkOk C H x ∧ ∀ H' l, Same H H' → RowsAt H' l (pRows x.1 x.2.2.2.1 x.2.2.2.2) → Q (.ref l) H'
theorem sc_rows_of : FnScope ["items", "tools", "uses", "rows", "item", "before", "mark", "use", "tool"] ["items", "tools", "uses"] (defScope st_rows_of) := ⟨rfl, rfl, rfl, by decide +kernel, rfl, by decide +kernel, by decide +kernel⟩
theorem D_rows_of (T : Top K mg C) : Def P w K mg base CX0 3 "rows_of" ["items", "tools", "uses"] (sp_rows_of C) := by
  refine def_mk T.f_rows_of (fun _ _ _ _ _ _ us hl => match us, hl with | [_, _, _], _ => rfl) sc_rows_of (fun _ => rfl) fun f cdv A outer s H x Q E hr h => ?_
  obtain ⟨n, lt, lu, ts, us⟩ := x
  try dsimp only at h
  obtain ⟨⟨ht, hu, fine⟩, k⟩ := h
  have hn : n ≤ 40 := fine.items
  have hfew : us.length ≤ 40 := fine.few
  refine ⟨_, (pss_cons (ps_set (i := 3) sc_rows_of.nd rfl (Or.inl rfl) (pe_lst pa_nil)) (pss_cons (ps_for PassesOwn.never rfl (pi_range1 rfl T.n_range (pa_cons (pv 0) pa_nil)) (pg_name (i := 4) sc_rows_of.nd rfl (Or.inl rfl)) (pss_one (ps_expr (pe_bm PySem.F.plainAttrs_list PySem.F.slot_list_extend PySem.F.type_list_extend mt_extend (pv 3) (pa_cons (pe_callD (D_span_rows T) (hr.mono (by decide)) (by rfl) pass0 (pa_cons (pc T.c_GROUND) (pa_cons (pe_callD (D_item_value T) (hr.mono (by decide)) (by rfl) pass0 (pa_cons (pv 4) pa_nil)) (pa_cons (pe_tup (pa_cons (pc T.c_LEAST_SIZE) (pa_cons (pc T.c_MOST_SIZE) pa_nil))) pa_nil)))) pa_nil))))) (pss_cons (ps_set (i := 5) sc_rows_of.nd rfl (Or.inl rfl) pe_dnewK) (pss_cons (ps_for PassesOwn.never rfl (pi_enumS rfl T.n_enumerate (pa_cons (pv 2) pa_nil) (pe_callD (D_mark_value T) (hr.mono (by decide)) (by rfl) pass0 (pa_cons (pv 0) (pa_cons pe_int pa_nil)))) (pg_tup rfl (pgs_cons (pg_name (i := 6) sc_rows_of.nd rfl (Or.inl rfl)) (pgs_cons (pg_name (i := 7) sc_rows_of.nd rfl (Or.inl rfl)) pgs_nil))) (pss_cons (ps_set (i := 8) sc_rows_of.nd rfl (Or.inl rfl) (pe_ix ix_list (pv 1) (pe_fld (pv 7) rfl) (fun _ _ => rfl))) (pss_cons (ps_if (pt_cmp (pc_din (hu_of hr) (pe_fld (pv 7) rfl) (pv 5))) (pss_one (ps_expr (pe_bm PySem.F.plainAttrs_list PySem.F.slot_list_extend PySem.F.type_list_extend mt_extend (pv 3) (pa_cons (pe_callD (D_span_rows T) (hr.mono (by decide)) (by rfl) pass0 (pa_cons (pe_dget (hu_of hr) (pv 5) (pe_fld (pv 7) rfl) (fun _ _ => rfl)) (pa_cons (pv 6) (pa_cons (pe_callD (D_later_span T) (hr.mono (by decide)) (by rfl) pass0 (pa_cons (pv 8) pa_nil)) pa_nil)))) pa_nil)))) (pss_one (ps_expr (pe_bm PySem.F.plainAttrs_list PySem.F.slot_list_extend PySem.F.type_list_extend mt_extend (pv 3) (pa_cons (pe_callD (D_span_rows T) (hr.mono (by decide)) (by rfl) pass0 (pa_cons (pc T.c_GROUND) (pa_cons (pv 6) (pa_cons (pe_callD (D_first_span T) (hr.mono (by decide)) (by rfl) pass0 (pa_cons (pv 8) pa_nil)) pa_nil)))) pa_nil))))) (pss_cons (ps_dput (hu_of hr) (pv 5) (pe_fld (pv 7) rfl) (pv 6) rfl) (pss_one (ps_expr (pe_bm PySem.F.plainAttrs_list PySem.F.slot_list_extend PySem.F.type_list_extend mt_extend (pv 3) (pa_cons (pe_callD (D_use_rows T) (hr.mono (by decide)) (by rfl) pass0 (pa_cons (pv 7) (pa_cons (pv 6) pa_nil))) pa_nil)))))))) (pss_one (ps_ret (pv 3))))))), ?_⟩
  refine ⟨Nat.zero_le _, fun l hl => ?_⟩
  have s0 : Same H (upd H l (.lst [])) := Same.new hl
  -- the items' rows
  refine ⟨_, rfl, (n : Int), rfl, by omega, by omega, for_range (lo := 0) (n := n) (fun i σ H' => i ≤ n ∧ ∃ v4, σ = [some (.int n), some (.ref lt), some (.ref lu), some (.ref l), v4, none, none, none, none] ∧ Same H H' ∧ RowsAt H' l (itemRows i))
    ⟨Nat.zero_le _, none, rfl, s0, [], upd_same, .nil⟩ ?_ ?_⟩
  · rintro i σ H' hi ⟨_, v4, rfl, s1, as, e1, p1⟩
    refine ⟨_, rfl, .inl ⟨rfl, _, SqL.of e1⟩, _, rfl, i, ?_, two_le, fun p hp => ⟨(0, i + 1, p, (some 1, some 4294967296)), rfl, upd_same, fun H2 b s2 ⟨bs, e2, p2⟩ => ?_⟩⟩
    · show [V.int (0 + (i : Int))] = [V.int i]
      rw [Int.zero_add]
    · have s12 : Same H' H2 := (Same.new hp).trans s2
      have e3 := s12 _ _ e1
      refine ⟨l, b, _, _, rfl, rfl, e3, e2, ?_, ?_⟩
      · have h1 := pair_len p1
        have h2 : bs.length = (spanRows 0 (i + 1) (some 1, some 4294967296)).length := pair_len p2
        have h3 := SbBook.itemRows_len i
        have h4 := SbBook.spanRows_len 0 (i + 1) (some 1, some 4294967296)
        rw [List.length_map, List.length_map]
        exact k_le (by omega)
      · refine ⟨by omega, _, rfl, (s1.trans s12).own hl, as ++ bs, ?_, ?_⟩
        · rw [upd_same, List.map_append]
        · rw [SbBook.itemRows_succ]
          exact pair_append (rows_at (rows_on p1 s12) e3) (rows_at p2 e3)
  · rintro σ H' ⟨_, v4, rfl, s1, hr1⟩
    -- the uses' rows
    refine fun d hd => ?_
    obtain ⟨tas, et, pt⟩ := ht
    obtain ⟨uas, eu, pu⟩ := hu
    have hdH : H d = none := s1.free hd
    have hdl : d ≠ l := by
      obtain ⟨as, e1, _⟩ := hr1
      exact fun z => by rw [z, e1] at hd; cases hd
    refine ⟨_, rfl, _, rfl, (n, 0), rfl, lu, uas.map V.ref, ((n + 1 + 0 : Nat) : Int), rfl, rfl, ?_, SqL.of (s1.on hd _ _ eu),
      for_enumS (K := K) (a := lu) (xs := uas.map V.ref) (fun i σ H2 => ∃ v6 v7 v8 kvs, σ = [some (.int n), some (.ref lt), some (.ref lu), some (.ref l), v4, some (.ref d), v6, v7, v8] ∧ Same H H2 ∧ RowsAt H2 l (pRowsTo n ts us i) ∧
        H2 d = some (.dK kvs) ∧ kvs.length ≤ i ∧ ∀ t : Nat, valV kvs (.inl (t : Int)) = (lastB us i t).map fun j => V.int ((n + 1 + j : Nat) : Int))
        ⟨none, none, none, [], rfl, s1.on hd, hr1.on (Same.new hd), upd_same, Nat.le_refl _, fun t => rfl⟩ (fun i σ H2 _ ⟨_, _, _, _, _, s2, _⟩ => SqL.of (s2 _ _ eu)) ?_ ?_⟩
    · show Builtin.SmallTypes.fitsIndex _ = true
      unfold Builtin.SmallTypes.fitsIndex
      simp
      omega
    · rintro i x σ H2 Tp hx ⟨v6, v7, v8, kvs, rfl, s2, hr2, hd2, hk2, hv2⟩ hTp
      obtain ⟨ua, hua, rfl⟩ := ref_at hx
      obtain ⟨u, hu1, hu2⟩ := pair_getL pu hua
      have hut : u.tool < ts.length := fine.tool u (List.mem_of_getElem? hu1)
      have hilt : i < us.length := (List.getElem?_eq_some_iff.mp hu1).1
      obtain ⟨tl, htl⟩ : ∃ tl, ts[u.tool]? = some tl := ⟨_, List.getElem?_eq_getElem hut⟩
      obtain ⟨ta, hta, htt⟩ := pair_get pt htl
      have epT : pTool ts u.tool = tl := by
        unfold pTool
        rw [List.getD_eq_getElem?_getD, htl]
        rfl
      have s3 : Same H2 (upd H2 Tp (.tup [.int (((n + 1 + 0 : Nat) : Int) + (i : Nat)), .ref ua])) := Same.new hTp
      have em : ((n + 1 + 0 : Nat) : Int) + (i : Nat) = ((n + 1 + i : Nat) : Int) := by omega
      have s23 : Same H (upd H2 Tp (.tup [.int (((n + 1 + 0 : Nat) : Int) + (i : Nat)), .ref ua])) := s2.trans s3
      obtain ⟨udx, uq, hua1_0, hua2_0⟩ := id hu2
      have hua1 := s23 _ _ hua1_0
      have hta2 := htt.on s23
      refine ⟨_, _, rfl, SqT.of upd_same, rfl, _, _, rfl, _, _, rfl, rfl, ?_⟩
      generalize upd H2 Tp (.tup [.int (((n + 1 + 0 : Nat) : Int) + (i : Nat)), .ref ua]) = H3 at s3 s23 hua1 hta2 ⊢
      rw [em]
      have hd3 := s3 _ _ hd2
      have hr3 := hr2.on s3
      -- tool = tools[use.tool]
      refine ⟨_, rfl, _, rfl, _, _, _, _, _, rfl, hua1, T.k_Use, T.a_Use_tool, l_Use_tool, _, _, _, _, rfl, rfl, SqL.of (s23 _ _ et), at_of (j := u.tool) (v := .ref ta) rfl (by rw [List.getElem?_map, hta]; rfl), ?_⟩
      -- what is told behind the tool's own rows
      have last : ∀ H4 : Hp, Same H H4 → H4 d = some (.dK kvs) → RowsAt H4 l (pRowsTo n ts us i ++ pToolRows n tl (lastB us i u.tool) (n + 1 + i)) →
          Same H (upd H4 d (.dK (putK kvs (.inl (u.tool : Int)) (.int ((n + 1 + i : Nat) : Int))))) ∧ RowsAt (upd H4 d (.dK (putK kvs (.inl (u.tool : Int)) (.int ((n + 1 + i : Nat) : Int))))) l (pRowsTo n ts us i ++ pToolRows n tl (lastB us i u.tool) (n + 1 + i)) := fun H4 q1 q2 q3 => by
        refine ⟨q1.own hdH, ?_⟩
        obtain ⟨as, e, p⟩ := q3
        refine ⟨as, by rw [upd_ne (Ne.symm hdl)]; exact e, Paired.imp' (fun a r (z : H4 a = _) => ?_) p⟩
        show upd H4 d _ a = _
        rw [upd_ne (ne_of z q2 (by intro y; cases y))]
        exact z
      have hua0 := hua1_0
      obtain ⟨as, e3, p3⟩ := hr3
      have hp3 := pair_len p3
      have hp3' := SbBook.pRowsTo_len n ts us i
      refine ⟨_, rfl, _, _, _, _, _, rfl, hua1, T.k_Use, T.a_Use_tool, l_Use_tool, _, rfl, d, _, rfl, DGet.k (k := .inl (u.tool : Int)) hd3, _, rfl, ?_⟩
      rw [hv2 u.tool]
      cases el : lastB us i u.tool with
      | none =>
        refine iteF ⟨_, rfl, .inl ⟨rfl, _, SqL.of e3⟩, _, rfl, _, rfl, (ta, tl), rfl, hta2, fun H4 q s4 hq => ⟨(0, n + 1 + i, q, firstSpan tl), rfl, hq, fun H5 b s5 ⟨bs, e5, p5⟩ => ?_⟩⟩
        have s35 : Same H3 H5 := s4.trans s5
        refine ⟨l, b, _, _, rfl, rfl, s35 _ _ e3, e5, ?_, ?_⟩
        · rw [List.length_map, List.length_map]
          have h2 := pair_len p5
          have h4 := SbBook.spanRows_len 0 (n + 1 + i) (firstSpan tl)
          have h2 : bs.length ≤ 2 := by rw [h2]; exact h4
          exact k_le (by omega)
        · have e3' : H5 l = some (.lst (as.map V.ref)) := s35 _ _ e3
          have r6 : RowsAt (upd H5 l (.lst (as.map V.ref ++ bs.map V.ref))) l (pRowsTo n ts us i ++ pToolRows n tl (lastB us i u.tool) (n + 1 + i)) := by
            refine ⟨as ++ bs, by rw [upd_same, List.map_append], ?_⟩
            rw [el, show pToolRows n tl none (n + 1 + i) = spanRows 0 (n + 1 + i) (firstSpan tl) from rfl]
            exact pair_append (rows_at (rows_on p3 s35) e3') (rows_at p5 e3')
          have s6 : Same H (upd H5 l (.lst (as.map V.ref ++ bs.map V.ref))) := (s23.trans s35).own hl
          have d6 : upd H5 l (.lst (as.map V.ref ++ bs.map V.ref)) d = some (.dK kvs) := by
            rw [upd_ne hdl]
            exact s35 _ _ hd3
          obtain ⟨s7, r7⟩ := last _ s6 d6 r6
          have u6 := s6 _ _ hua0
          refine ⟨_, rfl, _, rfl, _, rfl, _, _, _, _, _, rfl, u6, T.k_Use, T.a_Use_tool, l_Use_tool, d, _, rfl, DPut.k (k := .inl (u.tool : Int)) d6 (small1000 (by omega)), ?_⟩
          obtain ⟨as7, e7, p7⟩ := r7
          have hp7 := pair_len p7
          rw [List.length_append] at hp7
          have ht7 := tool_len n tl (lastB us i u.tool) (n + 1 + i)
          refine ⟨_, rfl, .inl ⟨rfl, _, SqL.of e7⟩, _, rfl, _, rfl, (ua, u, n + 1 + i), rfl, hu2.on s7, fun H8 b8 s8 ⟨bs8, e8, p8⟩ => ⟨l, b8, _, _, rfl, rfl, s8 _ _ e7, e8, ?_, ?_⟩⟩
          · rw [List.length_map, List.length_map]
            have h2 : bs8.length = (pShowRows (n + 1 + i) u).length := pair_len p8
            have h4 := show_len (n + 1 + i) u
            exact k_le (by omega)
          · have e7' : H8 l = some (.lst (as7.map V.ref)) := s8 _ _ e7
            refine ⟨_, _, _, putK kvs (.inl (u.tool : Int)) (.int ((n + 1 + i : Nat) : Int)), rfl, (s7.trans s8).own hl, ⟨as7 ++ bs8, by rw [upd_same, List.map_append], ?_⟩, ?_, ?_, fun t => ?_⟩
            · rw [rowsTo_succ hu1]
              unfold pUseRows
              rw [epT, ← List.append_assoc]
              exact pair_append (rows_at (rows_on p7 s8) e7') (rows_at p8 e7')
            · rw [upd_ne hdl]
              exact s8 _ _ upd_same
            · have := length_putK kvs (.inl (u.tool : Int)) (.int ((n + 1 + i : Nat) : Int))
              omega
            · rw [valV_put, lastB_succ hu1, hv2 t]
              by_cases c : u.tool = t
              · rw [if_pos c, if_pos (by rw [c])]
                rfl
              · rw [if_neg c, if_neg (fun z => c (by have := Sum.inl.inj z; omega))]
      | some j =>
        refine iteT ⟨_, rfl, .inl ⟨rfl, _, SqL.of e3⟩, _, rfl, _, rfl, _, _, _, _, _, rfl, hua1, T.k_Use, T.a_Use_tool, l_Use_tool, d, .int ((n + 1 + j : Nat) : Int), rfl, ?_, _, rfl, _, rfl, (ta, tl), rfl, hta2, fun H4 q s4 hq => ⟨(n + 1 + j, n + 1 + i, q, laterSpan tl), rfl, hq, fun H5 b s5 ⟨bs, e5, p5⟩ => ?_⟩⟩
        · have g := DGet.k (k := .inl (u.tool : Int)) hd3
          rw [hv2 u.tool, el] at g
          exact g
        · have s35 : Same H3 H5 := s4.trans s5
          refine ⟨l, b, _, _, rfl, rfl, s35 _ _ e3, e5, ?_, ?_⟩
          · rw [List.length_map, List.length_map]
            have h2 := pair_len p5
            have h4 := SbBook.spanRows_len (n + 1 + j) (n + 1 + i) (laterSpan tl)
            have h2 : bs.length ≤ 2 := by rw [h2]; exact h4
            exact k_le (by omega)
          · have e3' : H5 l = some (.lst (as.map V.ref)) := s35 _ _ e3
            have r6 : RowsAt (upd H5 l (.lst (as.map V.ref ++ bs.map V.ref))) l (pRowsTo n ts us i ++ pToolRows n tl (lastB us i u.tool) (n + 1 + i)) := by
              refine ⟨as ++ bs, by rw [upd_same, List.map_append], ?_⟩
              rw [el, show pToolRows n tl (some j) (n + 1 + i) = spanRows (n + 1 + j) (n + 1 + i) (laterSpan tl) from rfl]
              exact pair_append (rows_at (rows_on p3 s35) e3') (rows_at p5 e3')
            have s6 : Same H (upd H5 l (.lst (as.map V.ref ++ bs.map V.ref))) := (s23.trans s35).own hl
            have d6 : upd H5 l (.lst (as.map V.ref ++ bs.map V.ref)) d = some (.dK kvs) := by
              rw [upd_ne hdl]
              exact s35 _ _ hd3
            obtain ⟨s7, r7⟩ := last _ s6 d6 r6
            have u6 := s6 _ _ hua0
            refine ⟨_, rfl, _, rfl, _, rfl, _, _, _, _, _, rfl, u6, T.k_Use, T.a_Use_tool, l_Use_tool, d, _, rfl, DPut.k (k := .inl (u.tool : Int)) d6 (small1000 (by omega)), ?_⟩
            obtain ⟨as7, e7, p7⟩ := r7
            have hp7 := pair_len p7
            rw [List.length_append] at hp7
            have ht7 := tool_len n tl (lastB us i u.tool) (n + 1 + i)
            refine ⟨_, rfl, .inl ⟨rfl, _, SqL.of e7⟩, _, rfl, _, rfl, (ua, u, n + 1 + i), rfl, hu2.on s7, fun H8 b8 s8 ⟨bs8, e8, p8⟩ => ⟨l, b8, _, _, rfl, rfl, s8 _ _ e7, e8, ?_, ?_⟩⟩
            · rw [List.length_map, List.length_map]
              have h2 : bs8.length = (pShowRows (n + 1 + i) u).length := pair_len p8
              have h4 := show_len (n + 1 + i) u
              exact k_le (by omega)
            · have e7' : H8 l = some (.lst (as7.map V.ref)) := s8 _ _ e7
              refine ⟨_, _, _, putK kvs (.inl (u.tool : Int)) (.int ((n + 1 + i : Nat) : Int)), rfl, (s7.trans s8).own hl, ⟨as7 ++ bs8, by rw [upd_same, List.map_append], ?_⟩, ?_, ?_, fun t => ?_⟩
              · rw [rowsTo_succ hu1]
                unfold pUseRows
                rw [epT, ← List.append_assoc]
                exact pair_append (rows_at (rows_on p7 s8) e7') (rows_at p8 e7')
              · rw [upd_ne hdl]
                exact s8 _ _ upd_same
              · have := length_putK kvs (.inl (u.tool : Int)) (.int ((n + 1 + i : Nat) : Int))
                omega
              · rw [valV_put, lastB_succ hu1, hv2 t]
                by_cases c : u.tool = t
                · rw [if_pos c, if_pos (by rw [c])]
                  rfl
                · rw [if_neg c, if_neg (fun z => c (by have := Sum.inl.inj z; omega))]
    · rintro σ H2 ⟨v6, v7, v8, kvs, rfl, s2, hr2, hd2, hk2, hv2⟩
      refine ⟨_, rfl, k _ l s2 ?_⟩
      have e : (uas.map V.ref).length = us.length := by rw [List.length_map]; exact pair_len pu
      rw [e] at hr2
      exact hr2
end
end SbW
end
section
set_option maxHeartbeats 1000000
namespace SbW
open PySem PySem.Spec L2 SbX SbEnum
open PyProof.Rows hiding St
open FtBench (Tool)
open FtNet (Bound)
open SbNet (Hts mostAbove)
open SbBook (PUse pRows pBetween silent)
section
variable {P : Program} {w : World} {K : PySem.W.Frag} {mg : Str → Option Value} {base : Heap} {C : Cl}
/-- the rows of a book, how many values there are -/
abbrev rowsA (x : BkArgs) : List Bound := pRows x.1 x.2.2.2.1 x.2.2.2.2
abbrev valsA (x : BkArgs) : Nat := 1 + x.1 + x.2.2.2.2.length
theorem vals_le {C : Cl} {H : Hp} {x : BkArgs} (h : BkOk C H x) : valsA x ≤ 1000 := by
  have h1 := h.2.2.items
  have h2 := h.2.2.few
  show 1 + x.1 + x.2.2.2.2.length ≤ 1000
  omega
def sp_is_possible (C : Cl) : Sp := SpOf (fun x : BkArgs => [.int x.1, .ref x.2.1, .ref x.2.2.1]) fun x H Q _ => BkOk C H x ∧ InR (valsA x) (rowsA x) ∧ ∀ H', Same H H' → Q (.bl (mostAbove (rowsA x) (valsA x) 0).isSome) H'
theorem sc_is_possible : FnScope ["items", "tools", "uses", "rows"] ["items", "tools", "uses"] (defScope st_is_possible) := ⟨rfl, rfl, rfl, by decide +kernel, rfl, by decide +kernel, by decide +kernel⟩
theorem D_is_possible (T : Top K mg C) : Def P w K mg base CX0 4 "is_possible" ["items", "tools", "uses"] (sp_is_possible C) := by
  refine def_mk T.f_is_possible (fun _ _ _ _ _ _ us hl => match us, hl with | [_, _, _], _ => rfl) sc_is_possible (fun _ => rfl) fun f cdv A outer s H x Q E hr h => ?_
  obtain ⟨bo, hin, k⟩ := h
  have hv := vals_le bo
  refine ⟨_, (pss_cons (ps_set (i := 3) sc_is_possible.nd rfl (Or.inl rfl) (pe_callD (D_rows_of T) (hr.mono (by decide)) (by rfl) pass0 (pa_cons (pv 0) (pa_cons (pv 1) (pa_cons (pv 2) pa_nil))))) (pss_one (ps_ret (pe_cmp (pc_notN (pe_callD (D_most_above T) (hr.mono (by decide)) (by rfl) pass0 (pa_cons (pv 3) (pa_cons (pe_callD (D_count_values T) (hr.mono (by decide)) (by rfl) pass0 (pa_cons (pv 0) (pa_cons (pv 2) pa_nil))) (pa_cons (pc T.c_GROUND) pa_nil))))))))), ?_⟩
  refine ⟨_, rfl, _, rfl, _, rfl, x, rfl, bo, fun H1 l s1 hr1 => ⟨_, rfl, _, rfl, _, rfl, (x.1, x.2.2.1, x.2.2.2.2), rfl, (bo.on s1).2.1, (l, valsA x, 0, rowsA x), rfl, hr1, by show 0 < 1 + x.1 + _; omega, hv, hin, fun e H2 s2 => bl_eq (k H2 (s1.trans s2)) ?_, fun g e H2 l2 s2 hl2 => bl_eq (k H2 (s1.trans s2)) ?_⟩⟩
  · rw [e]
    rfl
  · rw [e]
    rfl
def sp_bounds_between (C : Cl) : Sp := SpOf (fun y : BkArgs × Nat × Nat × Int × Int => [.int y.1.1, .ref y.1.2.1, .ref y.1.2.2.1, .int y.2.1, .int y.2.2.1]) fun y H Q _ => BkOk C H y.1 ∧ InR (valsA y.1) (rowsA y.1) ∧
  y.2.1 < valsA y.1 ∧ y.2.2.1 < valsA y.1 ∧ pBetween (rowsA y.1) (valsA y.1) y.2.1 y.2.2.1 y.2.2.2 ∧ ∀ H' q, Same H H' → H' q = some (.tup [.int y.2.2.2.1, .int y.2.2.2.2]) → Q (.ref q) H'
theorem sc_bounds_between : FnScope ["items", "tools", "uses", "low", "high", "rows", "values", "least"] ["items", "tools", "uses", "low", "high"] (defScope st_bounds_between) := ⟨rfl, rfl, rfl, by decide +kernel, rfl, by decide +kernel, by decide +kernel⟩
theorem D_bounds_between (T : Top K mg C) : Def P w K mg base CX0 4 "bounds_between" ["items", "tools", "uses", "low", "high"] (sp_bounds_between C) := by
  refine def_mk T.f_bounds_between (fun _ _ _ _ _ _ us hl => match us, hl with | [_, _, _, _, _], _ => rfl) sc_bounds_between (fun _ => rfl) fun f cdv A outer s H y Q E hr h => ?_
  obtain ⟨x, lo, hi, z1, z2⟩ := y
  try dsimp only at h
  obtain ⟨bo, hin, hlo, hhi, ⟨g, g', e1, e2, n1, n2, v1, v2⟩, k⟩ := h
  have hv := vals_le bo
  refine ⟨_, (pss_cons (ps_set (i := 5) sc_bounds_between.nd rfl (Or.inl rfl) (pe_callD (D_rows_of T) (hr.mono (by decide)) (by rfl) pass0 (pa_cons (pv 0) (pa_cons (pv 1) (pa_cons (pv 2) pa_nil))))) (pss_cons (ps_set (i := 6) sc_bounds_between.nd rfl (Or.inl rfl) (pe_callD (D_count_values T) (hr.mono (by decide)) (by rfl) pass0 (pa_cons (pv 0) (pa_cons (pv 2) pa_nil)))) (pss_cons (ps_set (i := 7) sc_bounds_between.nd rfl (Or.inl rfl) (pe_un un_neg (pe_ix ix_list (pe_callD (D_most_above T) (hr.mono (by decide)) (by rfl) pass0 (pa_cons (pv 5) (pa_cons (pv 6) (pa_cons (pv 4) pa_nil)))) (pv 3) (fun _ _ => rfl)))) (pss_one (ps_ret (pe_tup (pa_cons (pv 7) (pa_cons (pe_ix ix_list (pe_callD (D_most_above T) (hr.mono (by decide)) (by rfl) pass0 (pa_cons (pv 5) (pa_cons (pv 6) (pa_cons (pv 3) pa_nil)))) (pv 4) (fun _ _ => rfl)) pa_nil)))))))), ?_⟩
  refine ⟨_, rfl, _, rfl, _, rfl, x, rfl, bo, fun H1 l s1 hr1 => ⟨_, rfl, _, rfl, (x.1, x.2.2.1, x.2.2.2.2), rfl, (bo.on s1).2.1, ?_⟩⟩
  refine ⟨_, rfl, _, rfl, _, rfl, (l, valsA x, hi, rowsA x), rfl, hr1, hhi, hv, hin, fun e => absurd (e.symm.trans e1) (by simp), fun g2 e H2 l2 s2 hl2 => ?_⟩
  cases e.symm.trans e1
  refine ⟨_, rfl, _, _, _, _, rfl, rfl, SqL.of hl2, at_oV (by rw [n1]; exact hlo), -z1, ?_, ?_⟩
  · rw [v1]
    rfl
  · refine ⟨_, rfl, _, rfl, _, rfl, _, rfl, (l, valsA x, lo, rowsA x), rfl, hr1.on s2, hlo, hv, hin, fun e' => absurd (e'.symm.trans e2) (by simp), fun g3 e' H3 l3 s3 hl3 => ?_⟩
    cases e'.symm.trans e2
    refine ⟨_, rfl, _, _, _, _, rfl, rfl, SqL.of hl3, at_oV (by rw [n2]; exact hhi), two_le, fun p hp => k _ p (((s1.trans s2).trans s3).on hp) ?_⟩
    rw [upd_same, v2]
    show some (HO.tup [V.int (- -z1), V.int z2]) = _
    rw [Int.neg_neg]
abbrev betQ (C : Cl) (H : Hp) (Q : VK) (x : BkArgs) (lo hi : Nat) (z : Int × Int) : Prop := BkOk C H x ∧ InR (valsA x) (rowsA x) ∧ lo < valsA x ∧ hi < valsA x ∧ pBetween (rowsA x) (valsA x) lo hi z ∧ ∀ H' q, Same H H' → H' q = some (.tup [.int z.1, .int z.2]) → Q (.ref q) H'
def sp_item_bounds (C : Cl) : Sp := SpOf (fun y : BkArgs × Nat × Int × Int => [.int y.1.1, .ref y.1.2.1, .ref y.1.2.2.1, .int y.2.1]) fun y H Q _ => betQ C H Q y.1 0 (y.2.1 + 1) y.2.2
theorem sc_item_bounds : FnScope ["items", "tools", "uses", "item"] ["items", "tools", "uses", "item"] (defScope st_item_bounds) := ⟨rfl, rfl, rfl, by decide +kernel, rfl, by decide +kernel, by decide +kernel⟩
theorem D_item_bounds (T : Top K mg C) : Def P w K mg base CX0 5 "item_bounds" ["items", "tools", "uses", "item"] (sp_item_bounds C) := by
  refine def_mk T.f_item_bounds (fun _ _ _ _ _ _ us hl => match us, hl with | [_, _, _, _], _ => rfl) sc_item_bounds (fun _ => rfl) fun f cdv A outer s H y Q E hr h => ?_
  obtain ⟨x, i, z⟩ := y
  exact ⟨_, (pss_one (ps_ret (pe_callD (D_bounds_between T) (hr.mono (by decide)) (by rfl) pass0 (pa_cons (pv 0) (pa_cons (pv 1) (pa_cons (pv 2) (pa_cons (pc T.c_GROUND) (pa_cons (pe_callD (D_item_value T) (hr.mono (by decide)) (by rfl) pass0 (pa_cons (pv 3) pa_nil)) pa_nil)))))))), ⟨_, rfl, _, rfl, _, rfl, _, rfl, i, rfl, (x, 0, i + 1, z), rfl, h⟩⟩
def sp_apart_bounds (C : Cl) : Sp := SpOf (fun y : BkArgs × Nat × Nat × Int × Int => [.int y.1.1, .ref y.1.2.1, .ref y.1.2.2.1, .int y.2.1, .int y.2.2.1]) fun y H Q _ => betQ C H Q y.1 (y.2.1 + 1) (y.2.2.1 + 1) y.2.2.2
theorem sc_apart_bounds : FnScope ["items", "tools", "uses", "i", "j"] ["items", "tools", "uses", "i", "j"] (defScope st_apart_bounds) := ⟨rfl, rfl, rfl, by decide +kernel, rfl, by decide +kernel, by decide +kernel⟩
theorem D_apart_bounds (T : Top K mg C) : Def P w K mg base CX0 5 "apart_bounds" ["items", "tools", "uses", "i", "j"] (sp_apart_bounds C) := by
  refine def_mk T.f_apart_bounds (fun _ _ _ _ _ _ us hl => match us, hl with | [_, _, _, _, _], _ => rfl) sc_apart_bounds (fun _ => rfl) fun f cdv A outer s H y Q E hr h => ?_
  obtain ⟨x, i, j, z⟩ := y
  exact ⟨_, (pss_one (ps_ret (pe_callD (D_bounds_between T) (hr.mono (by decide)) (by rfl) pass0 (pa_cons (pv 0) (pa_cons (pv 1) (pa_cons (pv 2) (pa_cons (pe_callD (D_item_value T) (hr.mono (by decide)) (by rfl) pass0 (pa_cons (pv 3) pa_nil)) (pa_cons (pe_callD (D_item_value T) (hr.mono (by decide)) (by rfl) pass0 (pa_cons (pv 4) pa_nil)) pa_nil)))))))), ⟨_, rfl, _, rfl, _, rfl, _, rfl, i, rfl, _, rfl, j, rfl, (x, i + 1, j + 1, z), rfl, h⟩⟩
/-- the uses and a silent one -/
abbrev moreA (x : BkArgs) (l : Addr) (t : Nat) : BkArgs := (x.1, x.2.1, l, x.2.2.2.1, x.2.2.2.2 ++ [silent t])
def sp_next_mark_bounds (C : Cl) : Sp := SpOf (fun y : BkArgs × Nat × Int × Int => [.int y.1.1, .ref y.1.2.1, .ref y.1.2.2.1, .int y.2.1]) fun y H Q _ => BkOk C H y.1 ∧ y.2.1 < y.1.2.2.2.1.length ∧ y.1.2.2.2.2.length ≤ 39 ∧
  InR (valsA y.1 + 1) (pRows y.1.1 y.1.2.2.2.1 (y.1.2.2.2.2 ++ [silent y.2.1])) ∧ pBetween (pRows y.1.1 y.1.2.2.2.1 (y.1.2.2.2.2 ++ [silent y.2.1])) (valsA y.1 + 1) 0 (valsA y.1) y.2.2 ∧ ∀ H' q, Same H H' → H' q = some (.tup [.int y.2.2.1, .int y.2.2.2]) → Q (.ref q) H'
theorem sc_next_mark_bounds : FnScope ["items", "tools", "uses", "tool", "silent"] ["items", "tools", "uses", "tool"] (defScope st_next_mark_bounds) := ⟨rfl, rfl, rfl, by decide +kernel, rfl, by decide +kernel, by decide +kernel⟩
theorem D_next_mark_bounds (T : Top K mg C) : Def P w K mg base CX0 5 "next_mark_bounds" ["items", "tools", "uses", "tool"] (sp_next_mark_bounds C) := by
  refine def_mk T.f_next_mark_bounds (fun _ _ _ _ _ _ us hl => match us, hl with | [_, _, _, _], _ => rfl) sc_next_mark_bounds (fun _ => rfl) fun f cdv A outer s H y Q E hr h => ?_
  obtain ⟨x, t, z⟩ := y
  obtain ⟨n, lt, lu, ts, us⟩ := x
  try dsimp only at h
  obtain ⟨bo, ht, h39, hin, hb, k⟩ := h
  have ht : t < ts.length := ht
  have h39 : us.length ≤ 39 := h39
  refine ⟨_, (pss_cons (ps_set (i := 4) sc_next_mark_bounds.nd rfl (Or.inl rfl) (pe_makeD (D_Use_init T) (hr.mono (by decide)) (by rfl) T.g_Use (pa_cons (pv 3) (pa_cons pe_non (pa_cons (pe_tup (pa_cons pe_non (pa_cons pe_non pa_nil))) pa_nil))))) (pss_one (ps_ret (pe_callD (D_bounds_between T) (hr.mono (by decide)) (by rfl) pass0 (pa_cons (pv 0) (pa_cons (pv 1) (pa_cons (pe_op op_cat (pv 2) (pe_lst (pa_cons (pv 4) pa_nil))) (pa_cons (pc T.c_GROUND) (pa_cons (pe_callD (D_mark_value T) (hr.mono (by decide)) (by rfl) pass0 (pa_cons (pv 0) (pa_cons (pe_callB call_len_seq (by rfl) T.n_len PySem.boot_len (pa_cons (pv 2) pa_nil)) pa_nil))) pa_nil))))))))), ?_⟩
  refine ⟨_, rfl, two_le, fun p hp => fun a dx na nd ne => ?_⟩
  have s1 : Same H (upd H p (.tup [.non, .non])) := Same.new hp
  refine ⟨(a, silent t, p), rfl, dx, upd_same, fun H2 ha kp => ⟨rfl, ?_⟩⟩
  have s2 : Same H H2 := fun b o e => kp b o (by
    have e1 := s1 _ _ e
    rw [upd_ne (ne_of_none e1 na), upd_ne (ne_of_none e1 nd)]
    exact e1) (by have := ne_of_none (s1 _ _ e) na; simpa using this)
  have hp2 : H2 p = some (.tup [.non, .non]) := kp p _ (by
    have e1 : upd H p (.tup [.non, .non]) p = some (.tup [.non, .non]) := upd_same
    rw [upd_ne (ne_of_none e1 na), upd_ne (ne_of_none e1 nd)]
    exact e1) (by
    have e1 : upd H p (.tup [.non, .non]) p = some (.tup [.non, .non]) := upd_same
    have := ne_of_none e1 na
    simpa using this)
  have hu2 : UseAt C H2 a (silent t) := ⟨dx, p, ha, hp2⟩
  have bo2 := bo.on s2
  obtain ⟨uas, eu, pu⟩ := id bo2.2.1
  have eu : H2 lu = some (.lst (uas.map V.ref)) := eu
  have pu : Paired (UseAt C H2) uas us := pu
  have hul := pair_len pu
  refine ⟨_, rfl, _, rfl, _, rfl, _, rfl, one_le, fun l1 hl1 => ⟨lu, l1, uas.map V.ref, [.ref a], rfl, rfl, (Same.new hl1) _ _ eu, upd_same, ?_, fun l2 hl2 => ?_⟩⟩
  · rw [List.length_map]
    show uas.length + 1 ≤ sizeLine
    exact k_le (by omega)
  · have s3 : Same H2 (upd (upd H2 l1 (.lst [.ref a])) l2 (.lst (uas.map V.ref ++ [.ref a]))) := (Same.new hl1).on hl2
    have bo3 : BkOk C (upd (upd H2 l1 (.lst [.ref a])) l2 (.lst (uas.map V.ref ++ [.ref a]))) (moreA (n, lt, lu, ts, us) l2 t) := by
      refine ⟨bo2.1.on s3, ⟨uas ++ [a], ?_, ?_⟩, ⟨fun u hu => ?_, ?_, bo2.2.2.items⟩⟩
      · rw [upd_same, List.map_append]
        rfl
      · exact pair_append (Paired.imp' (fun _ _ q => q.on s3) pu) (pair_one (hu2.on s3))
      · rcases List.mem_append.mp hu with q | q
        · exact bo2.2.2.tool u q
        · have q : u = silent t := by simpa using q
          rw [q]
          exact ht
      · show (us ++ [silent t]).length ≤ 40
        rw [List.length_append]
        show us.length + 1 ≤ 40
        omega
    have ev : valsA (moreA (n, lt, lu, ts, us) l2 t) = valsA (n, lt, lu, ts, us) + 1 := by
      show 1 + n + (us ++ [silent t]).length = 1 + n + us.length + 1
      rw [List.length_append]
      rfl
    have ek : ((uas.map V.ref).length : Int) = (us.length : Int) := by rw [List.length_map, hul]
    refine ⟨_, rfl, _, rfl, _, _, rfl, .inl (SqL.of (s3 _ _ eu)), (n, us.length), ?_, (moreA (n, lt, lu, ts, us) l2 t, 0, valsA (n, lt, lu, ts, us), z), ?_, bo3, ?_, ?_, ?_, ?_, fun H' q s4 e => k H' q ((s2.trans s3).trans s4) e⟩
    · show [V.int n, V.int ((uas.map V.ref).length : Int)] = [V.int n, V.int (us.length : Int)]
      rw [ek]
    · show [V.int n, V.ref lt, V.ref l2, V.int 0, V.int ((n + 1 + us.length : Nat) : Int)] = [V.int n, V.ref lt, V.ref l2, V.int 0, V.int ((1 + n + us.length : Nat) : Int)]
      rw [Nat.add_comm n 1]
    · rw [ev]
      exact hin
    · rw [ev]
      exact Nat.succ_pos _
    · rw [ev]
      exact Nat.lt_succ_self _
    · rw [ev]
      exact hb
end
end SbW
end
section
set_option maxHeartbeats 1000000
namespace SbW
open PySem PySem.Spec L2 SbX SbEnum
open PyProof.Rows hiding St
open SbText (ahead isDig isLet wl fl whole fraction number deviation grade Shp behindOf shapeOf)
open Ft (Bytes)
section
variable {P : Program} {w : World} {K : PySem.W.Frag} {mg : Str → Option Value} {base : Heap} {C : Cl}
/-! ### the fault -/
theorem sc_SizeFault_init : FnScope ["self", "kind", "place"] ["self", "kind", "place"] (defScope st_SizeFault_init) := ⟨rfl, rfl, rfl, by decide +kernel, rfl, by decide +kernel, by decide +kernel⟩
theorem D_SizeFault_init (T : Top K mg C) : FDef P w K mg base C := by
  obtain ⟨fd, F⟩ := T.i_SizeFault
  refine ⟨fd, F.binds (fun _ _ _ _ _ _ us hl => match us, hl with | [_, _, _], _ => rfl), ?_⟩
  refine F.ok sc_SizeFault_init (fun vs H Q E h => ?_) fun cdv A outer s H vs Q E hr h => ?_
  · obtain ⟨a, k, p, rfl, _⟩ := h
    rfl
  · obtain ⟨a, k, p, rfl, ha, q⟩ := h
    refine ⟨_, (pss_cons (ps_expr (pe_binit T.flt rfl T.n_ValueError (pa_cons (pv 0) (pa_cons (pv 1) (pa_cons (pv 2) pa_nil))) T.find_ve)) (pss_cons (ps_xfst T.flt (pv 0) (pv 1) rfl) (pss_one (ps_xmore T.flt (pv 0) (pv 2) rfl)))), ?_⟩
    refine ⟨_, rfl, _, rfl, _, rfl, a, _, rfl, (by show 2 ≤ 1000; decide), ha, _, rfl, _, rfl, a, rfl, ha, fun dx hdx hne => ?_⟩
    refine ⟨_, rfl, _, rfl, a, dx, _, rfl, ?_, upd_same, hne, (by show 1 < 1000; decide), ?_⟩
    · rw [upd_ne (Ne.symm hne), upd_same]
    · refine q dx _ hdx hne ?_ ?_ fun b o e n => ?_
      · rw [upd_ne (Ne.symm hne), upd_ne (Ne.symm hne), upd_same]
      · rw [upd_same]
        exact congrArg (fun z => some (dcO z dx)) (put_tl put_nil (by decide +kernel))
      · have nb : b ≠ dx := ne_of_none e hdx
        rw [upd_ne nb, upd_ne nb, upd_ne n]
        exact e
/-! ### the reader -/
def tx (b : Bytes) : List V := b.map fun (c : UInt8) => V.int (c.toNat : Int)
def rdF (a : Addr) (n : Nat) : List (Str × V) := [("text", .ref a), ("at", .int n)]
theorem l_Reader_text {a : Addr} {n : Nat} : (rdF a n).lookup ("text" : Str) = some (.ref a) := look_hd
theorem l_Reader_at {a : Addr} {n : Nat} : (rdF a n).lookup ("at" : Str) = some (.int n) := look_tl look_hd (by decide +kernel)
theorem no_Reader {a : Addr} {n : Nat} {m : Str} (h : (["text", "at"] : List Str).contains m = false) : (rdF a n).lookup m = none := look_none h
theorem put_at {a : Addr} {n m : Nat} {z : Int} (e : z = (m : Int)) : putF "at" (.int z) (rdF a n) = rdF a m := by
  subst e
  exact put_tl put_hd (by decide +kernel)
structure RdAt (C : Cl) (H : Hp) (p a : Addr) (b : Bytes) (n : Nat) : Prop where
  ob : ∃ dx, H p = some (.ins C.cR dx (rdF a n))
  tx : H a = some (.lst (tx b))
theorem RdAt.on {C : Cl} {H H' : Hp} {p a : Addr} {b : Bytes} {n : Nat} (h : RdAt C H p a b n) (s : Same H H') : RdAt C H' p a b n := let ⟨⟨dx, e⟩, t⟩ := h; ⟨⟨dx, s _ _ e⟩, s _ _ t⟩
theorem iteP {c A B : Prop} [Decidable c] (h : c) (a : A) : if c then A else B := by
  rw [if_pos h]
  exact a
theorem iteQ {c A B : Prop} [Decidable c] (h : ¬ c) (b : B) : if c then A else B := by
  rw [if_neg h]
  exact b
abbrev Rdr := Addr × Addr × Bytes × Nat
def sp_Reader_init (C : Cl) : Sp := SpOf (fun x : Addr × Addr => [.ref x.1, .ref x.2]) fun x H Q _ => ∃ dx, H x.1 = some (.ins C.cR dx []) ∧ ∀ H', H' x.1 = some (.ins C.cR dx (rdF x.2 0)) → Keep [x.1] H H' → Q .non H'
theorem sc_Reader_init : FnScope ["self", "text"] ["self", "text"] (defScope st_Reader_init) := ⟨rfl, rfl, rfl, by decide +kernel, rfl, by decide +kernel, by decide +kernel⟩
theorem D_Reader_init (T : Top K mg C) : IDef P w K mg base CX0 1 C.cR ["self", "text"] (sp_Reader_init C) := by
  refine idef_mk T.i_Reader (fun _ _ _ _ _ _ us hl => match us, hl with | [_, _], _ => rfl) sc_Reader_init (fun _ => rfl) fun f cdv A outer s H x Q E hr h => ?_
  obtain ⟨p, a⟩ := x
  try dsimp only at h
  obtain ⟨dx, hp, k⟩ := h
  refine ⟨_, (pss_cons (ps_fld (pv 0) (pv 1) rfl) (pss_one (ps_fld (pv 0) pe_int rfl))), ?_⟩
  refine ⟨_, rfl, _, rfl, p, _, dx, _, rfl, hp, T.k_Reader, T.a_Reader_text, (by show 0 < 1000; decide), _, rfl, p, _, dx, _, rfl, upd_same, T.k_Reader, T.a_Reader_at, (by show 1 < 1000; decide), ?_⟩
  refine k _ ?_ (((Keep.refl _ H).put (by simp)).put (by simp))
  rw [upd_same]
  rfl
def sp_Reader_ahead (C : Cl) : Sp := SpOf (fun x : Rdr => [.ref x.1]) fun x H Q _ => RdAt C H x.1 x.2.1 x.2.2.1 x.2.2.2 ∧ Q (.int (ahead x.2.2.1 x.2.2.2)) H
theorem sc_Reader_ahead : FnScope ["self"] ["self"] (defScope st_Reader_ahead) := ⟨rfl, rfl, rfl, by decide +kernel, rfl, by decide +kernel, by decide +kernel⟩
theorem D_Reader_ahead (T : Top K mg C) : MDef P w K mg base CX0 1 C.cR "ahead" ["self"] (sp_Reader_ahead C) := by
  refine mdef_mk T.m_Reader_ahead (fun _ _ _ _ _ _ us hl => match us, hl with | [_], _ => rfl) sc_Reader_ahead (fun _ => rfl) fun f cdv A outer s H x Q E hr h => ?_
  obtain ⟨p, a, b, n⟩ := x
  try dsimp only at h
  obtain ⟨⟨⟨dx, hp⟩, ha⟩, k⟩ := h
  refine ⟨_, (pss_cons (ps_if (pt_cmpR op_lt (pe_fld (pv 0) rfl) (pe_callB call_len_seq (by rfl) T.n_len PySem.boot_len (pa_cons (pe_fld (pv 0) rfl) pa_nil)) (nomark _)) (pss_one (ps_ret (pe_ix ix_list (pe_fld (pv 0) rfl) (pe_fld (pv 0) rfl) (fun _ _ => rfl)))) pss_nil) (pss_one (ps_ret (pc T.c_NOTHING)))), ?_⟩
  refine ⟨_, rfl, _, _, _, _, _, rfl, hp, T.k_Reader, T.a_Reader_at, l_Reader_at, _, rfl, _, _, _, _, _, rfl, hp, T.k_Reader, T.a_Reader_text, l_Reader_text, _, _, rfl, .inl (SqL.of ha), _, _, rfl, rfl, _, rfl, ifD (fun c => ?_) fun c => ?_⟩
  · have c : (n : Int) < ((tx b).length : Int) := c
    have hn : n < b.length := by
      unfold tx at c
      rw [List.length_map] at c
      omega
    have e := List.getElem?_eq_getElem hn
    refine ⟨_, rfl, _, _, _, _, _, rfl, hp, T.k_Reader, T.a_Reader_text, l_Reader_text, _, rfl, _, _, _, _, _, rfl, hp, T.k_Reader, T.a_Reader_at, l_Reader_at, _, _, _, _, rfl, rfl, SqL.of ha, at_of (j := n) (v := .int (ahead b n)) rfl ?_, k⟩
    unfold tx
    rw [List.getElem?_map, e, SbText.ahead_some e]
    rfl
  · have c : ¬ (n : Int) < ((tx b).length : Int) := c
    have hn : ¬ n < b.length := by
      unfold tx at c
      rw [List.length_map] at c
      omega
    refine int_eq k ?_
    exact SbText.ahead_none (List.getElem?_eq_none_iff.mpr (by omega))
def sp_Reader_demand (C : Cl) : Sp := SpOf (fun x : Rdr × Bool => [.ref x.1.1, .bl x.2]) fun x H Q E => RdAt C H x.1.1 x.1.2.1 x.1.2.2.1 x.1.2.2.2 ∧ if x.2 = true then Q .non H else Err C.cF E [x.1.1] H 1 (x.1.2.2.2 : Nat)
theorem sc_Reader_demand : FnScope ["self", "fine"] ["self", "fine"] (defScope st_Reader_demand) := ⟨rfl, rfl, rfl, by decide +kernel, rfl, by decide +kernel, by decide +kernel⟩
theorem D_Reader_demand (T : Top K mg C) : MDef P w K mg base (CXF P w C.cF) 3 C.cR "demand" ["self", "fine"] (sp_Reader_demand C) := by
  refine mdef_mkF T.m_Reader_demand (fun _ _ _ _ _ _ us hl => match us, hl with | [_, _], _ => rfl) sc_Reader_demand (fun _ => rfl) fun f cdv A outer s H x Q E hr h => ?_
  obtain ⟨⟨p, a, b, n⟩, c⟩ := x
  try dsimp only at h
  obtain ⟨⟨⟨dx, hp⟩, ha⟩, k⟩ := h
  refine ⟨_, (pss_one (ps_if (pt_not (pt_val (pv 1))) (pss_one (ps_faultD (D_SizeFault_init T) T (hr.mono (by decide)) (by rfl) (pa_cons pe_int (pa_cons (pe_fld (pv 0) rfl) pa_nil)))) pss_nil)), ?_⟩
  refine ⟨_, rfl, _, rfl, ifNB (fun e => ?_) fun e => ?_⟩
  · have e : c = false := e
    rw [e, if_neg (by decide)] at k
    exact ⟨_, rfl, _, _, _, _, _, rfl, hp, T.k_Reader, T.a_Reader_at, l_Reader_at, 1, n, rfl, k.raise⟩
  · have e : c = true := e
    rw [if_pos e] at k
    exact k
def sp_Reader_take (C : Cl) : Sp := SpOf (fun x : Rdr × Int => [.ref x.1.1, .int x.2]) fun x H Q E => RdAt C H x.1.1 x.1.2.1 x.1.2.2.1 x.1.2.2.2 ∧
  if ahead x.1.2.2.1 x.1.2.2.2 = x.2 then ∀ H', RdAt C H' x.1.1 x.1.2.1 x.1.2.2.1 (x.1.2.2.2 + 1) → Keep [x.1.1] H H' → Q .non H' else Err C.cF E [x.1.1] H 1 (x.1.2.2.2 : Nat)
/-- a step on -/
theorem rd_step {C : Cl} {H : Hp} {p a dx : Addr} {b : Bytes} {n m : Nat} {z : Int} (hp : H p = some (.ins C.cR dx (rdF a n))) (ha : H a = some (.lst (tx b))) (e : z = (m : Int)) : RdAt C (upd H p (.ins C.cR dx (putF "at" (.int z) (rdF a n)))) p a b m := by
  refine ⟨⟨dx, ?_⟩, ?_⟩
  · rw [upd_same, put_at e]
  · rw [upd_ne (ne_of ha hp (by intro q; cases q))]
    exact ha
theorem sc_Reader_take : FnScope ["self", "byte"] ["self", "byte"] (defScope st_Reader_take) := ⟨rfl, rfl, rfl, by decide +kernel, rfl, by decide +kernel, by decide +kernel⟩
theorem D_Reader_take (T : Top K mg C) : MDef P w K mg base (CXF P w C.cF) 4 C.cR "take" ["self", "byte"] (sp_Reader_take C) := by
  refine mdef_mkF T.m_Reader_take (fun _ _ _ _ _ _ us hl => match us, hl with | [_, _], _ => rfl) sc_Reader_take (fun _ => rfl) fun f cdv A outer s H x Q E hr h => ?_
  obtain ⟨⟨p, a, b, n⟩, c⟩ := x
  try dsimp only at h
  obtain ⟨R, k⟩ := h
  obtain ⟨⟨dx, hp⟩, ha⟩ := id R
  refine ⟨_, (pss_cons (ps_expr (pe_methD (pv 0) T.k_Reader (D_Reader_demand T) (hr.mono (by decide)) passF (pa_cons (pe_cmpR op_eq (pe_methD0 (pv 0) T.k_Reader (D_Reader_ahead T) (hr.mono (by decide)) pass0) (pv 1) (nomark _)) pa_nil))) (pss_one (ps_fld (pv 0) (pe_op op_add (pe_fld (pv 0) rfl) pe_int) rfl))), ?_⟩
  refine ⟨_, rfl, _, _, _, rfl, hp, no_Reader (by decide +kernel), _, rfl, _, _, _, rfl, hp, no_Reader (by decide +kernel), (p, a, b, n), rfl, R, _, rfl, rfl, ((p, a, b, n), _), rfl, R, ifD (fun e => ?_) fun e => ?_⟩
  · have e : ahead b n = c := V.int.inj e
    rw [if_pos e] at k
    refine ⟨_, rfl, _, _, _, _, _, rfl, hp, T.k_Reader, T.a_Reader_at, l_Reader_at, _, _, rfl, rfl, _, rfl, p, _, dx, _, rfl, hp, T.k_Reader, T.a_Reader_at, (by show 2 < 1000; decide), ?_⟩
    exact k _ (rd_step hp ha (by omega)) ((Keep.refl _ H).put (by simp))
  · have e : ¬ ahead b n = c := fun z => e (by show V.int _ = V.int _; rw [z])
    rw [if_neg e] at k
    exact k
def sp_Reader_take_digit (C : Cl) : Sp := SpOf (fun x : Rdr => [.ref x.1]) fun x H Q E => RdAt C H x.1 x.2.1 x.2.2.1 x.2.2.2 ∧
  if isDig (ahead x.2.2.1 x.2.2.2) then ∀ H', RdAt C H' x.1 x.2.1 x.2.2.1 (x.2.2.2 + 1) → Keep [x.1] H H' → Q (.int (ahead x.2.2.1 x.2.2.2 - 48)) H' else Err C.cF E [x.1] H 1 (x.2.2.2 : Nat)
def sp_is_digit : Sp := SpOf (fun n : Int => [.int n]) fun n H Q _ => Q (.bl (decide (isDig n))) H
theorem sc_is_digit : FnScope ["byte"] ["byte"] (defScope st_is_digit) := ⟨rfl, rfl, rfl, by decide +kernel, rfl, by decide +kernel, by decide +kernel⟩
theorem D_is_digit (T : Top K mg C) : Def P w K mg base CX0 1 "is_digit" ["byte"] sp_is_digit := by
  refine def_mk T.f_is_digit (fun _ _ _ _ _ _ us hl => match us, hl with | [_], _ => rfl) sc_is_digit (fun _ => rfl) fun f cdv A outer s H n Q E hr h => ?_
  refine ⟨_, (pss_one (ps_ret (pe_chain op_le op_le (pc T.c_DIGIT_0) (pv 0) (pc T.c_DIGIT_9)))), ?_⟩
  refine ⟨_, rfl, _, _, rfl, rfl, _, rfl, ifD (fun c => ⟨_, _, rfl, rfl, bl_eq h ?_⟩) fun c => bl_eq h ?_⟩
  · have c : (48 : Int) ≤ n := c
    exact decide_eq_decide.mpr ⟨fun z => z.2, fun z => ⟨c, z⟩⟩
  · have c : ¬ (48 : Int) ≤ n := c
    exact decide_eq_false fun z => c z.1
def sp_is_letter : Sp := SpOf (fun n : Int => [.int n]) fun n H Q _ => Q (.bl (decide (isLet n))) H
theorem sc_is_letter : FnScope ["byte"] ["byte"] (defScope st_is_letter) := ⟨rfl, rfl, rfl, by decide +kernel, rfl, by decide +kernel, by decide +kernel⟩
theorem D_is_letter (T : Top K mg C) : Def P w K mg base CX0 1 "is_letter" ["byte"] sp_is_letter := by
  refine def_mk T.f_is_letter (fun _ _ _ _ _ _ us hl => match us, hl with | [_], _ => rfl) sc_is_letter (fun _ => rfl) fun f cdv A outer s H n Q E hr h => ?_
  refine ⟨_, (pss_one (ps_ret (pe_or (pe_chain op_le op_le pe_int (pv 0) pe_int) (pe_one (pe_chain op_le op_le pe_int (pv 0) pe_int))))), ?_⟩
  have two : ∀ v : Bool, v = decide ((97 : Int) ≤ n ∧ n ≤ 122) → ¬ ((65 : Int) ≤ n ∧ n ≤ 90) → Q (.bl v) H := fun v e c => bl_eq h (by
    rw [e]
    exact decide_eq_decide.mpr ⟨fun z => z.elim (fun y => (c y).elim) id, .inr⟩)
  have snd : ¬ ((65 : Int) ≤ n ∧ n ≤ 90) → ∃ v, [some (V.int n)][0]? = some (some v) ∧ ∃ i j, V.int 97 = .int i ∧ v = .int j ∧ ∃ k, V.bl (decide (i ≤ j)) = .bl k ∧ if k = true then ∃ i' j', v = .int i' ∧ V.int 122 = .int j' ∧ Q (.bl (decide (i' ≤ j'))) H else Q (.bl false) H := fun c =>
    ⟨_, rfl, _, _, rfl, rfl, _, rfl, ifD (fun d => ⟨_, _, rfl, rfl, two _ (decide_eq_decide.mpr ⟨fun z => ⟨d, z⟩, fun z => z.2⟩) c⟩) fun d => two _ (decide_eq_false fun z => d z.1).symm c⟩
  refine ⟨_, rfl, _, _, rfl, rfl, _, rfl, ifD (fun c => ⟨_, _, rfl, rfl, _, rfl, ifD (fun d => ?_) fun d => snd fun z => d z.2⟩) fun c => ⟨_, rfl, iteF (snd fun z => c z.1)⟩⟩
  exact bl_eq h (decide_eq_true (Or.inl ⟨c, d⟩))
theorem sc_Reader_take_digit : FnScope ["self", "byte"] ["self"] (defScope st_Reader_take_digit) := ⟨rfl, rfl, rfl, by decide +kernel, rfl, by decide +kernel, by decide +kernel⟩
theorem D_Reader_take_digit (T : Top K mg C) : MDef P w K mg base (CXF P w C.cF) 4 C.cR "take_digit" ["self"] (sp_Reader_take_digit C) := by
  refine mdef_mkF T.m_Reader_take_digit (fun _ _ _ _ _ _ us hl => match us, hl with | [_], _ => rfl) sc_Reader_take_digit (fun _ => rfl) fun f cdv A outer s H x Q E hr h => ?_
  obtain ⟨p, a, b, n⟩ := x
  try dsimp only at h
  obtain ⟨R, k⟩ := h
  obtain ⟨⟨dx, hp⟩, ha⟩ := id R
  refine ⟨_, (pss_cons (ps_set (i := 1) sc_Reader_take_digit.nd rfl (Or.inl rfl) (pe_methD0 (pv 0) T.k_Reader (D_Reader_ahead T) (hr.mono (by decide)) pass0)) (pss_cons (ps_expr (pe_methD (pv 0) T.k_Reader (D_Reader_demand T) (hr.mono (by decide)) passF (pa_cons (pe_callD (D_is_digit T) (hr.mono (by decide)) (by rfl) pass0 (pa_cons (pv 1) pa_nil)) pa_nil))) (pss_cons (ps_fld (pv 0) (pe_op op_add (pe_fld (pv 0) rfl) pe_int) rfl) (pss_one (ps_ret (pe_op op_sub (pv 1) (pc T.c_DIGIT_0))))))), ?_⟩
  refine ⟨_, rfl, _, _, _, rfl, hp, no_Reader (by decide +kernel), (p, a, b, n), rfl, R, _, rfl, _, _, _, rfl, hp, no_Reader (by decide +kernel), _, rfl, _, rfl, ((p, a, b, n), _), rfl, R, ifD (fun e => ?_) fun e => ?_⟩
  · have e : isDig (ahead b n) := e
    rw [if_pos e] at k
    refine ⟨_, rfl, _, _, _, _, _, rfl, hp, T.k_Reader, T.a_Reader_at, l_Reader_at, _, _, rfl, rfl, _, rfl, p, _, dx, _, rfl, hp, T.k_Reader, T.a_Reader_at, (by show 2 < 1000; decide), ?_⟩
    exact ⟨_, rfl, _, _, rfl, rfl, k _ (rd_step hp ha (by omega)) ((Keep.refl _ H).put (by simp))⟩
  · have e : ¬ isDig (ahead b n) := e
    rw [if_neg e] at k
    exact k
end
end SbW
end
section
set_option maxHeartbeats 1000000
namespace SbW
open PySem PySem.Spec L2 SbX SbEnum
open PyProof.Rows hiding St
open SbText (ahead isDig isLet wl fl whole fraction number deviation grade Shp behindOf shapeOf)
open Ft (Bytes)
theorem wl_stop {b : Bytes} {f q : Nat} {v : Int} (h : f = 0 ∨ ¬ (0 < v ∧ isDig (ahead b q))) : wl b f q v = (v, q) := by
  cases f with
  | zero => rfl
  | succ f =>
    rcases h with h | h
    · cases h
    · unfold wl
      rw [if_neg h]
theorem wl_on {b : Bytes} {f q : Nat} {v : Int} (h : 0 < v ∧ isDig (ahead b q)) : wl b (f + 1) q v = wl b f (q + 1) (v * 10 + (ahead b q - 48)) := by
  conv => lhs; unfold wl
  rw [if_pos h]
theorem fl_stop {b : Bytes} {j q : Nat} {tk d : Int} (h : j = 0 ∨ ¬ (d = 0 ∨ isDig (ahead b q))) : fl b j q tk d = .ok (tk, d, q) := by
  cases j with
  | zero => rfl
  | succ j =>
    rcases h with h | h
    · cases h
    · unfold fl
      rw [if_neg h]
theorem fl_on {b : Bytes} {j q : Nat} {tk d : Int} (h : d = 0 ∨ isDig (ahead b q)) (h2 : isDig (ahead b q)) : fl b (j + 1) q tk d = fl b j (q + 1) (tk + (ahead b q - 48) * 10 ^ j) (ahead b q - 48) := by
  conv => lhs; unfold fl
  rw [if_pos h, if_pos h2]
theorem fl_bad {b : Bytes} {j q : Nat} {tk d : Int} (h : d = 0 ∨ isDig (ahead b q)) (h2 : ¬ isDig (ahead b q)) : fl b (j + 1) q tk d = .error q := by
  unfold fl
  rw [if_pos h, if_neg h2]
theorem kt {xs : List Addr} {H H1 H2 : Hp} (a : Keep xs H H1) (b : Keep xs H1 H2) : Keep xs H H2 := a.trans b
section
variable {P : Program} {w : World} {K : PySem.W.Frag} {mg : Str → Option Value} {base : Heap} {C : Cl}
/-- what a reader's number comes to -/
def NumQ (C : Cl) (H : Hp) (Q : VK) (E : XK) (p a : Addr) (b : Bytes) (r : Except Nat (Int × Nat)) : Prop := match r with
  | .ok x => ∀ H', RdAt C H' p a b x.2 → Keep [p] H H' → Q (.int x.1) H'
  | .error q => Err C.cF E [p] H 1 (q : Nat)
def sp_Reader_take_whole (C : Cl) : Sp := SpOf (fun x : Rdr => [.ref x.1]) fun x H Q E => RdAt C H x.1 x.2.1 x.2.2.1 x.2.2.2 ∧ NumQ C H Q E x.1 x.2.1 x.2.2.1 (whole x.2.2.1 x.2.2.2)
theorem sc_Reader_take_whole : FnScope ["self", "whole", "digits"] ["self"] (defScope st_Reader_take_whole) := ⟨rfl, rfl, rfl, by decide +kernel, rfl, by decide +kernel, by decide +kernel⟩
theorem D_Reader_take_whole (T : Top K mg C) : MDef P w K mg base (CXF P w C.cF) 5 C.cR "take_whole" ["self"] (sp_Reader_take_whole C) := by
  refine mdef_mkF T.m_Reader_take_whole (fun _ _ _ _ _ _ us hl => match us, hl with | [_], _ => rfl) sc_Reader_take_whole (fun _ => rfl) fun fa cdv A outer s H x Q E hr h => ?_
  obtain ⟨p, a, b, n⟩ := x
  try dsimp only at h
  obtain ⟨R, k⟩ := h
  obtain ⟨⟨dx, hp⟩, ha⟩ := id R
  refine ⟨_, (pss_cons (ps_set (i := 1) sc_Reader_take_whole.nd rfl (Or.inl rfl) (pe_methD0 (pv 0) T.k_Reader (D_Reader_take_digit T) (hr.mono (by decide)) passF)) (pss_cons (ps_set (i := 2) sc_Reader_take_whole.nd rfl (Or.inl rfl) pe_int) (pss_cons (ps_while ownF (PW.pt (pw_and (pt_cmpR op_gt (pv 1) pe_int (nomark _)) (pw_and (pt_cmpR op_lt (pv 2) (pc T.c_MOST_WHOLE_DIGITS) (nomark _)) (pw_and1 (pt_val (pe_callD (D_is_digit T) (hr.mono (by decide)) (by rfl) pass0 (pa_cons (pe_methD0 (pv 0) T.k_Reader (D_Reader_ahead T) (hr.mono (by decide)) pass0) pa_nil))))))) (pss_cons (ps_set (i := 1) sc_Reader_take_whole.nd rfl (Or.inl rfl) (pe_op op_add (pe_op op_mul (pv 1) pe_int) (pe_methD0 (pv 0) T.k_Reader (D_Reader_take_digit T) (hr.mono (by decide)) passF))) (pss_one (ps_set (i := 2) sc_Reader_take_whole.nd rfl (Or.inl rfl) (pe_op op_add (pv 2) pe_int))))) (pss_one (ps_ret (pv 1)))))), ?_⟩
  refine ⟨_, rfl, _, _, _, rfl, hp, no_Reader (by decide +kernel), (p, a, b, n), rfl, R, ?_⟩
  by_cases hd : isDig (ahead b n)
  · rw [show whole b n = .ok (wl b 8 (n + 1) (ahead b n - 48)) by simp only [whole, if_pos hd]] at k
    have k : ∀ H', RdAt C H' p a b (wl b 8 (n + 1) (ahead b n - 48)).2 → Keep [p] H H' → Q (.int (wl b 8 (n + 1) (ahead b n - 48)).1) H' := k
    refine iteP hd fun H1 R1 k1 => ?_
    refine while_on (fun f σ H' => ∃ (q : Nat) (v : Int), σ = [some (.ref p), some (.int v), some (.int ((9 - f : Nat) : Int))] ∧ f ≤ 8 ∧ RdAt C H' p a b q ∧ Keep [p] H H' ∧ wl b f q v = wl b 8 (n + 1) (ahead b n - 48))
      ⟨8, n + 1, ahead b n - 48, rfl, Nat.le_refl _, R1, k1, rfl⟩ ?_
    rintro f σ H2 ⟨q, v, rfl, hf, R2, k2, e2⟩
    obtain ⟨⟨dx2, hp2⟩, ha2⟩ := id R2
    have fin : (f = 0 ∨ ¬ (0 < v ∧ isDig (ahead b q))) → Q (.int v) H2 := fun c => by
      rw [wl_stop c] at e2
      rw [← e2] at k
      exact k H2 R2 k2
    refine ⟨_, rfl, _, _, rfl, rfl, _, rfl, ifD (fun c1 => ⟨_, rfl, _, _, rfl, rfl, _, rfl, ifD (fun c2 => ⟨_, rfl, _, _, _, rfl, hp2, no_Reader (by decide +kernel), (p, a, b, q), rfl, R2, ahead b q, rfl, _, rfl, wkD (fun c3 => ?_) fun c3 => ⟨_, rfl, fin (.inr fun z => c3 z.2)⟩⟩) fun c2 => wkF ⟨_, rfl, fin (.inl ?_)⟩⟩) fun c1 => wkF ⟨_, rfl, fin (.inr fun z => c1 z.1)⟩⟩
    · have c1 : (0 : Int) < v := c1
      have c2 : ((9 - f : Nat) : Int) < 9 := c2
      have c3 : isDig (ahead b q) := c3
      obtain ⟨g, rfl⟩ : ∃ g, f = g + 1 := ⟨f - 1, by omega⟩
      refine ⟨_, rfl, _, _, rfl, rfl, .inr ⟨by decide, by decide⟩, _, rfl, _, _, _, rfl, hp2, no_Reader (by decide +kernel), (p, a, b, q), rfl, R2, iteP c3 fun H3 R3 k3 => ⟨_, _, rfl, rfl, _, rfl, _, _, rfl, rfl, ?_⟩⟩
      refine ⟨g, by omega, q + 1, v * 10 + (ahead b q - 48), ?_, by omega, R3, kt k2 k3, by rw [← e2, wl_on ⟨c1, c3⟩]⟩
      show [some (V.ref p), some (V.int (v * 10 + (ahead b q - 48))), some (V.int (((9 - (g + 1) : Nat) : Int) + 1))] = [some (V.ref p), some (V.int (v * 10 + (ahead b q - 48))), some (V.int ((9 - g : Nat) : Int))]
      rw [show ((9 - (g + 1) : Nat) : Int) + 1 = ((9 - g : Nat) : Int) by omega]
    · have c2 : ¬ ((9 - f : Nat) : Int) < 9 := c2
      omega
  · rw [show whole b n = .error n by simp only [whole, if_neg hd]] at k
    exact iteQ hd k
def sp_Reader_take_fraction (C : Cl) : Sp := SpOf (fun x : Rdr => [.ref x.1]) fun x H Q E => RdAt C H x.1 x.2.1 x.2.2.1 x.2.2.2 ∧ NumQ C H Q E x.1 x.2.1 x.2.2.1 (fraction x.2.2.1 x.2.2.2)
def wor : Nat → Int
  | 0 => 0
  | j + 1 => 10 ^ j
theorem wor_next {j : Nat} (h : j ≤ 4) : wor j / 10 = wor (j - 1) := by
  match j, h with
  | 0, _ => rfl
  | 1, _ => rfl
  | 2, _ => rfl
  | 3, _ => rfl
  | 4, _ => rfl
theorem wor_pos {j : Nat} : (0 < wor j) ↔ j ≠ 0 := by
  cases j with
  | zero => simp [wor]
  | succ j =>
    have : (0 : Int) < 10 ^ j := SbText.pow10_pos j
    simp [wor, this]
theorem wor_small {j : Nat} (h : j ≤ 4) : wor j ≤ 1000 ∧ 0 ≤ wor j := by
  match j, h with
  | 0, _ => decide
  | 1, _ => decide
  | 2, _ => decide
  | 3, _ => decide
  | 4, _ => decide
theorem sc_Reader_take_fraction : FnScope ["self", "ticks", "worth", "digit"] ["self"] (defScope st_Reader_take_fraction) := ⟨rfl, rfl, rfl, by decide +kernel, rfl, by decide +kernel, by decide +kernel⟩
theorem D_Reader_take_fraction (T : Top K mg C) : MDef P w K mg base (CXF P w C.cF) 5 C.cR "take_fraction" ["self"] (sp_Reader_take_fraction C) := by
  refine mdef_mkF T.m_Reader_take_fraction (fun _ _ _ _ _ _ us hl => match us, hl with | [_], _ => rfl) sc_Reader_take_fraction (fun _ => rfl) fun fa cdv A outer s H x Q E hr h => ?_
  obtain ⟨p, a, b, n⟩ := x
  try dsimp only at h
  obtain ⟨R, k⟩ := h
  refine ⟨_, (pss_cons (ps_set (i := 1) sc_Reader_take_fraction.nd rfl (Or.inl rfl) pe_int) (pss_cons (ps_set (i := 2) sc_Reader_take_fraction.nd rfl (Or.inl rfl) (pe_op op_fdiv (pc T.c_TICKS) pe_int)) (pss_cons (ps_set (i := 3) sc_Reader_take_fraction.nd rfl (Or.inl rfl) pe_int) (pss_cons (ps_while ownF (PW.pt (pw_and (pt_cmpR op_gt (pv 2) pe_int (nomark _)) (pw_and1 (PW.pt (pw_or (pt_cmpR op_eq (pv 3) pe_int (nomark _)) (pw_or1 (pt_val (pe_callD (D_is_digit T) (hr.mono (by decide)) (by rfl) pass0 (pa_cons (pe_methD0 (pv 0) T.k_Reader (D_Reader_ahead T) (hr.mono (by decide)) pass0) pa_nil))))))))) (pss_cons (ps_set (i := 3) sc_Reader_take_fraction.nd rfl (Or.inl rfl) (pe_methD0 (pv 0) T.k_Reader (D_Reader_take_digit T) (hr.mono (by decide)) passF)) (pss_cons (ps_set (i := 1) sc_Reader_take_fraction.nd rfl (Or.inl rfl) (pe_op op_add (pv 1) (pe_op op_mul (pv 3) (pv 2)))) (pss_one (ps_set (i := 2) sc_Reader_take_fraction.nd rfl (Or.inl rfl) (pe_op op_fdiv (pv 2) pe_int)))))) (pss_cons (ps_if (pt_cmpR op_eq (pv 3) pe_int (nomark _)) (pss_one (ps_faultD (D_SizeFault_init T) T (hr.mono (by decide)) (by rfl) (pa_cons pe_int (pa_cons (pe_op op_sub (pe_fld (pv 0) rfl) pe_int) pa_nil)))) pss_nil) (pss_one (ps_ret (pv 1)))))))), ?_⟩
  refine ⟨_, _, rfl, rfl, ⟨by decide, by decide⟩, ?_⟩
  refine while_on (fun j σ H' => ∃ (q : Nat) (tk d : Int), σ = [some (.ref p), some (.int tk), some (.int (wor j)), some (.int d)] ∧ j ≤ 4 ∧ q = n + (4 - j) ∧ RdAt C H' p a b q ∧ Keep [p] H H' ∧ fl b j q tk d = fl b 4 n 0 0)
    ⟨4, n, 0, 0, rfl, Nat.le_refl _, rfl, R, Keep.refl _ _, rfl⟩ ?_
  rintro j σ H2 ⟨q, tk, d, rfl, hj, hq, R2, k2, e2⟩
  obtain ⟨⟨dx2, hp2⟩, ha2⟩ := id R2
  have hw := wor_small hj
  have fin : ∀ {D : Prop}, (j = 0 ∨ ¬ (d = 0 ∨ isDig (ahead b q))) → ((d = 0 → Err C.cF E [p] H 1 ((q : Int) - 1)) → (¬ d = 0 → Q (.int tk) H2) → D) → D := fun c g => by
    rw [fl_stop c] at e2
    unfold fraction at k
    rw [← e2] at k
    refine g (fun z => ?_) fun z => ?_
    · have k : NumQ C H Q E p a b (if d = 0 then .error (q - 1) else .ok (tk, q)) := k
      rw [if_pos z] at k
      have h0 : j = 0 := c.resolve_right fun y => y (.inl z)
      have e : ((q - 1 : Nat) : Int) = (q : Int) - 1 := by omega
      have k : Err C.cF E [p] H 1 ((q - 1 : Nat) : Int) := k
      rw [e] at k
      exact k
    · have k : NumQ C H Q E p a b (if d = 0 then .error (q - 1) else .ok (tk, q)) := k
      rw [if_neg z] at k
      exact k H2 R2 k2
  have out : (j = 0 ∨ ¬ (d = 0 ∨ isDig (ahead b q))) → ∀ {A B : Prop}, ((∀ dx H3, H2 dx = none → H3 dx = some (dcO (kp 1 ((q : Int) - 1)) dx) → Same H2 H3 → E (.ref C.cF) (some dx) H3) → A) → (Q (.int tk) H2 → B) → if decide (V.int d = V.int 0) = true then A else B := fun c A B gA gB =>
    fin c fun g1 g2 => ifE (fun z => gA (Err.raise ((g1 z).on k2 fun _ y => y))) fun z => gB (g2 z)
  refine ⟨_, rfl, _, _, rfl, rfl, _, rfl, ifD (fun c1 => ⟨_, rfl, rfl, _, rfl, ifE (fun c2 => ?_) fun c2 => ?_⟩) fun c1 => wkF ?_⟩
  · have c1 : (0 : Int) < wor j := c1
    obtain ⟨g, rfl⟩ : ∃ g, j = g + 1 := ⟨j - 1, by have := wor_pos.mp c1; omega⟩
    refine wkT ⟨_, rfl, _, _, _, rfl, hp2, no_Reader (by decide +kernel), (p, a, b, q), rfl, R2, ?_⟩
    by_cases c3 : isDig (ahead b q)
    · refine iteP c3 fun H3 R3 k3 => ?_
      refine ⟨_, rfl, _, rfl, _, rfl, _, _, rfl, rfl, .inr ⟨by omega, by omega⟩, _, _, rfl, rfl, _, rfl, _, _, rfl, rfl, ⟨by decide, by decide⟩, ?_⟩
      refine ⟨g, by omega, q + 1, tk + (ahead b q - 48) * 10 ^ g, ahead b q - 48, ?_, by omega, by omega, R3, kt k2 k3, by rw [← e2, fl_on (.inr c3) c3]⟩
      show [some (V.ref p), some (V.int (tk + (ahead b q - 48) * wor (g + 1))), some (V.int (wor (g + 1) / 10)), some (V.int (ahead b q - 48))] = _
      rw [wor_next hj]
      rfl
    · rw [fl_bad (.inl c2) c3] at e2
      unfold fraction at k
      rw [← e2] at k
      have k : Err C.cF E [p] H 1 (q : Nat) := k
      exact iteQ c3 (k.on k2 fun _ y => y)
  · refine ⟨_, rfl, _, _, _, rfl, hp2, no_Reader (by decide +kernel), (p, a, b, q), rfl, R2, ahead b q, rfl, _, rfl, wkD (fun c3 => ?_) fun c3 => ?_⟩
    · have c1 : (0 : Int) < wor j := c1
      have c3 : isDig (ahead b q) := c3
      obtain ⟨g, rfl⟩ : ∃ g, j = g + 1 := ⟨j - 1, by have := wor_pos.mp c1; omega⟩
      refine ⟨_, rfl, _, _, _, rfl, hp2, no_Reader (by decide +kernel), (p, a, b, q), rfl, R2, iteP c3 fun H3 R3 k3 => ?_⟩
      refine ⟨_, rfl, _, rfl, _, rfl, _, _, rfl, rfl, .inr ⟨by omega, by omega⟩, _, _, rfl, rfl, _, rfl, _, _, rfl, rfl, ⟨by decide, by decide⟩, ?_⟩
      refine ⟨g, by omega, q + 1, tk + (ahead b q - 48) * 10 ^ g, ahead b q - 48, ?_, by omega, by omega, R3, kt k2 k3, by rw [← e2, fl_on (.inr c3) c3]⟩
      show [some (V.ref p), some (V.int (tk + (ahead b q - 48) * wor (g + 1))), some (V.int (wor (g + 1) / 10)), some (V.int (ahead b q - 48))] = _
      rw [wor_next hj]
      rfl
    · refine ⟨_, rfl, rfl, _, rfl, out (.inr fun z => z.elim (fun y => c2 (by rw [y])) c3) (fun g => ⟨_, rfl, _, _, _, _, _, rfl, hp2, T.k_Reader, T.a_Reader_at, l_Reader_at, _, _, rfl, rfl, 1, _, rfl, g⟩) fun g => ⟨_, rfl, g⟩⟩
  · have c1 : ¬ (0 : Int) < wor j := c1
    refine ⟨_, rfl, rfl, _, rfl, out (.inl ?_) (fun g => ⟨_, rfl, _, _, _, _, _, rfl, hp2, T.k_Reader, T.a_Reader_at, l_Reader_at, _, _, rfl, rfl, 1, _, rfl, g⟩) fun g => ⟨_, rfl, g⟩⟩
    by_cases z : j = 0
    · exact z
    · exact (c1 (wor_pos.mpr z)).elim
end
end SbW
end
section
set_option maxHeartbeats 1000000
namespace SbW
open PySem PySem.Spec L2 SbX SbEnum
open PyProof.Rows hiding St
open SbText (ahead isDig isLet wl fl whole fraction number deviation grade Shp behindOf shapeOf)
open Ft (Bytes)
theorem two_le' : 2 ≤ sizeLine := by decide
section
variable {P : Program} {w : World} {K : PySem.W.Frag} {mg : Str → Option Value} {base : Heap} {C : Cl}
def sp_Reader_take_number (C : Cl) : Sp := SpOf (fun x : Rdr => [.ref x.1]) fun x H Q E => RdAt C H x.1 x.2.1 x.2.2.1 x.2.2.2 ∧ NumQ C H Q E x.1 x.2.1 x.2.2.1 (number x.2.2.1 x.2.2.2)
theorem sc_Reader_take_number : FnScope ["self", "ticks"] ["self"] (defScope st_Reader_take_number) := ⟨rfl, rfl, rfl, by decide +kernel, rfl, by decide +kernel, by decide +kernel⟩
theorem D_Reader_take_number (T : Top K mg C) : MDef P w K mg base (CXF P w C.cF) 6 C.cR "take_number" ["self"] (sp_Reader_take_number C) := by
  refine mdef_mkF T.m_Reader_take_number (fun _ _ _ _ _ _ us hl => match us, hl with | [_], _ => rfl) sc_Reader_take_number (fun _ => rfl) fun fa cdv A outer s H x Q E hr h => ?_
  obtain ⟨p, a, b, n⟩ := x
  try dsimp only at h
  obtain ⟨R, k⟩ := h
  obtain ⟨⟨dx, hp⟩, ha⟩ := id R
  refine ⟨_, (pss_cons (ps_set (i := 1) sc_Reader_take_number.nd rfl (Or.inl rfl) (pe_op op_mul (pe_methD0 (pv 0) T.k_Reader (D_Reader_take_whole T) (hr.mono (by decide)) passF) (pc T.c_TICKS))) (pss_cons (ps_if (pt_cmpR op_eq (pe_methD0 (pv 0) T.k_Reader (D_Reader_ahead T) (hr.mono (by decide)) pass0) (pc T.c_POINT) (nomark _)) (pss_cons (ps_expr (pe_methD (pv 0) T.k_Reader (D_Reader_take T) (hr.mono (by decide)) passF (pa_cons (pc T.c_POINT) pa_nil))) (pss_one (ps_set (i := 1) sc_Reader_take_number.nd rfl (Or.inl rfl) (pe_op op_add (pv 1) (pe_methD0 (pv 0) T.k_Reader (D_Reader_take_fraction T) (hr.mono (by decide)) passF))))) pss_nil) (pss_one (ps_ret (pv 1))))), ?_⟩
  refine ⟨_, rfl, _, _, _, rfl, hp, no_Reader (by decide +kernel), (p, a, b, n), rfl, R, ?_⟩
  unfold number at k
  cases ew : whole b n with
  | error q =>
    rw [ew] at k
    exact k
  | ok y =>
    obtain ⟨v, p1⟩ := y
    rw [ew] at k
    simp only at k
    refine fun H1 R1 k1 => ?_
    obtain ⟨⟨dx1, hp1⟩, ha1⟩ := id R1
    refine ⟨_, _, rfl, rfl, .inr ⟨by decide, by decide⟩, ?_⟩
    refine ⟨_, rfl, _, _, _, rfl, hp1, no_Reader (by decide +kernel), (p, a, b, p1), rfl, R1, rfl, _, rfl, ifE (fun c => ?_) fun c => ?_⟩
    · have c : ahead b p1 = 46 := c
      rw [if_pos c] at k
      refine ⟨_, rfl, _, _, _, rfl, hp1, no_Reader (by decide +kernel), ((p, a, b, p1), 46), rfl, R1, iteP c fun H2 R2 k2 => ?_⟩
      obtain ⟨⟨dx2, hp2⟩, ha2⟩ := id R2
      refine ⟨_, rfl, _, rfl, _, _, _, rfl, hp2, no_Reader (by decide +kernel), (p, a, b, p1 + 1), rfl, R2, ?_⟩
      show NumQ C H2 _ E p a b (fraction b (p1 + 1))
      cases ef : fraction b (p1 + 1) with
      | error q =>
        rw [ef] at k
        exact Err.on k (kt k1 k2) fun _ y => y
      | ok y =>
        obtain ⟨tk, p2⟩ := y
        rw [ef] at k
        exact fun H3 R3 k3 => ⟨_, _, rfl, rfl, _, rfl, k H3 R3 (kt (kt k1 k2) k3)⟩
    · have c : ¬ ahead b p1 = 46 := c
      rw [if_neg c] at k
      exact ⟨_, rfl, k H1 R1 k1⟩
/-! ### deviations -/
def DevQ (C : Cl) (H : Hp) (Q : VK) (E : XK) (p a : Addr) (b : Bytes) (r : Except Nat (Int × Nat × Nat)) : Prop := match r with
  | .ok x => ∀ H' t, RdAt C H' p a b x.2.2 → Keep [p] H H' → H' t = some (.tup [.int x.1, .int (x.2.1 : Nat)]) → Q (.ref t) H'
  | .error q => Err C.cF E [p] H 1 (q : Nat)
def sp_Reader_take_deviation (C : Cl) : Sp := SpOf (fun x : Rdr => [.ref x.1]) fun x H Q E => RdAt C H x.1 x.2.1 x.2.2.1 x.2.2.2 ∧ DevQ C H Q E x.1 x.2.1 x.2.2.1 (deviation x.2.2.1 x.2.2.2)
theorem sc_Reader_take_deviation : FnScope ["self", "sign", "place", "ticks"] ["self"] (defScope st_Reader_take_deviation) := ⟨rfl, rfl, rfl, by decide +kernel, rfl, by decide +kernel, by decide +kernel⟩
theorem D_Reader_take_deviation (T : Top K mg C) : MDef P w K mg base (CXF P w C.cF) 7 C.cR "take_deviation" ["self"] (sp_Reader_take_deviation C) := by
  refine mdef_mkF T.m_Reader_take_deviation (fun _ _ _ _ _ _ us hl => match us, hl with | [_], _ => rfl) sc_Reader_take_deviation (fun _ => rfl) fun fa cdv A outer s H x Q E hr h => ?_
  obtain ⟨p, a, b, n⟩ := x
  try dsimp only at h
  obtain ⟨R, k⟩ := h
  obtain ⟨⟨dx, hp⟩, ha⟩ := id R
  refine ⟨_, (pss_cons (ps_set (i := 1) sc_Reader_take_deviation.nd rfl (Or.inl rfl) (pe_methD0 (pv 0) T.k_Reader (D_Reader_ahead T) (hr.mono (by decide)) pass0)) (pss_cons (ps_expr (pe_methD (pv 0) T.k_Reader (D_Reader_demand T) (hr.mono (by decide)) passF (pa_cons (pe_or (pe_cmpR op_eq (pv 1) (pc T.c_PLUS) (nomark _)) (pe_one (pe_cmpR op_eq (pv 1) (pc T.c_MINUS) (nomark _)))) pa_nil))) (pss_cons (ps_expr (pe_methD (pv 0) T.k_Reader (D_Reader_take T) (hr.mono (by decide)) passF (pa_cons (pv 1) pa_nil))) (pss_cons (ps_set (i := 2) sc_Reader_take_deviation.nd rfl (Or.inl rfl) (pe_fld (pv 0) rfl)) (pss_cons (ps_set (i := 3) sc_Reader_take_deviation.nd rfl (Or.inl rfl) (pe_methD0 (pv 0) T.k_Reader (D_Reader_take_number T) (hr.mono (by decide)) passF)) (pss_cons (ps_if (pt_cmpR op_eq (pv 1) (pc T.c_PLUS) (nomark _)) (pss_one (ps_ret (pe_tup (pa_cons (pv 3) (pa_cons (pv 2) pa_nil))))) pss_nil) (pss_cons (ps_expr (pe_methD (pv 0) T.k_Reader (D_Reader_demand T) (hr.mono (by decide)) passF (pa_cons (pe_cmpR op_gt (pv 3) pe_int (nomark _)) pa_nil))) (pss_one (ps_ret (pe_tup (pa_cons (pe_un un_neg (pv 3)) (pa_cons (pv 2) pa_nil)))))))))))), ?_⟩
  unfold deviation at k
  refine ⟨_, rfl, _, _, _, rfl, hp, no_Reader (by decide +kernel), (p, a, b, n), rfl, R, _, rfl, _, _, _, rfl, hp, no_Reader (by decide +kernel), _, rfl, rfl, _, rfl, ifE (fun c1 => ⟨((p, a, b, n), true), rfl, R, iteT ?_⟩) fun c1 => ⟨_, rfl, rfl, ((p, a, b, n), _), rfl, R, ifD (fun c2 => ?_) fun c2 => ?_⟩⟩
  · have c1 : ahead b n = 43 := c1
    rw [if_pos (.inl c1)] at k
    refine ⟨_, rfl, _, _, _, rfl, hp, no_Reader (by decide +kernel), _, rfl, ((p, a, b, n), ahead b n), rfl, R, iteP rfl fun H1 R1 k1 => ?_⟩
    obtain ⟨⟨dx1, hp1⟩, ha1⟩ := id R1
    refine ⟨_, rfl, _, _, _, _, _, rfl, hp1, T.k_Reader, T.a_Reader_at, l_Reader_at, _, rfl, _, _, _, rfl, hp1, no_Reader (by decide +kernel), (p, a, b, n + 1), rfl, R1, ?_⟩
    show NumQ C H1 _ E p a b (number b (n + 1))
    cases en : number b (n + 1) with
    | error q =>
      rw [en] at k
      exact Err.on k k1 fun _ y => y
    | ok y =>
      obtain ⟨tk, p1⟩ := y
      rw [en] at k
      simp only [if_pos c1] at k
      refine fun H2 R2 k2 => ⟨_, rfl, rfl, _, rfl, ifE (fun _ => ⟨_, rfl, _, rfl, two_le', fun t ht => k _ t (R2.on (Same.new ht)) (kt (kt k1 k2) (Keep.of (Same.new ht))) upd_same⟩) fun z => (z c1).elim⟩
  · have c1 : ¬ ahead b n = 43 := c1
    have c2 : ahead b n = 45 := V.int.inj c2
    rw [if_pos (.inr c2)] at k
    refine ⟨_, rfl, _, _, _, rfl, hp, no_Reader (by decide +kernel), _, rfl, ((p, a, b, n), ahead b n), rfl, R, iteP rfl fun H1 R1 k1 => ?_⟩
    obtain ⟨⟨dx1, hp1⟩, ha1⟩ := id R1
    refine ⟨_, rfl, _, _, _, _, _, rfl, hp1, T.k_Reader, T.a_Reader_at, l_Reader_at, _, rfl, _, _, _, rfl, hp1, no_Reader (by decide +kernel), (p, a, b, n + 1), rfl, R1, ?_⟩
    show NumQ C H1 _ E p a b (number b (n + 1))
    cases en : number b (n + 1) with
    | error q =>
      rw [en] at k
      exact Err.on k k1 fun _ y => y
    | ok y =>
      obtain ⟨tk, p1⟩ := y
      rw [en] at k
      simp only [if_neg c1] at k
      refine fun H2 R2 k2 => ⟨_, rfl, rfl, _, rfl, ifE (fun z => (c1 z).elim) fun _ => ?_⟩
      obtain ⟨⟨dx2, hp2⟩, ha2⟩ := id R2
      refine ⟨_, rfl, _, _, _, rfl, hp2, no_Reader (by decide +kernel), _, rfl, _, _, rfl, rfl, ((p, a, b, p1), _), rfl, R2, ifD (fun c3 => ?_) fun c3 => ?_⟩
      · have c3 : (0 : Int) < tk := c3
        rw [if_pos c3] at k
        exact ⟨_, rfl, _, rfl, _, rfl, two_le', fun t ht => k _ t (R2.on (Same.new ht)) (kt (kt k1 k2) (Keep.of (Same.new ht))) upd_same⟩
      · have c3 : ¬ (0 : Int) < tk := c3
        rw [if_neg c3] at k
        exact Err.on k (kt k1 k2) fun _ y => y
  · have c1 : ¬ ahead b n = 43 := c1
    have c2 : ¬ ahead b n = 45 := fun z => c2 (by show V.int _ = V.int _; rw [z])
    rw [if_neg (fun z => z.elim c1 c2)] at k
    exact k
def sp_Reader_take_grade (C : Cl) : Sp := SpOf (fun x : Rdr => [.ref x.1]) fun x H Q E => RdAt C H x.1 x.2.1 x.2.2.1 x.2.2.2 ∧ NumQ C H Q E x.1 x.2.1 x.2.2.1 (grade x.2.2.1 x.2.2.2)
theorem sc_Reader_take_grade : FnScope ["self", "grade"] ["self"] (defScope st_Reader_take_grade) := ⟨rfl, rfl, rfl, by decide +kernel, rfl, by decide +kernel, by decide +kernel⟩
theorem D_Reader_take_grade (T : Top K mg C) : MDef P w K mg base (CXF P w C.cF) 5 C.cR "take_grade" ["self"] (sp_Reader_take_grade C) := by
  refine mdef_mkF T.m_Reader_take_grade (fun _ _ _ _ _ _ us hl => match us, hl with | [_], _ => rfl) sc_Reader_take_grade (fun _ => rfl) fun fa cdv A outer s H x Q E hr h => ?_
  obtain ⟨p, a, b, n⟩ := x
  try dsimp only at h
  obtain ⟨R, k⟩ := h
  obtain ⟨⟨dx, hp⟩, ha⟩ := id R
  refine ⟨_, (pss_cons (ps_set (i := 1) sc_Reader_take_grade.nd rfl (Or.inl rfl) (pe_methD0 (pv 0) T.k_Reader (D_Reader_take_digit T) (hr.mono (by decide)) passF)) (pss_cons (ps_if (PW.pt (pw_and (pt_cmpR op_eq (pv 1) pe_int (nomark _)) (pw_and1 (pt_chain op_le op_le (pc T.c_DIGIT_0) (pe_methD0 (pv 0) T.k_Reader (D_Reader_ahead T) (hr.mono (by decide)) pass0) (pe_op op_add (pc T.c_DIGIT_0) pe_int))))) (pss_one (ps_set (i := 1) sc_Reader_take_grade.nd rfl (Or.inl rfl) (pe_op op_add pe_int (pe_methD0 (pv 0) T.k_Reader (D_Reader_take_digit T) (hr.mono (by decide)) passF)))) pss_nil) (pss_one (ps_ret (pv 1))))), ?_⟩
  unfold grade at k
  refine ⟨_, rfl, _, _, _, rfl, hp, no_Reader (by decide +kernel), (p, a, b, n), rfl, R, ?_⟩
  by_cases hd : isDig (ahead b n)
  · rw [if_pos hd] at k
    refine iteP hd fun H1 R1 k1 => ?_
    obtain ⟨⟨dx1, hp1⟩, ha1⟩ := id R1
    have plain : ¬ (ahead b n - 48 = 1 ∧ 48 ≤ ahead b (n + 1) ∧ ahead b (n + 1) ≤ 54) → Q (.int (ahead b n - 48)) H1 := fun c => by
      rw [if_neg c] at k
      exact k H1 R1 k1
    refine ⟨_, rfl, rfl, _, rfl, ifE (fun c1 => ⟨_, rfl, _, _, _, rfl, hp1, no_Reader (by decide +kernel), (p, a, b, n + 1), rfl, R1, _, _, rfl, rfl, _, rfl, ifD (fun c2 => ⟨_, _, rfl, rfl, _, _, rfl, rfl, _, rfl, ifD (fun c3 => ?_) fun c3 => ⟨_, rfl, plain fun z => c3 z.2.2⟩⟩) fun c2 => ⟨_, rfl, iteF ⟨_, rfl, plain fun z => c2 z.2.1⟩⟩⟩) fun c1 => iteF ⟨_, rfl, plain fun z => c1 z.1⟩⟩
    have c1 : ahead b n - 48 = 1 := c1
    have c2 : (48 : Int) ≤ ahead b (n + 1) := c2
    have c3 : ahead b (n + 1) ≤ 48 + 6 := c3
    have hd2 : isDig (ahead b (n + 1)) := ⟨c2, by omega⟩
    rw [if_pos ⟨c1, c2, by omega⟩] at k
    refine ⟨_, rfl, _, _, _, rfl, hp1, no_Reader (by decide +kernel), (p, a, b, n + 1), rfl, R1, iteP hd2 fun H2 R2 k2 => ⟨_, _, rfl, rfl, _, rfl, k H2 R2 (kt k1 k2)⟩⟩
  · rw [if_neg hd] at k
    exact iteQ hd k
/-! ### is_even -/
def two (b : Bytes) (n : Nat) : List Int := match b[n]?, b[n + 1]? with
  | some x, some y => [(x.toNat : Int), (y.toNat : Int)]
  | some x, none => [(x.toNat : Int)]
  | none, _ => []
theorem take_two {α : Type} (l : List α) : l.take 2 = match l with
    | [] => []
    | [x] => [x]
    | x :: y :: _ => [x, y] := by
  match l with
  | [] => rfl
  | [x] => rfl
  | x :: y :: r => rfl
theorem cut_two (b : Bytes) (n : Nat) : cutV (tx b) (some (n : Int)) (some ((n : Int) + 2)) = (two b n).map V.int := by
  unfold cutV
  have e2 : (n : Int) + 2 = ((n + 2 : Nat) : Int) := by omega
  rw [e2, HT.sIx_nat, HT.sIx_nat]
  have hl : (tx b).length = b.length := by simp [tx]
  rw [hl]
  by_cases h : n < b.length
  · rw [show min n b.length = n by omega]
    have e := List.getElem?_eq_getElem h
    by_cases h1 : n + 1 < b.length
    · rw [show min (n + 2) b.length = n + 2 by omega, show n + 2 - n = 2 by omega]
      have e1 := List.getElem?_eq_getElem h1
      unfold two tx
      rw [e, e1, ← List.map_drop, List.drop_eq_getElem_cons h, List.drop_eq_getElem_cons h1]
      rfl
    · rw [show min (n + 2) b.length = n + 1 by omega, show n + 1 - n = 1 by omega]
      have e1 : b[n + 1]? = none := List.getElem?_eq_none_iff.mpr (by omega)
      unfold two tx
      rw [e, e1, ← List.map_drop, List.drop_eq_getElem_cons h]
      rfl
  · have e : b[n]? = none := List.getElem?_eq_none_iff.mpr (by omega)
    unfold two
    rw [e, show min (n + 2) b.length - min n b.length = 0 by omega]
    rfl
theorem even_two (b : Bytes) (n : Nat) : PyData.eqv (.list ((two b n).map PyData.int)) (.list [.int 43, .int 45]) = decide (ahead b n = 43 ∧ ahead b (n + 1) = 45) := by
  unfold two
  cases e : b[n]? with
  | none =>
    rw [SbText.ahead_none e]
    simp [PyData.eqv, PyData.eqvAll]
  | some x =>
    rw [SbText.ahead_some e]
    cases e1 : b[n + 1]? with
    | none =>
      rw [SbText.ahead_none e1]
      simp [PyData.eqv, PyData.eqvAll]
    | some y =>
      rw [SbText.ahead_some e1]
      refine Bool.eq_iff_iff.mpr ?_
      simp [PyData.eqv, PyData.eqvAll]
theorem dp_ints {K : PySem.W.Frag} {H : Hp} : ∀ l : List Int, DpAll K H (l.map V.int) (l.map PyData.int)
  | [] => .nil
  | x :: l => .cons (.int x) (dp_ints l)
def sp_Reader_is_even (C : Cl) : Sp := SpOf (fun x : Rdr => [.ref x.1]) fun x H Q E => RdAt C H x.1 x.2.1 x.2.2.1 x.2.2.2 ∧ ∀ H', Same H H' → Q (.bl (decide (ahead x.2.2.1 x.2.2.2 = 43 ∧ ahead x.2.2.1 (x.2.2.2 + 1) = 45))) H'
theorem shaped_two (b : Bytes) (n : Nat) : SeqAt.shaped (.list ((two b n).map PyData.int)) = true := by
  unfold two
  cases b[n]? with
  | none => rfl
  | some x =>
    cases b[n + 1]? with
    | none => rfl
    | some y => rfl
theorem sc_Reader_is_even : FnScope ["self"] ["self"] (defScope st_Reader_is_even) := ⟨rfl, rfl, rfl, by decide +kernel, rfl, by decide +kernel, by decide +kernel⟩
theorem D_Reader_is_even (T : Top K mg C) : MDef P w K mg base CX0 1 C.cR "is_even" ["self"] (sp_Reader_is_even C) := by
  refine mdef_mk T.m_Reader_is_even (fun _ _ _ _ _ _ us hl => match us, hl with | [_], _ => rfl) sc_Reader_is_even (fun _ => rfl) fun fa cdv A outer s H x Q E hr h => ?_
  obtain ⟨p, a, b, n⟩ := x
  try dsimp only at h
  obtain ⟨⟨⟨dx, hp⟩, ha⟩, k⟩ := h
  refine ⟨_, (pss_one (ps_ret (pe_cmpR (op_eqD hr.units) (pe_slice sl_list (pe_fld (pv 0) rfl) (po_some (pe_fld (pv 0) rfl)) (po_some (pe_op op_add (pe_fld (pv 0) rfl) pe_int))) (pe_lst (pa_cons (pc T.c_PLUS) (pa_cons (pc T.c_MINUS) pa_nil))) (nomark _)))), ?_⟩
  refine ⟨_, rfl, _, _, _, _, _, rfl, hp, T.k_Reader, T.a_Reader_text, l_Reader_text, _, rfl, _, _, _, _, _, rfl, hp, T.k_Reader, T.a_Reader_at, l_Reader_at, _, rfl, _, rfl, _, _, _, _, _, rfl, hp, T.k_Reader, T.a_Reader_at, l_Reader_at, _, _, rfl, rfl, _, rfl, _, _, rfl, SqL.of ha, fun l1 h1 => ⟨two_le', fun l2 h2 => ?_⟩⟩
  have s1 : Same H (upd H l1 (.lst (cutV (tx b) (some (n : Int)) (some ((n : Int) + 2))))) := Same.new h1
  have e1 : upd (upd H l1 (.lst (cutV (tx b) (some (n : Int)) (some ((n : Int) + 2))))) l2 (.lst [.int 43, .int 45]) l1 = some (.lst ((two b n).map V.int)) := by
    rw [upd_ne (ne_of_none upd_same h2), upd_same, cut_two]
  refine ⟨.list ((two b n).map PyData.int), .list [.int 43, .int 45], .lst (SqL.of e1) (dp_ints _), .lst (SqL.of upd_same) (.cons (.int 43) (.cons (.int 45) .nil)), shaped_two b n, rfl, ?_⟩
  rw [even_two]
  exact k _ (s1.on h2)
end
end SbW
end
section
set_option maxHeartbeats 1000000
namespace SbW
open PySem PySem.Spec L2 SbX SbEnum
open PyProof.Rows hiding St
open SbText (ahead isDig isLet wl fl whole fraction number deviation grade Shp behindOf shapeOf)
open Ft (Bytes)
theorem one_le' : 1 ≤ sizeLine := by decide
theorem pair_getA {α β : Type} {F : α → β → Prop} {as : List α} {bs : List β} (h : Paired F as bs) : ∀ {i : Nat} {a : α}, as[i]? = some a → ∃ b, bs[i]? = some b ∧ F a b := by
  induction h with
  | nil => intro i b e; simp at e
  | cons r _ ih =>
    intro i b e
    cases i with
    | zero => simp at e; subst e; exact ⟨_, rfl, r⟩
    | succ i => simp at e; obtain ⟨a, h1, h2⟩ := ih e; exact ⟨a, by simpa using h1, h2⟩
/-! ### shapes and sizes -/
def shapeF (s : Shp) (l : Addr) : List (Str × V) := [("nominal", .int s.nominal), ("form", .int (s.form : Nat)), ("behind", .int (s.behind : Nat)), ("deviations", .ref l), ("letter", .int s.letter), ("grade", .int s.grade)]
theorem l_Shape_nominal {s : Shp} {l : Addr} : (shapeF s l).lookup ("nominal" : Str) = some (.int s.nominal) := look_hd
theorem l_Shape_form {s : Shp} {l : Addr} : (shapeF s l).lookup ("form" : Str) = some (.int (s.form : Nat)) := look_tl look_hd (by decide +kernel)
theorem l_Shape_behind {s : Shp} {l : Addr} : (shapeF s l).lookup ("behind" : Str) = some (.int (s.behind : Nat)) := look_tl (look_tl look_hd (by decide +kernel)) (by decide +kernel)
theorem l_Shape_deviations {s : Shp} {l : Addr} : (shapeF s l).lookup ("deviations" : Str) = some (.ref l) := look_tl (look_tl (look_tl look_hd (by decide +kernel)) (by decide +kernel)) (by decide +kernel)
theorem l_Shape_letter {s : Shp} {l : Addr} : (shapeF s l).lookup ("letter" : Str) = some (.int s.letter) := look_tl (look_tl (look_tl (look_tl look_hd (by decide +kernel)) (by decide +kernel)) (by decide +kernel)) (by decide +kernel)
theorem l_Shape_grade {s : Shp} {l : Addr} : (shapeF s l).lookup ("grade" : Str) = some (.int s.grade) := look_tl (look_tl (look_tl (look_tl (look_tl look_hd (by decide +kernel)) (by decide +kernel)) (by decide +kernel)) (by decide +kernel)) (by decide +kernel)
theorem p_form {s : Shp} {l : Addr} {f : Nat} : putF "form" (.int (f : Nat)) (shapeF s l) = shapeF { s with form := f } l := put_tl put_hd (by decide +kernel)
theorem p_behind {s : Shp} {l : Addr} {f : Nat} : putF "behind" (.int (f : Nat)) (shapeF s l) = shapeF { s with behind := f } l := put_tl (put_tl put_hd (by decide +kernel)) (by decide +kernel)
theorem p_devs {s : Shp} {l l' : Addr} {ds : List (Int × Nat)} : putF "deviations" (.ref l') (shapeF s l) = shapeF { s with devs := ds } l' := put_tl (put_tl (put_tl put_hd (by decide +kernel)) (by decide +kernel)) (by decide +kernel)
theorem p_letter {s : Shp} {l : Addr} {f : Int} : putF "letter" (.int f) (shapeF s l) = shapeF { s with letter := f } l := put_tl (put_tl (put_tl (put_tl put_hd (by decide +kernel)) (by decide +kernel)) (by decide +kernel)) (by decide +kernel)
theorem p_grade {s : Shp} {l : Addr} {f : Int} : putF "grade" (.int f) (shapeF s l) = shapeF { s with grade := f } l := put_tl (put_tl (put_tl (put_tl (put_tl put_hd (by decide +kernel)) (by decide +kernel)) (by decide +kernel)) (by decide +kernel)) (by decide +kernel)
def DevAt (H : Hp) (a : Addr) (d : Int × Nat) : Prop := H a = some (.tup [.int d.1, .int (d.2 : Nat)])
def ShapeAt (C : Cl) (H : Hp) (q : Addr) (s : Shp) : Prop := ∃ dx l as, H q = some (.ins C.cH dx (shapeF s l)) ∧ H l = some (.lst (as.map V.ref)) ∧ Paired (DevAt H) as s.devs
/-- all that stands, but at xs; q is none of them, nor a list or a tuple of it -/
theorem ShapeAt.keep {C : Cl} {H H' : Hp} {q : Addr} {s : Shp} {xs : List Addr} (h : ShapeAt C H q s) (k : Keep xs H H') (hq : q ∉ xs) (hx : ∀ b, b ∈ xs → ∃ D dx fs, H b = some (.ins D dx fs)) : ShapeAt C H' q s := by
  obtain ⟨dx, l, as, e1, e2, p⟩ := h
  have n : ∀ b o, H b = some o → (∀ D dx fs, o ≠ .ins D dx fs) → b ∉ xs := fun b o e n z => by
    obtain ⟨D, d, fs, y⟩ := hx b z
    rw [e] at y
    exact n _ _ _ (Option.some.inj y)
  refine ⟨dx, l, as, k _ _ e1 hq, k _ _ e2 (n _ _ e2 fun _ _ _ z => nomatch z), Paired.imp' (fun (a : Addr) (d : Int × Nat) (e : H a = some (.tup [.int d.1, .int (d.2 : Nat)])) => k _ _ e (n _ _ e fun _ _ _ z => nomatch z)) p⟩
theorem ShapeAt.on {C : Cl} {H H' : Hp} {q : Addr} {s : Shp} (h : ShapeAt C H q s) (k : Same H H') : ShapeAt C H' q s := h.keep (Keep.of (xs := []) k) (by simp) fun b z => by simp at z
/-- a reader is no shape -/
theorem shape_ne {C : Cl} {H : Hp} {p q a : Addr} {b : Bytes} {n : Nat} {s : Shp} (R : RdAt C H p a b n) (S : ShapeAt C H q s) : q ≠ p := by
  obtain ⟨⟨dx, e⟩, _⟩ := R
  obtain ⟨d2, l, as, e2, _⟩ := S
  refine ne_of e2 e fun z => ?_
  have z := congrArg (fun o => match o with
    | HO.ins _ _ fs => fs.length
    | _ => 0) z
  simp [shapeF, rdF] at z
section
variable {P : Program} {w : World} {K : PySem.W.Frag} {mg : Str → Option Value} {base : Heap} {C : Cl}
def sp_Shape_init (C : Cl) : Sp := SpOf (fun x : Addr × Int => [.ref x.1, .int x.2]) fun x H Q _ => ∃ dx, H x.1 = some (.ins C.cH dx []) ∧ ∀ H' l, H' x.1 = some (.ins C.cH dx (shapeF ⟨x.2, 0, 0, [], 0, 0⟩ l)) → H' l = some (.lst []) → Keep [x.1] H H' → Q .non H'
theorem sc_Shape_init : FnScope ["self", "nominal"] ["self", "nominal"] (defScope st_Shape_init) := ⟨rfl, rfl, rfl, by decide +kernel, rfl, by decide +kernel, by decide +kernel⟩
theorem D_Shape_init (T : Top K mg C) : IDef P w K mg base CX0 1 C.cH ["self", "nominal"] (sp_Shape_init C) := by
  refine idef_mk T.i_Shape (fun _ _ _ _ _ _ us hl => match us, hl with | [_, _], _ => rfl) sc_Shape_init (fun _ => rfl) fun f cdv A outer s H x Q E hr h => ?_
  obtain ⟨p, n⟩ := x
  try dsimp only at h
  obtain ⟨dx, hp, k⟩ := h
  have hm : p ∈ [p] := by simp
  refine ⟨_, (pss_cons (ps_fld (pv 0) (pv 1) rfl) (pss_cons (ps_fld (pv 0) (pc T.c_PLAIN) rfl) (pss_cons (ps_fld (pv 0) pe_int rfl) (pss_cons (ps_fld (pv 0) (pe_lst pa_nil) rfl) (pss_cons (ps_fld (pv 0) pe_int rfl) (pss_one (ps_fld (pv 0) pe_int rfl))))))), ?_⟩
  refine ⟨_, rfl, _, rfl, p, _, dx, _, rfl, hp, T.k_Shape, T.a_Shape_nominal, (by show 0 < 1000; decide), _, rfl, p, _, dx, _, rfl, upd_same, T.k_Shape, T.a_Shape_form, (by show 1 < 1000; decide),
    _, rfl, p, _, dx, _, rfl, upd_same, T.k_Shape, T.a_Shape_behind, (by show 2 < 1000; decide), Nat.zero_le _, fun l hl => ?_⟩
  have npl : p ≠ l := ne_of_none upd_same hl
  refine ⟨_, rfl, p, _, dx, _, rfl, (upd_ne npl).trans upd_same, T.k_Shape, T.a_Shape_deviations, (by show 3 < 1000; decide), _, rfl, p, _, dx, _, rfl, upd_same, T.k_Shape, T.a_Shape_letter, (by show 4 < 1000; decide),
    _, rfl, p, _, dx, _, rfl, upd_same, T.k_Shape, T.a_Shape_grade, (by show 5 < 1000; decide), ?_⟩
  refine k _ l ?_ ?_ (((Keep.put (Keep.trans (Keep.put (Keep.put (Keep.put (Keep.refl _ H) hm) hm) hm) (Keep.of (Same.new hl))) hm).put hm).put hm)
  · rw [upd_same]
    rfl
  · rw [upd_ne (Ne.symm npl), upd_ne (Ne.symm npl), upd_ne (Ne.symm npl), upd_same]
def sizeF (s : Ft.Size) : List (Str × V) := [("nominal", .int s.n), ("lo", .int s.lo), ("hi", .int s.hi), ("form", .int (s.form : Nat)), ("letter", .int (s.letter : Nat)), ("grade", .int (s.grade : Nat))]
def SizeAt (C : Cl) (H : Hp) (a : Addr) (s : Ft.Size) : Prop := ∃ dx, H a = some (.ins C.cS dx (sizeF s))
def sp_Size_init (C : Cl) : Sp := SpOf (fun x : Addr × Addr × Addr × Shp × Int × Int => [.ref x.1, .ref x.2.1, .ref x.2.2.1]) fun x H Q _ => (∃ dx, H x.1 = some (.ins C.cS dx [])) ∧ ShapeAt C H x.2.1 x.2.2.2.1 ∧ H x.2.2.1 = some (.tup [.int x.2.2.2.2.1, .int x.2.2.2.2.2]) ∧ x.2.1 ≠ x.1 ∧ 0 ≤ x.2.2.2.1.letter ∧ 0 ≤ x.2.2.2.1.grade ∧
  ∀ H', SizeAt C H' x.1 ⟨x.2.2.2.1.nominal, x.2.2.2.2.1, x.2.2.2.2.2, x.2.2.2.1.form, x.2.2.2.1.letter.toNat, x.2.2.2.1.grade.toNat⟩ → Keep [x.1] H H' → Q .non H'
theorem sc_Size_init : FnScope ["self", "shape", "limits"] ["self", "shape", "limits"] (defScope st_Size_init) := ⟨rfl, rfl, rfl, by decide +kernel, rfl, by decide +kernel, by decide +kernel⟩
theorem D_Size_init (T : Top K mg C) : IDef P w K mg base CX0 1 C.cS ["self", "shape", "limits"] (sp_Size_init C) := by
  refine idef_mk T.i_Size (fun _ _ _ _ _ _ us hl => match us, hl with | [_, _, _], _ => rfl) sc_Size_init (fun _ => rfl) fun f cdv A outer s H x Q E hr h => ?_
  obtain ⟨p, q, t, sh, lo, hi⟩ := x
  try dsimp only at h
  obtain ⟨⟨dx, hp⟩, ⟨dq, l, as, hq, _, _⟩, ht, nqp, hl0, hg0, k⟩ := h
  have hm : p ∈ [p] := by simp
  have nq : q ∉ [p] := by simpa using nqp
  have nt : t ∉ [p] := by
    have := ne_of ht hp (by intro z; cases z)
    simpa using this
  have K1 : ∀ o1, Keep [p] H (upd H p o1) := fun _ => (Keep.refl _ H).put hm
  have K2 : ∀ o1 o2, Keep [p] H (upd (upd H p o1) p o2) := fun _ _ => (K1 _).put hm
  have K3 : ∀ o1 o2 o3, Keep [p] H (upd (upd (upd H p o1) p o2) p o3) := fun _ _ _ => (K2 _ _).put hm
  have K4 : ∀ o1 o2 o3 o4, Keep [p] H (upd (upd (upd (upd H p o1) p o2) p o3) p o4) := fun _ _ _ _ => (K3 _ _ _).put hm
  have K5 : ∀ o1 o2 o3 o4 o5, Keep [p] H (upd (upd (upd (upd (upd H p o1) p o2) p o3) p o4) p o5) := fun _ _ _ _ _ => (K4 _ _ _ _).put hm
  refine ⟨_, (pss_cons (ps_fld (pv 0) (pe_fld (pv 1) rfl) rfl) (pss_cons (ps_fld (pv 0) (pe_ix ix_tup (pv 2) pe_int (fun _ _ => rfl)) rfl) (pss_cons (ps_fld (pv 0) (pe_ix ix_tup (pv 2) pe_int (fun _ _ => rfl)) rfl) (pss_cons (ps_fld (pv 0) (pe_fld (pv 1) rfl) rfl) (pss_cons (ps_fld (pv 0) (pe_fld (pv 1) rfl) rfl) (pss_one (ps_fld (pv 0) (pe_fld (pv 1) rfl) rfl))))))), ?_⟩
  refine ⟨_, rfl, _, _, _, _, _, rfl, hq, T.k_Shape, T.a_Shape_nominal, l_Shape_nominal, _, rfl, p, _, dx, _, rfl, hp, T.k_Size, T.a_Size_nominal, (by show 0 < 1000; decide),
    _, rfl, _, _, _, _, rfl, rfl, SqT.of (K1 _ _ _ ht nt), rfl, _, rfl, p, _, dx, _, rfl, upd_same, T.k_Size, T.a_Size_lo, (by show 1 < 1000; decide),
    _, rfl, _, _, _, _, rfl, rfl, SqT.of (K2 _ _ _ _ ht nt), rfl, _, rfl, p, _, dx, _, rfl, upd_same, T.k_Size, T.a_Size_hi, (by show 2 < 1000; decide),
    _, rfl, _, _, _, _, _, rfl, (K3 _ _ _ _ _ hq nq), T.k_Shape, T.a_Shape_form, l_Shape_form, _, rfl, p, _, dx, _, rfl, upd_same, T.k_Size, T.a_Size_form, (by show 3 < 1000; decide),
    _, rfl, _, _, _, _, _, rfl, (K4 _ _ _ _ _ _ hq nq), T.k_Shape, T.a_Shape_letter, l_Shape_letter, _, rfl, p, _, dx, _, rfl, upd_same, T.k_Size, T.a_Size_letter, (by show 4 < 1000; decide),
    _, rfl, _, _, _, _, _, rfl, (K5 _ _ _ _ _ _ _ hq nq), T.k_Shape, T.a_Shape_grade, l_Shape_grade, _, rfl, p, _, dx, _, rfl, upd_same, T.k_Size, T.a_Size_grade, (by show 5 < 1000; decide), ?_⟩
  refine k _ ⟨dx, ?_⟩ ((K5 _ _ _ _ _).put hm)
  rw [upd_same]
  have e1 : ((sh.letter.toNat : Nat) : Int) = sh.letter := Int.toNat_of_nonneg hl0
  have e2 : ((sh.grade.toNat : Nat) : Int) = sh.grade := Int.toNat_of_nonneg hg0
  simp only [sizeF, e1, e2]
  rfl
/-! ### what stands behind the blank -/
def BhQ (C : Cl) (H : Hp) (Q : VK) (E : XK) (p q a : Addr) (b : Bytes) (r : Except Nat (Shp × Nat)) : Prop := match r with
  | .ok x => ∀ H', RdAt C H' p a b x.2 → ShapeAt C H' q x.1 → Keep [p, q] H H' → Q .non H'
  | .error e => Err C.cF E [p, q] H 1 (e : Nat)
abbrev Bhd := Rdr × Addr × Int
abbrev BhP (C : Cl) (H : Hp) (x : Bhd) : Prop := RdAt C H x.1.1 x.1.2.1 x.1.2.2.1 x.1.2.2.2 ∧ ShapeAt C H x.2.1 ⟨x.2.2, 0, x.1.2.2.2, [], 0, 0⟩
def evenOf (b : Bytes) (N : Int) (n : Nat) : Except Nat (Shp × Nat) := match number b (n + 2) with
  | .error q => .error q
  | .ok (tk, p') => .ok (⟨N, 1, n, [(tk, n + 2)], 0, 0⟩, p')
def codeOf (b : Bytes) (N : Int) (n : Nat) : Except Nat (Shp × Nat) := match grade b (n + 1) with
  | .error q => .error q
  | .ok (g, p') => .ok (⟨N, 3, n, [], ahead b n, g⟩, p')
def unevenOf (b : Bytes) (N : Int) (n : Nat) : Except Nat (Shp × Nat) := match deviation b n with
  | .error q => .error q
  | .ok (d1, a1, p1) => if ahead b p1 = 32 then (match deviation b (p1 + 1) with
    | .error q => .error q
    | .ok (d2, a2, p2) => .ok (⟨N, 2, n, [(d1, a1), (d2, a2)], 0, 0⟩, p2)) else .error p1
theorem behind_eq (b : Bytes) (N : Int) (n : Nat) : behindOf b N n = if ahead b n = 43 ∧ ahead b (n + 1) = 45 then evenOf b N n else if isLet (ahead b n) then codeOf b N n else unevenOf b N n := rfl
/-- the shape's object turns: the reader stays -/
theorem rd_put {C : Cl} {H : Hp} {p a q : Addr} {b : Bytes} {n : Nat} {D dq : Addr} {fs fs' : List (Str × V)} (R : RdAt C H p a b n) (hq : H q = some (.ins D dq fs)) (n1 : q ≠ p) : RdAt C (upd H q (.ins D dq fs')) p a b n := by
  obtain ⟨⟨dx, e⟩, t⟩ := R
  refine ⟨⟨dx, by rw [upd_ne (Ne.symm n1)]; exact e⟩, ?_⟩
  rw [upd_ne (ne_of t hq (by intro z; cases z))]
  exact t
def sp_take_even (C : Cl) : Sp := SpOf (fun x : Bhd => [.ref x.1.1, .ref x.2.1]) fun x H Q E => BhP C H x ∧ ahead x.1.2.2.1 x.1.2.2.2 = 43 ∧ ahead x.1.2.2.1 (x.1.2.2.2 + 1) = 45 ∧ BhQ C H Q E x.1.1 x.2.1 x.1.2.1 x.1.2.2.1 (evenOf x.1.2.2.1 x.2.2 x.1.2.2.2)
theorem sc_take_even : FnScope ["reader", "shape", "place"] ["reader", "shape"] (defScope st_take_even) := ⟨rfl, rfl, rfl, by decide +kernel, rfl, by decide +kernel, by decide +kernel⟩
theorem D_take_even (T : Top K mg C) : Def P w K mg base (CXF P w C.cF) 7 "take_even" ["reader", "shape"] (sp_take_even C) := by
  refine def_mkF T.f_take_even (fun _ _ _ _ _ _ us hl => match us, hl with | [_, _], _ => rfl) sc_take_even (fun _ => rfl) fun fa cdv A outer s H x Q E hr h => ?_
  obtain ⟨⟨p, a, b, n⟩, q, N⟩ := x
  try dsimp only at h
  obtain ⟨⟨R, S⟩, c1, c2, k⟩ := h
  have nqp := shape_ne R S
  obtain ⟨dq, l, as, hq, hl, hd⟩ := S
  refine ⟨_, (pss_cons (ps_fld (pv 1) (pc T.c_EVEN) rfl) (pss_cons (ps_expr (pe_methD (pv 0) T.k_Reader (D_Reader_take T) (hr.mono (by decide)) passF (pa_cons (pc T.c_PLUS) pa_nil))) (pss_cons (ps_expr (pe_methD (pv 0) T.k_Reader (D_Reader_take T) (hr.mono (by decide)) passF (pa_cons (pc T.c_MINUS) pa_nil))) (pss_cons (ps_set (i := 2) sc_take_even.nd rfl (Or.inl rfl) (pe_fld (pv 0) rfl)) (pss_one (ps_fld (pv 1) (pe_lst (pa_cons (pe_tup (pa_cons (pe_methD0 (pv 0) T.k_Reader (D_Reader_take_number T) (hr.mono (by decide)) passF) (pa_cons (pv 2) pa_nil))) pa_nil)) rfl)))))), ?_⟩
  refine ⟨_, rfl, q, _, dq, _, rfl, hq, T.k_Shape, T.a_Shape_form, (by show 6 < 1000; decide), ?_⟩
  have R0 : RdAt C (upd H q (.ins C.cH dq (putF "form" (.int 1) (shapeF ⟨N, 0, n, [], 0, 0⟩ l)))) p a b n := rd_put R hq nqp
  have q0 : upd H q (.ins C.cH dq (putF "form" (.int 1) (shapeF ⟨N, 0, n, [], 0, 0⟩ l))) q = some (.ins C.cH dq (shapeF ⟨N, 1, n, [], 0, 0⟩ l)) := upd_same.trans (congrArg (fun z => some (HO.ins C.cH dq z)) p_form)
  have k0 : Keep [p, q] H (upd H q (.ins C.cH dq (putF "form" (.int 1) (shapeF ⟨N, 0, n, [], 0, 0⟩ l)))) := (Keep.refl _ H).put (by simp)
  generalize upd H q (.ins C.cH dq (putF "form" (.int 1) (shapeF ⟨N, 0, n, [], 0, 0⟩ l))) = H0 at R0 q0 k0 ⊢
  obtain ⟨⟨dx0, hp0⟩, _⟩ := id R0
  refine ⟨_, rfl, _, _, _, rfl, hp0, no_Reader (by decide +kernel), ((p, a, b, n), 43), rfl, R0, iteP c1 fun H1 R1 k1 => ?_⟩
  obtain ⟨⟨dx1, hp1⟩, _⟩ := id R1
  refine ⟨_, rfl, _, _, _, rfl, hp1, no_Reader (by decide +kernel), ((p, a, b, n + 1), 45), rfl, R1, iteP c2 fun H2 R2 k2 => ?_⟩
  obtain ⟨⟨dx2, hp2⟩, _⟩ := id R2
  have pq : ∀ z, z ∈ [p] → z ∈ [p, q] := fun z y => by simp at y; simp [y]
  have nq : q ∉ [p] := by simpa using nqp
  have kk : Keep [p, q] H H2 := (k0.trans (k1.mono pq)).trans (k2.mono pq)
  refine ⟨_, rfl, _, _, _, _, _, rfl, hp2, T.k_Reader, T.a_Reader_at, l_Reader_at, _, rfl, _, _, _, rfl, hp2, no_Reader (by decide +kernel), (p, a, b, n + 2), rfl, R2, ?_⟩
  unfold evenOf at k
  show NumQ C H2 _ E p a b (number b (n + 2))
  cases en : number b (n + 2) with
  | error e =>
    rw [en] at k
    exact Err.on k kk pq
  | ok y =>
    obtain ⟨tk, p'⟩ := y
    rw [en] at k
    refine fun H3 R3 k3 => ⟨_, rfl, two_le', fun t ht => ⟨one_le', fun l2 hl2 => ?_⟩⟩
    have q3 : H3 q = some (.ins C.cH dq (shapeF ⟨N, 1, n, [], 0, 0⟩ l)) := k3 _ _ (k2 _ _ (k1 _ _ q0 nq) nq) nq
    have s4 : Same H3 (upd H3 t (.tup [.int tk, .int ((n + 2 : Nat) : Int)])) := Same.new ht
    have s5 : Same H3 (upd (upd H3 t (.tup [.int tk, .int ((n + 2 : Nat) : Int)])) l2 (.lst [.ref t])) := s4.on hl2
    have q5 := s5 _ _ q3
    refine ⟨_, rfl, q, _, dq, _, rfl, q5, T.k_Shape, T.a_Shape_deviations, (by show 6 < 1000; decide), ?_⟩
    refine k _ (rd_put (R3.on s5) q5 nqp) ?_ (((kk.trans (k3.mono pq)).trans (Keep.of s5)).put (by simp))
    have nl : l2 ≠ q := fun z => by
      have y := s4 _ _ q3
      rw [← z] at y
      rw [show upd H3 t (.tup [.int tk, .int ((n + 2 : Nat) : Int)]) l2 = none from hl2] at y
      cases y
    have nt : t ≠ q := fun z => by rw [← z, ht] at q3; cases q3
    refine ⟨dq, l2, [t], upd_same.trans (congrArg (fun z => some (HO.ins C.cH dq z)) p_devs), ?_, .cons ?_ .nil⟩
    · rw [upd_ne nl, upd_same]
      rfl
    · show upd _ q _ t = _
      rw [upd_ne nt, upd_ne (ne_of_none upd_same hl2), upd_same]
end
end SbW
end
section
set_option maxHeartbeats 1000000
namespace SbW
open PySem PySem.Spec L2 SbX SbEnum
open PyProof.Rows hiding St
open SbText (ahead isDig isLet wl fl whole fraction number deviation grade Shp behindOf shapeOf)
open Ft (Bytes)
section
variable {P : Program} {w : World} {K : PySem.W.Frag} {mg : Str → Option Value} {base : Heap} {C : Cl}
/-- the shape's object turns by one attribute -/
structure Sh0 (C : Cl) (H H0 : Hp) (p q a dq l : Addr) (b : Bytes) (n : Nat) (s : Shp) : Prop where
  rd : RdAt C H0 p a b n
  ob : H0 q = some (.ins C.cH dq (shapeF s l))
  kp : Keep [p, q] H H0
theorem sh_put {C : Cl} {H H1 : Hp} {p q a dq l : Addr} {b : Bytes} {n : Nat} {s s' : Shp} {fs : List (Str × V)} (R : RdAt C H1 p a b n) (hq : H1 q = some (.ins C.cH dq (shapeF s l))) (nqp : q ≠ p) (k : Keep [p, q] H H1) (e : fs = shapeF s' l) : Sh0 C H (upd H1 q (.ins C.cH dq fs)) p q a dq l b n s' :=
  ⟨rd_put R hq nqp, upd_same.trans (by rw [e]), k.put (by simp)⟩
def sp_take_code (C : Cl) : Sp := SpOf (fun x : Bhd => [.ref x.1.1, .ref x.2.1]) fun x H Q E => BhP C H x ∧ BhQ C H Q E x.1.1 x.2.1 x.1.2.1 x.1.2.2.1 (codeOf x.1.2.2.1 x.2.2 x.1.2.2.2)
theorem sc_take_code : FnScope ["reader", "shape"] ["reader", "shape"] (defScope st_take_code) := ⟨rfl, rfl, rfl, by decide +kernel, rfl, by decide +kernel, by decide +kernel⟩
theorem D_take_code (T : Top K mg C) : Def P w K mg base (CXF P w C.cF) 6 "take_code" ["reader", "shape"] (sp_take_code C) := by
  refine def_mkF T.f_take_code (fun _ _ _ _ _ _ us hl => match us, hl with | [_, _], _ => rfl) sc_take_code (fun _ => rfl) fun fa cdv A outer s H x Q E hr h => ?_
  obtain ⟨⟨p, a, b, n⟩, q, N⟩ := x
  try dsimp only at h
  obtain ⟨⟨R, S⟩, k⟩ := h
  have nqp : q ≠ p := shape_ne R S
  obtain ⟨dq, l, as, hq, hl, hd⟩ := S
  refine ⟨_, (pss_cons (ps_fld (pv 1) (pc T.c_CODED) rfl) (pss_cons (ps_fld (pv 1) (pe_methD0 (pv 0) T.k_Reader (D_Reader_ahead T) (hr.mono (by decide)) pass0) rfl) (pss_cons (ps_expr (pe_methD (pv 0) T.k_Reader (D_Reader_take T) (hr.mono (by decide)) passF (pa_cons (pe_fld (pv 1) rfl) pa_nil))) (pss_one (ps_fld (pv 1) (pe_methD0 (pv 0) T.k_Reader (D_Reader_take_grade T) (hr.mono (by decide)) passF) rfl))))), ?_⟩
  refine ⟨_, rfl, q, _, dq, _, rfl, hq, T.k_Shape, T.a_Shape_form, (by show 6 < 1000; decide), ?_⟩
  have z0 : Sh0 C H (upd H q (.ins C.cH dq (putF "form" (.int 3) (shapeF ⟨N, 0, n, [], 0, 0⟩ l)))) p q a dq l b n ⟨N, 3, n, [], 0, 0⟩ := sh_put R hq nqp (Keep.refl _ H) p_form
  have hl0 : upd H q (.ins C.cH dq (putF "form" (.int 3) (shapeF ⟨N, 0, n, [], 0, 0⟩ l))) l = some (.lst (as.map V.ref)) := by
    rw [upd_ne (ne_of hl hq (by intro z; cases z))]
    exact hl
  generalize upd H q (.ins C.cH dq (putF "form" (.int 3) (shapeF ⟨N, 0, n, [], 0, 0⟩ l))) = H0 at z0 hl0 ⊢
  obtain ⟨R0, q0, k0⟩ := z0
  obtain ⟨⟨dx0, hp0⟩, _⟩ := id R0
  refine ⟨_, rfl, _, _, _, rfl, hp0, no_Reader (by decide +kernel), (p, a, b, n), rfl, R0, _, rfl, q, _, dq, _, rfl, q0, T.k_Shape, T.a_Shape_letter, (by show 6 < 1000; decide), ?_⟩
  have z1 : Sh0 C H (upd H0 q (.ins C.cH dq (putF "letter" (.int (ahead b n)) (shapeF ⟨N, 3, n, [], 0, 0⟩ l)))) p q a dq l b n ⟨N, 3, n, [], ahead b n, 0⟩ := sh_put R0 q0 nqp k0 p_letter
  have hl1 : upd H0 q (.ins C.cH dq (putF "letter" (.int (ahead b n)) (shapeF ⟨N, 3, n, [], 0, 0⟩ l))) l = some (.lst (as.map V.ref)) := by
    rw [upd_ne (ne_of hl0 q0 (by intro z; cases z))]
    exact hl0
  generalize upd H0 q (.ins C.cH dq (putF "letter" (.int (ahead b n)) (shapeF ⟨N, 3, n, [], 0, 0⟩ l))) = H1 at z1 hl1 ⊢
  obtain ⟨R1, q1, k1⟩ := z1
  obtain ⟨⟨dx1, hp1⟩, _⟩ := id R1
  have pq : ∀ z, z ∈ [p] → z ∈ [p, q] := fun z y => by simp at y; simp [y]
  have nq : q ∉ [p] := by simpa using nqp
  refine ⟨_, rfl, _, _, _, rfl, hp1, no_Reader (by decide +kernel), _, rfl, _, _, _, _, _, rfl, q1, T.k_Shape, T.a_Shape_letter, l_Shape_letter, ((p, a, b, n), ahead b n), rfl, R1, iteP rfl fun H2 R2 k2 => ?_⟩
  obtain ⟨⟨dx2, hp2⟩, _⟩ := id R2
  have q2 := k2 _ _ q1 nq
  have hl2 : H2 l = some (.lst (as.map V.ref)) := k2 _ _ hl1 (by
    have := ne_of hl1 hp1 (by intro z; cases z)
    simpa using this)
  have kk : Keep [p, q] H H2 := k1.trans (k2.mono pq)
  refine ⟨_, rfl, _, _, _, rfl, hp2, no_Reader (by decide +kernel), (p, a, b, n + 1), rfl, R2, ?_⟩
  unfold codeOf at k
  show NumQ C H2 _ E p a b (grade b (n + 1))
  cases en : grade b (n + 1) with
  | error e =>
    rw [en] at k
    exact Err.on k kk pq
  | ok y =>
    obtain ⟨g, p'⟩ := y
    rw [en] at k
    refine fun H3 R3 k3 => ?_
    have q3 := k3 _ _ q2 nq
    have hl3 : H3 l = some (.lst (as.map V.ref)) := k3 _ _ hl2 (by
      have := ne_of hl2 hp2 (by intro z; cases z)
      simpa using this)
    refine ⟨_, rfl, q, _, dq, _, rfl, q3, T.k_Shape, T.a_Shape_grade, (by show 6 < 1000; decide), ?_⟩
    obtain ⟨R4, q4, k4⟩ := sh_put (s' := ⟨N, 3, n, [], ahead b n, g⟩) R3 q3 nqp (kk.trans (k3.mono pq)) (p_grade (s := ⟨N, 3, n, [], ahead b n, 0⟩))
    refine k _ R4 ⟨dq, l, as, q4, ?_, ?_⟩ k4
    · rw [upd_ne (ne_of hl3 q3 (by intro z; cases z))]
      exact hl3
    · cases as with
      | nil => exact .nil
      | cons a' as' => cases hd
def sp_take_uneven (C : Cl) : Sp := SpOf (fun x : Bhd => [.ref x.1.1, .ref x.2.1]) fun x H Q E => BhP C H x ∧ BhQ C H Q E x.1.1 x.2.1 x.1.2.1 x.1.2.2.1 (unevenOf x.1.2.2.1 x.2.2 x.1.2.2.2)
theorem sc_take_uneven : FnScope ["reader", "shape", "first"] ["reader", "shape"] (defScope st_take_uneven) := ⟨rfl, rfl, rfl, by decide +kernel, rfl, by decide +kernel, by decide +kernel⟩
theorem D_take_uneven (T : Top K mg C) : Def P w K mg base (CXF P w C.cF) 8 "take_uneven" ["reader", "shape"] (sp_take_uneven C) := by
  refine def_mkF T.f_take_uneven (fun _ _ _ _ _ _ us hl => match us, hl with | [_, _], _ => rfl) sc_take_uneven (fun _ => rfl) fun fa cdv A outer s H x Q E hr h => ?_
  obtain ⟨⟨p, a, b, n⟩, q, N⟩ := x
  try dsimp only at h
  obtain ⟨⟨R, S⟩, k⟩ := h
  have nqp : q ≠ p := shape_ne R S
  obtain ⟨dq, l, as, hq, hl, hd⟩ := S
  refine ⟨_, (pss_cons (ps_fld (pv 1) (pc T.c_UNEVEN) rfl) (pss_cons (ps_set (i := 2) sc_take_uneven.nd rfl (Or.inl rfl) (pe_methD0 (pv 0) T.k_Reader (D_Reader_take_deviation T) (hr.mono (by decide)) passF)) (pss_cons (ps_expr (pe_methD (pv 0) T.k_Reader (D_Reader_take T) (hr.mono (by decide)) passF (pa_cons (pc T.c_BLANK) pa_nil))) (pss_one (ps_fld (pv 1) (pe_lst (pa_cons (pv 2) (pa_cons (pe_methD0 (pv 0) T.k_Reader (D_Reader_take_deviation T) (hr.mono (by decide)) passF) pa_nil))) rfl))))), ?_⟩
  refine ⟨_, rfl, q, _, dq, _, rfl, hq, T.k_Shape, T.a_Shape_form, (by show 6 < 1000; decide), ?_⟩
  have z0 : Sh0 C H (upd H q (.ins C.cH dq (putF "form" (.int 2) (shapeF ⟨N, 0, n, [], 0, 0⟩ l)))) p q a dq l b n ⟨N, 2, n, [], 0, 0⟩ := sh_put R hq nqp (Keep.refl _ H) p_form
  generalize upd H q (.ins C.cH dq (putF "form" (.int 2) (shapeF ⟨N, 0, n, [], 0, 0⟩ l))) = H0 at z0 ⊢
  obtain ⟨R0, q0, k0⟩ := z0
  obtain ⟨⟨dx0, hp0⟩, _⟩ := id R0
  have pq : ∀ z, z ∈ [p] → z ∈ [p, q] := fun z y => by simp at y; simp [y]
  have nq : q ∉ [p] := by simpa using nqp
  refine ⟨_, rfl, _, _, _, rfl, hp0, no_Reader (by decide +kernel), (p, a, b, n), rfl, R0, ?_⟩
  unfold unevenOf at k
  show DevQ C H0 _ E p a b (deviation b n)
  cases en : deviation b n with
  | error e =>
    rw [en] at k
    exact Err.on k k0 pq
  | ok y =>
    obtain ⟨d1, a1, p1⟩ := y
    rw [en] at k
    simp only at k
    refine fun H1 t1 R1 k1 e1 => ?_
    obtain ⟨⟨dx1, hp1⟩, _⟩ := id R1
    have q1 := k1 _ _ q0 nq
    have kk1 : Keep [p, q] H H1 := k0.trans (k1.mono pq)
    refine ⟨_, rfl, _, _, _, rfl, hp1, no_Reader (by decide +kernel), ((p, a, b, p1), 32), rfl, R1, ?_⟩
    by_cases c : ahead b p1 = 32
    · rw [if_pos c] at k
      refine iteP c fun H2 R2 k2 => ?_
      obtain ⟨⟨dx2, hp2⟩, _⟩ := id R2
      have q2 := k2 _ _ q1 nq
      have nt1 : t1 ∉ [p] := by
        have := ne_of e1 hp1 (by intro z; cases z)
        simpa using this
      have e2 := k2 _ _ e1 nt1
      have kk2 : Keep [p, q] H H2 := kk1.trans (k2.mono pq)
      refine ⟨_, rfl, _, rfl, _, _, _, rfl, hp2, no_Reader (by decide +kernel), (p, a, b, p1 + 1), rfl, R2, ?_⟩
      show DevQ C H2 _ E p a b (deviation b (p1 + 1))
      cases en2 : deviation b (p1 + 1) with
      | error e =>
        rw [en2] at k
        exact Err.on k kk2 pq
      | ok y =>
        obtain ⟨d2, a2, p2⟩ := y
        rw [en2] at k
        refine fun H3 t2 R3 k3 e3 => ⟨two_le', fun l2 hl2 => ?_⟩
        have q3 := k3 _ _ q2 nq
        have e13 := k3 _ _ e2 nt1
        have s4 : Same H3 (upd H3 l2 (.lst [.ref t1, .ref t2])) := Same.new hl2
        have q4 := s4 _ _ q3
        refine ⟨_, rfl, q, _, dq, _, rfl, q4, T.k_Shape, T.a_Shape_deviations, (by show 6 < 1000; decide), ?_⟩
        refine k _ (rd_put (R3.on s4) q4 nqp) ?_ (((kk2.trans (k3.mono pq)).trans (Keep.of s4)).put (by simp))
        refine ⟨dq, l2, [t1, t2], upd_same.trans (congrArg (fun z => some (HO.ins C.cH dq z)) p_devs), ?_, .cons ?_ (.cons ?_ .nil)⟩
        · have nl : l2 ≠ q := fun z => by rw [← z, hl2] at q3; cases q3
          rw [upd_ne nl, upd_same]
          rfl
        · show upd _ q _ t1 = _
          have y := s4 _ _ e13
          rw [upd_ne (ne_of y q4 (by intro z; cases z))]
          exact y
        · show upd _ q _ t2 = _
          have y := s4 _ _ e3
          rw [upd_ne (ne_of y q4 (by intro z; cases z))]
          exact y
    · rw [if_neg c] at k
      exact iteQ c (Err.on k kk1 pq)
/-! ### shape_of -/
theorem Err.fresh {cF : Addr} {E : XK} {xs : List Addr} {H H1 : Hp} {k p : Int} (h : Err cF E [] H k p) (s : Same H H1) (hf : ∀ b, b ∈ xs → H b = none) : Err cF E xs H1 k p := fun dx H' a b => h dx H' a fun c o e _ => b c o (s c o e) fun z => by
  rw [hf c z] at e
  cases e
def ShQ (C : Cl) (H : Hp) (Q : VK) (E : XK) (r : Except Nat Shp) : Prop := match r with
  | .ok s => ∀ H' q, ShapeAt C H' q s → Same H H' → Q (.ref q) H'
  | .error e => Err C.cF E [] H 1 (e : Nat)
theorem nothing_iff {b : Bytes} {n : Nat} : ahead b n = -1 ↔ ¬ n < b.length := by
  constructor
  · intro h c
    rw [SbText.ahead_some (List.getElem?_eq_getElem c)] at h
    omega
  · intro c
    exact SbText.ahead_none (List.getElem?_eq_none_iff.mpr (by omega))
def sp_shape_of (C : Cl) : Sp := SpOf (fun x : Addr × Bytes => [.ref x.1]) fun x H Q E => H x.1 = some (.lst (tx x.2)) ∧ ShQ C H Q E (shapeOf x.2)
theorem sc_shape_of : FnScope ["text", "reader", "shape"] ["text"] (defScope st_shape_of) := ⟨rfl, rfl, rfl, by decide +kernel, rfl, by decide +kernel, by decide +kernel⟩
theorem D_shape_of (T : Top K mg C) : Def P w K mg base (CXF P w C.cF) 9 "shape_of" ["text"] (sp_shape_of C) := by
  refine def_mkF T.f_shape_of (fun _ _ _ _ _ _ us hl => match us, hl with | [_], _ => rfl) sc_shape_of (fun _ => rfl) fun fa cdv A outer s H x Q E hr h => ?_
  obtain ⟨a, b⟩ := x
  try dsimp only at h
  obtain ⟨ha, k⟩ := h
  refine ⟨_, (pss_cons (ps_set (i := 1) sc_shape_of.nd rfl (Or.inl rfl) (pe_makeD (D_Reader_init T) (hr.mono (by decide)) (by rfl) T.g_Reader (pa_cons (pv 0) pa_nil))) (pss_cons (ps_set (i := 2) sc_shape_of.nd rfl (Or.inl rfl) (pe_makeD (D_Shape_init T) (hr.mono (by decide)) (by rfl) T.g_Shape (pa_cons (pe_methD0 (pv 1) T.k_Reader (D_Reader_take_number T) (hr.mono (by decide)) passF) pa_nil))) (pss_cons (ps_if (pt_cmpR op_eq (pe_methD0 (pv 1) T.k_Reader (D_Reader_ahead T) (hr.mono (by decide)) pass0) (pc T.c_BLANK) (nomark _)) (pss_cons (ps_expr (pe_methD (pv 1) T.k_Reader (D_Reader_take T) (hr.mono (by decide)) passF (pa_cons (pc T.c_BLANK) pa_nil))) (pss_cons (ps_fld (pv 2) (pe_fld (pv 1) rfl) rfl) (pss_one (ps_if (pt_val (pe_methD0 (pv 1) T.k_Reader (D_Reader_is_even T) (hr.mono (by decide)) pass0)) (pss_one (ps_expr (pe_callD (D_take_even T) (hr.mono (by decide)) (by rfl) passF (pa_cons (pv 1) (pa_cons (pv 2) pa_nil))))) (pss_one (ps_if (pt_val (pe_callD (D_is_letter T) (hr.mono (by decide)) (by rfl) pass0 (pa_cons (pe_methD0 (pv 1) T.k_Reader (D_Reader_ahead T) (hr.mono (by decide)) pass0) pa_nil))) (pss_one (ps_expr (pe_callD (D_take_code T) (hr.mono (by decide)) (by rfl) passF (pa_cons (pv 1) (pa_cons (pv 2) pa_nil))))) (pss_one (ps_expr (pe_callD (D_take_uneven T) (hr.mono (by decide)) (by rfl) passF (pa_cons (pv 1) (pa_cons (pv 2) pa_nil))))))))))) pss_nil) (pss_cons (ps_expr (pe_methD (pv 1) T.k_Reader (D_Reader_demand T) (hr.mono (by decide)) passF (pa_cons (pe_cmpR op_eq (pe_methD0 (pv 1) T.k_Reader (D_Reader_ahead T) (hr.mono (by decide)) pass0) (pc T.c_NOTHING) (nomark _)) pa_nil))) (pss_one (ps_ret (pv 2))))))), ?_⟩
  -- the reader
  refine ⟨_, rfl, fun p dp np ndp nep => ⟨(p, a), rfl, dp, upd_same, fun H1 hp1 k1 => ⟨rfl, ?_⟩⟩⟩
  have s1 : Same H H1 := Same.made np ndp fun b o e n => k1 b o e (by simpa using n)
  have R1 : RdAt C H1 p a b 0 := ⟨⟨dp, hp1⟩, s1 _ _ ha⟩
  -- the end: nothing behind
  have fin : ∀ (H' : Hp) (q : Addr) (n : Nat) (sh : Shp), RdAt C H' p a b n → ShapeAt C H' q sh → Same H H' → (if n < b.length then Err C.cF E [] H 1 (n : Nat) else ∀ H' q, ShapeAt C H' q sh → Same H H' → Q (.ref q) H') →
      tSeq (tDrop (tMeth C.cR "demand" (sp_Reader_demand C) [] E (tVar 1) (tCons (tOp rEq (tMeth C.cR "ahead" (sp_Reader_ahead C) [] E0 (tVar 1) tNil) (tC (.int (-1)))) tNil))) (tRet (tVar 2)) { nx := fun _ H' => Q .non H', rt := Q } [some (.ref a), some (.ref p), some (.ref q)] H' := fun H' q n sh R S sm kk => by
    obtain ⟨⟨dx, hp⟩, _⟩ := id R
    refine ⟨_, rfl, _, _, _, rfl, hp, no_Reader (by decide +kernel), _, rfl, _, _, _, rfl, hp, no_Reader (by decide +kernel), (p, a, b, n), rfl, R, rfl, ((p, a, b, n), _), rfl, R, ifE (fun c => ?_) fun c => ?_⟩
    · rw [if_neg (nothing_iff.mp c)] at kk
      exact ⟨_, rfl, kk H' q S sm⟩
    · have c : n < b.length := by
        by_cases z : n < b.length
        · exact z
        · exact (c (nothing_iff.mpr z)).elim
      rw [if_pos c] at kk
      exact kk.fresh sm fun y hy => by
        have hy : y = p := by simpa using hy
        rw [hy]
        exact np
  unfold shapeOf at k
  refine ⟨_, rfl, _, _, _, rfl, hp1, no_Reader (by decide +kernel), (p, a, b, 0), rfl, R1, ?_⟩
  show NumQ C H1 _ E p a b (number b 0)
  cases en : number b 0 with
  | error e =>
    rw [en] at k
    have k : Err C.cF E [] H 1 (e : Nat) := k
    exact k.fresh s1 fun y hy => by
      have hy : y = p := by simpa using hy
      rw [hy]
      exact np
  | ok y =>
    obtain ⟨N, n⟩ := y
    rw [en] at k
    simp only at k
    refine fun H2 R2 k2 => fun q dq nq ndq neq => ⟨(q, N), rfl, dq, upd_same, fun H3 l hq3 hl3 k3 => ⟨rfl, ?_⟩⟩
    have s2 : Same H H2 := fun c o e => k2 c o (s1 c o e) (by have := ne_of_none e np; simpa using this)
    have s23 : Same H2 H3 := Same.made nq ndq fun b o e n => k3 b o e (by simpa using n)
    have s3 := s2.trans s23
    have R3 : RdAt C H3 p a b n := R2.on s23
    have nqH : H q = none := s2.free nq
    have fr : ∀ y, y ∈ [p, q] → H y = none := fun y hy => by
      have hy : y = p ∨ y = q := by simpa using hy
      rcases hy with hy | hy
      · rw [hy]; exact np
      · rw [hy]; exact nqH
    have S3 : ShapeAt C H3 q ⟨N, 0, 0, [], 0, 0⟩ := ⟨dq, l, [], hq3, hl3, .nil⟩
    have nqp : q ≠ p := shape_ne R3 S3
    obtain ⟨⟨dx3, hp3⟩, _⟩ := id R3
    refine ⟨_, rfl, _, _, _, rfl, hp3, no_Reader (by decide +kernel), (p, a, b, n), rfl, R3, rfl, _, rfl, ifE (fun c => ?_) fun c => ?_⟩
    · have c : ahead b n = 32 := c
      rw [if_pos c] at k
      refine ⟨_, rfl, _, _, _, rfl, hp3, no_Reader (by decide +kernel), ((p, a, b, n), 32), rfl, R3, iteP c fun H4 R4 k4 => ?_⟩
      obtain ⟨⟨dx4, hp4⟩, _⟩ := id R4
      have nqx : q ∉ [p] := by simpa using nqp
      have q4 := k4 _ _ hq3 nqx
      have l4 : H4 l = some (.lst []) := k4 _ _ hl3 (by
        have := ne_of hl3 hp3 (by intro z; cases z)
        simpa using this)
      have s4 : Same H H4 := fun c o e => k4 c o (s3 c o e) (by have := ne_of_none e np; simpa using this)
      refine ⟨_, rfl, _, _, _, _, _, rfl, hp4, T.k_Reader, T.a_Reader_at, l_Reader_at, _, rfl, q, _, dq, _, rfl, q4, T.k_Shape, T.a_Shape_behind, (by show 6 < 1000; decide), ?_⟩
      have R5 : RdAt C (upd H4 q (.ins C.cH dq (putF "behind" (.int ((n + 1 : Nat) : Int)) (shapeF ⟨N, 0, 0, [], 0, 0⟩ l)))) p a b (n + 1) := rd_put R4 q4 nqp
      have S5 : ShapeAt C (upd H4 q (.ins C.cH dq (putF "behind" (.int ((n + 1 : Nat) : Int)) (shapeF ⟨N, 0, 0, [], 0, 0⟩ l)))) q ⟨N, 0, n + 1, [], 0, 0⟩ := by
        refine ⟨dq, l, [], upd_same.trans (congrArg (fun z => some (HO.ins C.cH dq z)) p_behind), ?_, .nil⟩
        rw [upd_ne (ne_of l4 q4 (by intro z; cases z))]
        exact l4
      have s5 : Same H (upd H4 q (.ins C.cH dq (putF "behind" (.int ((n + 1 : Nat) : Int)) (shapeF ⟨N, 0, 0, [], 0, 0⟩ l)))) := s4.own nqH
      generalize upd H4 q (.ins C.cH dq (putF "behind" (.int ((n + 1 : Nat) : Int)) (shapeF ⟨N, 0, 0, [], 0, 0⟩ l))) = H5 at R5 S5 s5 ⊢
      obtain ⟨⟨dx5, hp5⟩, _⟩ := id R5
      rw [behind_eq] at k
      -- one of three
      have bq : ∀ (H6 : Hp) (r : Except Nat (Shp × Nat)), Same H H6 → (match (match r with
          | .error q => Except.error q
          | .ok (s, p') => if p' < b.length then Except.error p' else .ok s : Except Nat Shp) with
          | .ok s => ∀ H' q, ShapeAt C H' q s → Same H H' → Q (.ref q) H'
          | .error e => Err C.cF E [] H 1 (e : Nat)) → BhQ C H6 (fun _ H' => tSeq (tDrop (tMeth C.cR "demand" (sp_Reader_demand C) [] E (tVar 1) (tCons (tOp rEq (tMeth C.cR "ahead" (sp_Reader_ahead C) [] E0 (tVar 1) tNil) (tC (.int (-1)))) tNil))) (tRet (tVar 2)) { nx := fun _ H' => Q .non H', rt := Q } [some (.ref a), some (.ref p), some (.ref q)] H') E p q a b r := fun H6 r sm kk => by
        cases r with
        | error e => exact Err.fresh kk sm fr
        | ok y =>
          obtain ⟨sh, p'⟩ := y
          refine fun H7 R7 S7 k7 => fin H7 q p' sh R7 S7 (fun c o e => k7 c o (sm c o e) fun z => by rw [fr c z] at e; cases e) ?_
          by_cases z : p' < b.length
          · simp only [if_pos z] at kk ⊢
            exact kk
          · simp only [if_neg z] at kk ⊢
            exact kk
      refine ⟨_, rfl, _, _, _, rfl, hp5, no_Reader (by decide +kernel), (p, a, b, n + 1), rfl, R5, fun H6 s6 => ⟨_, rfl, ifD (fun d => ?_) fun d => ?_⟩⟩
      · have d : ahead b (n + 1) = 43 ∧ ahead b (n + 1 + 1) = 45 := d
        rw [if_pos d] at k
        exact ⟨_, rfl, _, rfl, ((p, a, b, n + 1), q, N), rfl, ⟨R5.on s6, S5.on s6⟩, d.1, d.2, bq H6 _ (s5.trans s6) k⟩
      · have d : ¬ (ahead b (n + 1) = 43 ∧ ahead b (n + 1 + 1) = 45) := d
        rw [if_neg d] at k
        have R6 := R5.on s6
        obtain ⟨⟨dx6, hp6⟩, _⟩ := id R6
        refine ⟨_, rfl, _, _, _, rfl, hp6, no_Reader (by decide +kernel), (p, a, b, n + 1), rfl, R6, ahead b (n + 1), rfl, _, rfl, ifD (fun g => ?_) fun g => ?_⟩
        · have g : isLet (ahead b (n + 1)) := g
          rw [if_pos g] at k
          exact ⟨_, rfl, _, rfl, ((p, a, b, n + 1), q, N), rfl, ⟨R6, S5.on s6⟩, bq H6 _ (s5.trans s6) k⟩
        · have g : ¬ isLet (ahead b (n + 1)) := g
          rw [if_neg g] at k
          exact ⟨_, rfl, _, rfl, ((p, a, b, n + 1), q, N), rfl, ⟨R6, S5.on s6⟩, bq H6 _ (s5.trans s6) k⟩
    · have c : ¬ ahead b n = 32 := c
      rw [if_neg c] at k
      refine fin H3 q n ⟨N, 0, 0, [], 0, 0⟩ R3 S3 s3 ?_
      by_cases z : n < b.length
      · rw [if_pos z] at k ⊢
        exact k
      · rw [if_neg z] at k ⊢
        exact k
end
end SbW
end
section
set_option maxHeartbeats 1000000
namespace SbW
open PySem PySem.Spec L2 SbX SbEnum
open PyProof.Rows hiding St
open SbText (Shp ShpOk shapeOf firstFar far devFault limitsOf saidOf fit)
open Ft (Bytes)
theorem ref_atA {as : List Addr} {i : Nat} {x : V} (h : (as.map V.ref)[i]? = some x) : ∃ a, as[i]? = some a ∧ x = .ref a := by
  rw [List.getElem?_map] at h
  obtain ⟨a, h1, h2⟩ := Option.map_eq_some_iff.mp h
  exact ⟨a, h1, h2.symm⟩
theorem far_abs {t : Int} : far t = decide ((1073741824 : Int) < if t < 0 then -t else t) := by
  unfold far
  refine decide_eq_decide.mpr ?_
  split <;> omega
theorem far_drop {ds : List (Int × Nat)} {i : Nat} {t : Int} {p : Nat} (h : ds[i]? = some (t, p)) : firstFar (ds.drop i) = if far t = true then some (3, p) else firstFar (ds.drop (i + 1)) := by
  obtain ⟨hi, e⟩ := List.getElem?_eq_some_iff.mp h
  rw [List.drop_eq_getElem_cons hi, e]
  rfl
section
variable {P : Program} {w : World} {K : PySem.W.Frag} {mg : Str → Option Value} {base : Heap} {C : Cl}
def FlQ (C : Cl) (H : Hp) (E : XK) (ok : Prop) (r : Option Ft.Fault) : Prop := match r with
  | none => ok
  | some x => Err C.cF E [] H (x.1 : Nat) (x.2 : Nat)
def sp_check_deviations (C : Cl) : Sp := SpOf (fun x : Addr × Shp => [.ref x.1]) fun x H Q E => ShapeAt C H x.1 x.2 ∧ ShpOk x.2 ∧ FlQ C H E (Q .non H) (devFault x.2)
theorem sc_check_deviations : FnScope ["shape", "ticks", "place"] ["shape"] (defScope st_check_deviations) := ⟨rfl, rfl, rfl, by decide +kernel, rfl, by decide +kernel, by decide +kernel⟩
theorem D_check_deviations (T : Top K mg C) : Def P w K mg base (CXF P w C.cF) 3 "check_deviations" ["shape"] (sp_check_deviations C) := by
  refine def_mkF T.f_check_deviations (fun _ _ _ _ _ _ us hl => match us, hl with | [_], _ => rfl) sc_check_deviations (fun _ => rfl) fun fa cdv A outer s H x Q E hr h => ?_
  obtain ⟨q, s⟩ := x
  try dsimp only at h
  obtain ⟨⟨dq, l, as, hq, hl, hd⟩, ok, k⟩ := h
  refine ⟨_, (pss_cons (ps_for ownF rfl (pi_list (pe_fld (pv 0) rfl)) (pg_tup rfl (pgs_cons (pg_name (i := 1) sc_check_deviations.nd rfl (Or.inl rfl)) (pgs_cons (pg_name (i := 2) sc_check_deviations.nd rfl (Or.inl rfl)) pgs_nil))) (pss_one (ps_if (pt_cmpR op_gt (pe_callB call_abs (by rfl) T.n_abs boot_abs (pa_cons (pv 1) pa_nil)) (pc T.c_MOST_DEVIATION) (nomark _)) (pss_one (ps_faultD (D_SizeFault_init T) T (hr.mono (by decide)) (by rfl) (pa_cons pe_int (pa_cons (pv 2) pa_nil)))) pss_nil))) (pss_one (ps_if (PW.pt (pw_and (pt_cmpR op_eq (pe_fld (pv 0) rfl) (pc T.c_UNEVEN) (nomark _)) (pw_and1 (pt_cmpR op_gt (pe_ix ix_tup (pe_ix ix_list (pe_fld (pv 0) rfl) pe_int (fun _ _ => rfl)) pe_int (fun _ _ => rfl)) (pe_ix ix_tup (pe_ix ix_list (pe_fld (pv 0) rfl) pe_int (fun _ _ => rfl)) pe_int (fun _ _ => rfl)) (nomark _))))) (pss_one (ps_faultD (D_SizeFault_init T) T (hr.mono (by decide)) (by rfl) (pa_cons pe_int (pa_cons (pe_op op_sub (pe_ix ix_tup (pe_ix ix_list (pe_fld (pv 0) rfl) pe_int (fun _ _ => rfl)) pe_int (fun _ _ => rfl)) pe_int) pa_nil)))) pss_nil))), ?_⟩
  have el : as.length = s.devs.length := by
    have := Paired.length hd
    exact this
  refine ⟨_, rfl, _, _, _, _, _, rfl, hq, T.k_Shape, T.a_Shape_deviations, l_Shape_deviations, l, rfl, ⟨_, SqL.of hl⟩, for_list (K := K) (a := l) (xs := as.map V.ref) (fun i σ H' => H' = H ∧ (∃ v1 v2, σ = [some (.ref q), v1, v2]) ∧ firstFar s.devs = firstFar (s.devs.drop i)) ⟨rfl, ⟨none, none, rfl⟩, rfl⟩ (fun i σ H' _ ⟨e, _⟩ => by rw [e]; exact SqL.of hl) ?_ ?_⟩
  · rintro i x σ H' hx ⟨rfl, ⟨v1, v2, rfl⟩, hf⟩
    obtain ⟨a, ha, rfl⟩ := ref_atA hx
    obtain ⟨d, hd1, hd2⟩ := pair_getA hd ha
    obtain ⟨t, pl⟩ := d
    have hd2 : H' a = some (.tup [.int t, .int (pl : Nat)]) := hd2
    rw [far_drop hd1, far_abs] at hf
    refine ⟨_, _, rfl, SqT.of hd2, rfl, _, _, rfl, _, _, rfl, rfl, _, rfl, t, rfl, _, _, rfl, rfl, _, rfl, ifD (fun c => ?_) fun c => ?_⟩
    · have c : (1073741824 : Int) < if t < 0 then -t else t := c
      rw [decide_eq_true c, if_pos rfl] at hf
      unfold devFault at k
      rw [hf] at k
      have k : Err C.cF E [] H' 3 (pl : Nat) := k
      exact ⟨_, rfl, 3, pl, rfl, k.raise⟩
    · have c : ¬ (1073741824 : Int) < if t < 0 then -t else t := c
      rw [decide_eq_false c, if_neg (by decide)] at hf
      exact ⟨rfl, ⟨_, _, rfl⟩, hf⟩
  · rintro σ H' ⟨rfl, ⟨v1, v2, rfl⟩, hf⟩
    rw [List.length_map, el, List.drop_length] at hf
    have hf : firstFar s.devs = none := hf
    unfold devFault at k
    rw [hf] at k
    cases ok with
    | plain => exact ⟨_, rfl, _, _, _, _, _, rfl, hq, T.k_Shape, T.a_Shape_form, l_Shape_form, rfl, _, rfl, ifE (fun c => by simp at c) fun c => iteF k⟩
    | even => exact ⟨_, rfl, _, _, _, _, _, rfl, hq, T.k_Shape, T.a_Shape_form, l_Shape_form, rfl, _, rfl, ifE (fun c => by simp at c) fun c => iteF k⟩
    | code _ _ => exact ⟨_, rfl, _, _, _, _, _, rfl, hq, T.k_Shape, T.a_Shape_form, l_Shape_form, rfl, _, rfl, ifE (fun c => by simp at c) fun c => iteF k⟩
    | @uneven n t u p a c hc =>
      obtain ⟨a1, a2, rfl⟩ : ∃ a1 a2, as = [a1, a2] := by
        match as, el with
        | [a1, a2], _ => exact ⟨a1, a2, rfl⟩
      cases hd with
      | cons h1 hd =>
        cases hd with
        | cons h2 hd =>
          have h1 : H' a1 = some (.tup [.int t, .int (a : Nat)]) := h1
          have h2 : H' a2 = some (.tup [.int u, .int (c : Nat)]) := h2
          have k : FlQ C H' E (Q .non H') (if t < u then some (4, c - 1) else none) := k
          refine ⟨_, rfl, _, _, _, _, _, rfl, hq, T.k_Shape, T.a_Shape_form, l_Shape_form, rfl, _, rfl, ifE (fun _ => ?_) fun z => (z rfl).elim⟩
          refine ⟨_, rfl, _, _, _, _, _, rfl, hq, T.k_Shape, T.a_Shape_deviations, l_Shape_deviations, _, _, _, _, rfl, rfl, SqL.of hl, rfl, _, _, _, _, rfl, rfl, SqT.of h2, rfl, _, rfl, _, _, _, _, _, rfl, hq, T.k_Shape, T.a_Shape_deviations, l_Shape_deviations, _, _, _, _, rfl, rfl, SqL.of hl, rfl, _, _, _, _, rfl, rfl, SqT.of h1, rfl, _, _, rfl, rfl, _, rfl, ifD (fun d => ?_) fun d => ?_⟩
          · have d : t < u := d
            rw [if_pos d] at k
            have k : Err C.cF E [] H' 4 ((c - 1 : Nat) : Int) := k
            rw [show ((c - 1 : Nat) : Int) = (c : Int) - 1 by omega] at k
            exact ⟨_, rfl, _, _, _, _, _, rfl, hq, T.k_Shape, T.a_Shape_deviations, l_Shape_deviations, _, _, _, _, rfl, rfl, SqL.of hl, rfl, _, _, _, _, rfl, rfl, SqT.of h2, rfl, _, _, rfl, rfl, 4, _, rfl, k.raise⟩
          · have d : ¬ t < u := d
            rw [if_neg d] at k
            exact k
def sp_limits_of (C : Cl) : Sp := SpOf (fun x : Addr × Shp => [.ref x.1]) fun x H Q _ => ShapeAt C H x.1 x.2 ∧ ShpOk x.2 ∧ (1 ≤ x.2.nominal ∧ x.2.nominal ≤ 2147483647) ∧ ∀ H' t, Same H H' → H' t = some (.tup [.int (limitsOf x.2).1, .int (limitsOf x.2).2]) → Q (.ref t) H'
theorem sc_limits_of : FnScope ["shape", "first"] ["shape"] (defScope st_limits_of) := ⟨rfl, rfl, rfl, by decide +kernel, rfl, by decide +kernel, by decide +kernel⟩
theorem D_limits_of (T : Top K mg C) : Def P w K mg base CX0 5 "limits_of" ["shape"] (sp_limits_of C) := by
  refine def_mk T.f_limits_of (fun _ _ _ _ _ _ us hl => match us, hl with | [_], _ => rfl) sc_limits_of (fun _ => rfl) fun fa cdv A outer s H x Q E hr h => ?_
  obtain ⟨q, s⟩ := x
  try dsimp only at h
  obtain ⟨⟨dq, l, as, hq, hl, hd⟩, ok, hn, k⟩ := h
  refine ⟨_, (pss_cons (ps_if (pt_cmpR op_eq (pe_fld (pv 0) rfl) (pc T.c_PLAIN) (nomark _)) (pss_one (ps_ret (pe_tup (pa_cons pe_int (pa_cons pe_int pa_nil))))) pss_nil) (pss_cons (ps_if (pt_cmpR op_eq (pe_fld (pv 0) rfl) (pc T.c_CODED) (nomark _)) (pss_one (ps_ret (pe_callD (D_code_limits T) (hr.mono (by decide)) (by rfl) pass0 (pa_cons (pe_fld (pv 0) rfl) (pa_cons (pe_fld (pv 0) rfl) (pa_cons (pe_fld (pv 0) rfl) pa_nil)))))) pss_nil) (pss_cons (ps_set (i := 1) sc_limits_of.nd rfl (Or.inl rfl) (pe_ix ix_tup (pe_ix ix_list (pe_fld (pv 0) rfl) pe_int (fun _ _ => rfl)) pe_int (fun _ _ => rfl))) (pss_cons (ps_if (pt_cmpR op_eq (pe_fld (pv 0) rfl) (pc T.c_EVEN) (nomark _)) (pss_one (ps_ret (pe_tup (pa_cons (pe_un un_neg (pv 1)) (pa_cons (pv 1) pa_nil))))) pss_nil) (pss_one (ps_ret (pe_tup (pa_cons (pe_ix ix_tup (pe_ix ix_list (pe_fld (pv 0) rfl) pe_int (fun _ _ => rfl)) pe_int (fun _ _ => rfl)) (pa_cons (pv 1) pa_nil))))))))), ?_⟩
  cases ok with
  | plain =>
    refine ⟨_, rfl, _, _, _, _, _, rfl, hq, T.k_Shape, T.a_Shape_form, l_Shape_form, rfl, _, rfl, ifE (fun _ => ⟨two_le', fun t ht => k _ t (Same.new ht) ?_⟩) fun c => (c rfl).elim⟩
    rw [upd_same]
    rfl
  | @code n p L G hL hG =>
    obtain ⟨⟨hb, m⟩, hLm⟩ := Option.isSome_iff_exists.mp hL
    have en : n = ((n.toNat : Nat) : Int) := by
      have : 1 ≤ n := hn.1
      omega
    refine ⟨_, rfl, _, _, _, _, _, rfl, hq, T.k_Shape, T.a_Shape_form, l_Shape_form, rfl, _, rfl, ifE (fun c => by simp at c) fun _ => ⟨_, rfl, _, _, _, _, _, rfl, hq, T.k_Shape, T.a_Shape_form, l_Shape_form, rfl, _, rfl, ifE (fun _ => ?_) fun c => (c rfl).elim⟩⟩
    refine ⟨_, rfl, _, _, _, _, _, rfl, hq, T.k_Shape, T.a_Shape_letter, l_Shape_letter, _, rfl, _, _, _, _, _, rfl, hq, T.k_Shape, T.a_Shape_grade, l_Shape_grade, _, rfl, _, _, _, _, _, rfl, hq, T.k_Shape, T.a_Shape_nominal, l_Shape_nominal, (L, G, n.toNat), ?_, by show G ≤ 16; exact hG, ?_, ?_, hb, m, hLm, fun t ht => k _ t (Same.new ht) ?_⟩
    · show [V.int (L : Int), V.int (G : Int), V.int n] = [V.int (L : Int), V.int (G : Int), V.int ((n.toNat : Nat) : Int)]
      rw [← en]
    · show 1 ≤ n.toNat
      have : 1 ≤ n := hn.1
      omega
    · show n.toNat ≤ 2147483647
      have : n ≤ 2147483647 := hn.2
      omega
    · rw [upd_same]
      show _ = some (HO.tup [V.int (limitsOf ⟨n, 3, p, [], (L : Int), (G : Int)⟩).1, V.int (limitsOf ⟨n, 3, p, [], (L : Int), (G : Int)⟩).2])
      have e : limitsOf ⟨n, 3, p, [], (L : Int), (G : Int)⟩ = Ft.codeLimits (Ft.width n.toNat) hb m G := by
        show (match Ft.letterOf ((L : Int)).toNat with
          | some (h, m) => Ft.codeLimits (Ft.width n.toNat) h m ((G : Int)).toNat
          | none => (0, 0)) = _
        rw [show ((L : Int)).toNat = L from rfl, hLm]
        rfl
      rw [e]
  | @even n t p a =>
    obtain ⟨a1, rfl⟩ : ∃ a1, as = [a1] := by
      match as, Paired.length hd with
      | [a1], _ => exact ⟨a1, rfl⟩
    cases hd with
    | cons h1 hd =>
      have h1 : H a1 = some (.tup [.int t, .int (a : Nat)]) := h1
      refine ⟨_, rfl, _, _, _, _, _, rfl, hq, T.k_Shape, T.a_Shape_form, l_Shape_form, rfl, _, rfl, ifE (fun c => by simp at c) fun _ => ⟨_, rfl, _, _, _, _, _, rfl, hq, T.k_Shape, T.a_Shape_form, l_Shape_form, rfl, _, rfl, ifE (fun c => by simp at c) fun _ => ?_⟩⟩
      refine ⟨_, rfl, _, _, _, _, _, rfl, hq, T.k_Shape, T.a_Shape_deviations, l_Shape_deviations, _, _, _, _, rfl, rfl, SqL.of hl, rfl, _, _, _, _, rfl, rfl, SqT.of h1, rfl, _, rfl, _, _, _, _, _, rfl, hq, T.k_Shape, T.a_Shape_form, l_Shape_form, rfl, _, rfl, ifE (fun _ => ⟨_, rfl, _, rfl, _, rfl, two_le', fun x hx => k _ x (Same.new hx) ?_⟩) fun c => (c rfl).elim⟩
      rw [upd_same]
      rfl
  | @uneven n t u p a c hc =>
    obtain ⟨a1, a2, rfl⟩ : ∃ a1 a2, as = [a1, a2] := by
      match as, Paired.length hd with
      | [a1, a2], _ => exact ⟨a1, a2, rfl⟩
    cases hd with
    | cons h1 hd =>
      cases hd with
      | cons h2 hd =>
        have h1 : H a1 = some (.tup [.int t, .int (a : Nat)]) := h1
        have h2 : H a2 = some (.tup [.int u, .int (c : Nat)]) := h2
        refine ⟨_, rfl, _, _, _, _, _, rfl, hq, T.k_Shape, T.a_Shape_form, l_Shape_form, rfl, _, rfl, ifE (fun c => by simp at c) fun _ => ⟨_, rfl, _, _, _, _, _, rfl, hq, T.k_Shape, T.a_Shape_form, l_Shape_form, rfl, _, rfl, ifE (fun c => by simp at c) fun _ => ?_⟩⟩
        refine ⟨_, rfl, _, _, _, _, _, rfl, hq, T.k_Shape, T.a_Shape_deviations, l_Shape_deviations, _, _, _, _, rfl, rfl, SqL.of hl, rfl, _, _, _, _, rfl, rfl, SqT.of h1, rfl, _, rfl, _, _, _, _, _, rfl, hq, T.k_Shape, T.a_Shape_form, l_Shape_form, rfl, _, rfl, ifE (fun c => by simp at c) fun _ =>
          ⟨_, rfl, _, _, _, _, _, rfl, hq, T.k_Shape, T.a_Shape_deviations, l_Shape_deviations, _, _, _, _, rfl, rfl, SqL.of hl, rfl, _, _, _, _, rfl, rfl, SqT.of h2, rfl, _, rfl, two_le', fun x hx => k _ x (Same.new hx) ?_⟩⟩
        rw [upd_same]
        rfl
/-! ### said -/
def SdQ (C : Cl) (H : Hp) (Q : VK) (E : XK) (r : Except Ft.Fault Ft.Size) : Prop := match r with
  | .ok z => ∀ H' q, SizeAt C H' q z → Same H H' → Q (.ref q) H'
  | .error x => Err C.cF E [] H (x.1 : Nat) (x.2 : Nat)
def sp_said (C : Cl) : Sp := SpOf (fun x : Addr × Bytes => [.ref x.1]) fun x H Q E => H x.1 = some (.lst (tx x.2)) ∧ SdQ C H Q E (SbText.said x.2)
theorem ok_nn {s : Shp} (h : ShpOk s) : 0 ≤ s.letter ∧ 0 ≤ s.grade := by
  cases h with
  | plain => exact ⟨Int.le_refl 0, Int.le_refl 0⟩
  | even => exact ⟨Int.le_refl 0, Int.le_refl 0⟩
  | uneven => exact ⟨Int.le_refl 0, Int.le_refl 0⟩
  | code _ _ => exact ⟨Int.natCast_nonneg _, Int.natCast_nonneg _⟩
theorem Err.same {cF : Addr} {E : XK} {H H1 : Hp} {k p : Int} (h : Err cF E [] H k p) (s : Same H H1) : Err cF E [] H1 k p := h.fresh s fun b z => by simp at z
theorem sc_said : FnScope ["text", "shape", "limits"] ["text"] (defScope st_said) := ⟨rfl, rfl, rfl, by decide +kernel, rfl, by decide +kernel, by decide +kernel⟩
theorem D_said (T : Top K mg C) : Def P w K mg base (CXF P w C.cF) 10 "said" ["text"] (sp_said C) := by
  refine def_mkF T.f_said (fun _ _ _ _ _ _ us hl => match us, hl with | [_], _ => rfl) sc_said (fun _ => rfl) fun fa cdv A outer s H x Q E hr h => ?_
  obtain ⟨a, b⟩ := x
  try dsimp only at h
  obtain ⟨ha, k⟩ := h
  refine ⟨_, (pss_cons (ps_set (i := 1) sc_said.nd rfl (Or.inl rfl) (pe_callD (D_shape_of T) (hr.mono (by decide)) (by rfl) passF (pa_cons (pv 0) pa_nil))) (pss_cons (ps_if (pt_not (pt_val (pe_callD (D_is_nominal T) (hr.mono (by decide)) (by rfl) pass0 (pa_cons (pe_fld (pv 1) rfl) pa_nil)))) (pss_one (ps_faultD (D_SizeFault_init T) T (hr.mono (by decide)) (by rfl) (pa_cons pe_int (pa_cons pe_int pa_nil)))) pss_nil) (pss_cons (ps_expr (pe_callD (D_check_deviations T) (hr.mono (by decide)) (by rfl) passF (pa_cons (pv 1) pa_nil))) (pss_cons (ps_set (i := 2) sc_said.nd rfl (Or.inl rfl) (pe_callD (D_limits_of T) (hr.mono (by decide)) (by rfl) pass0 (pa_cons (pv 1) pa_nil))) (pss_cons (ps_if (pt_not (pt_val (pe_callD (D_are_fit T) (hr.mono (by decide)) (by rfl) pass0 (pa_cons (pe_fld (pv 1) rfl) (pa_cons (pe_ix ix_tup (pv 2) pe_int (fun _ _ => rfl)) (pa_cons (pe_ix ix_tup (pv 2) pe_int (fun _ _ => rfl)) pa_nil)))))) (pss_one (ps_faultD (D_SizeFault_init T) T (hr.mono (by decide)) (by rfl) (pa_cons pe_int (pa_cons (pe_fld (pv 1) rfl) pa_nil)))) pss_nil) (pss_one (ps_ret (pe_makeD (D_Size_init T) (hr.mono (by decide)) (by rfl) T.g_Size (pa_cons (pv 1) (pa_cons (pv 2) pa_nil)))))))))), ?_⟩
  unfold SbText.said at k
  refine ⟨_, rfl, (a, b), rfl, ha, ?_⟩
  show ShQ C H _ E (shapeOf b)
  cases es : shapeOf b with
  | error e =>
    rw [es] at k
    exact k
  | ok sh =>
    rw [es] at k
    have k : SdQ C H Q E (saidOf sh) := k
    have ok := SbText.shape_ok es
    refine fun H1 q S1 s1 => ?_
    obtain ⟨dq, l, as, hq, hl, hd⟩ := id S1
    unfold saidOf at k
    refine ⟨_, rfl, _, _, _, _, _, rfl, hq, T.k_Shape, T.a_Shape_nominal, l_Shape_nominal, sh.nominal, rfl, _, rfl, ifN (fun c => ?_) fun c => ?_⟩
    · rw [if_pos c] at k
      have k : Err C.cF E [] H 2 0 := k
      exact ⟨2, 0, rfl, (k.same s1).raise⟩
    · rw [if_neg (fun z => z c)] at k
      refine ⟨_, rfl, (q, sh), rfl, S1, ok, ?_⟩
      show FlQ C H1 E _ (devFault sh)
      cases ef : devFault sh with
      | some f =>
        rw [ef] at k
        have k : Err C.cF E [] H (f.1 : Nat) (f.2 : Nat) := k
        exact k.same s1
      | none =>
        rw [ef] at k
        simp only at k
        refine ⟨_, rfl, (q, sh), rfl, S1, ok, c, fun H2 t s2 ht => ?_⟩
        have S2 := S1.on s2
        have hq2 := s2 _ _ hq
        refine ⟨_, rfl, _, _, _, _, _, rfl, hq2, T.k_Shape, T.a_Shape_nominal, l_Shape_nominal, _, rfl, _, _, _, _, rfl, rfl, SqT.of ht, rfl, _, rfl, _, _, _, _, rfl, rfl, SqT.of ht, rfl, (sh.nominal, (limitsOf sh).1, (limitsOf sh).2), rfl, _, rfl, ifNB (fun d => ?_) fun d => ?_⟩
        · have d : fit sh.nominal (limitsOf sh).1 (limitsOf sh).2 = false := d
          rw [d, if_neg (by decide)] at k
          have k : Err C.cF E [] H 5 (sh.behind : Nat) := k
          exact ⟨_, rfl, _, _, _, _, _, rfl, hq2, T.k_Shape, T.a_Shape_behind, l_Shape_behind, 5, _, rfl, (k.same (s1.trans s2)).raise⟩
        · have d : fit sh.nominal (limitsOf sh).1 (limitsOf sh).2 = true := d
          rw [if_pos d] at k
          refine ⟨_, rfl, _, rfl, fun x dx nx nd ne => ?_⟩
          have s3 : Same H2 (upd (upd H2 dx (.own x)) x (.ins C.cS dx [])) := fun c o e => by
            rw [upd_ne (ne_of_none e nx), upd_ne (ne_of_none e nd)]
            exact e
          refine ⟨(x, q, t, sh, (limitsOf sh).1, (limitsOf sh).2), rfl, ⟨dx, upd_same⟩, S2.on s3, s3 _ _ ht, ne_of_none hq2 nx, (ok_nn ok).1, (ok_nn ok).2, fun H3 z3 k3 => ⟨rfl, ?_⟩⟩
          refine k H3 x z3 fun c o e => k3 c o (s3 _ _ (s2 _ _ (s1 _ _ e))) ?_
          have := ne_of_none (s2 _ _ (s1 _ _ e)) nx
          simpa using this
end
end SbW
end
section
set_option maxHeartbeats 1000000
namespace SbW
open PySem PySem.Spec L2 SbX SbEnum
open PyProof.Rows hiding St
open FtBench (Tool Book Use)
open FtNet (Bound)
open SbNet (mostAbove)
open SbBook (PUse pRows pBetween silent toP Good)
open Ft (Bytes)
/-! ### the book -/
def bookF (ls lt lu : Addr) : List (Str × V) := [("sizes", .ref ls), ("tools", .ref lt), ("uses", .ref lu)]
theorem l_Book_sizes {ls lt lu : Addr} : (bookF ls lt lu).lookup ("sizes" : Str) = some (.ref ls) := look_hd
theorem l_Book_tools {ls lt lu : Addr} : (bookF ls lt lu).lookup ("tools" : Str) = some (.ref lt) := look_tl look_hd (by decide +kernel)
theorem l_Book_uses {ls lt lu : Addr} : (bookF ls lt lu).lookup ("uses" : Str) = some (.ref lu) := look_tl (look_tl look_hd (by decide +kernel)) (by decide +kernel)
theorem no_Book {ls lt lu : Addr} {m : Str} (h : (["sizes", "tools", "uses"] : List Str).contains m = false) : (bookF ls lt lu).lookup m = none := look_none h
theorem p_uses {ls lt lu lv : Addr} : putF "uses" (.ref lv) (bookF ls lt lu) = bookF ls lt lv := put_tl (put_tl put_hd (by decide +kernel)) (by decide +kernel)
theorem l_Size_nominal {s : Ft.Size} : (sizeF s).lookup ("nominal" : Str) = some (.int s.n) := look_hd
theorem l_Size_lo {s : Ft.Size} : (sizeF s).lookup ("lo" : Str) = some (.int s.lo) := look_tl look_hd (by decide +kernel)
theorem l_Size_hi {s : Ft.Size} : (sizeF s).lookup ("hi" : Str) = some (.int s.hi) := look_tl (look_tl look_hd (by decide +kernel)) (by decide +kernel)
theorem SizeAt.on {C : Cl} {H H' : Hp} {a : Addr} {z : Ft.Size} (h : SizeAt C H a z) (s : Same H H') : SizeAt C H' a z := let ⟨dx, e⟩ := h; ⟨dx, s _ _ e⟩
def SizesAt (C : Cl) (H : Hp) (l : Addr) (zs : List Ft.Size) : Prop := ∃ as : List Addr, H l = some (.lst (as.map V.ref)) ∧ Paired (SizeAt C H) as zs
theorem SizesAt.on {C : Cl} {H H' : Hp} {l : Addr} {zs : List Ft.Size} (h : SizesAt C H l zs) (s : Same H H') : SizesAt C H' l zs := let ⟨as, e, p⟩ := h; ⟨as, s _ _ e, Paired.imp' (fun _ _ q => q.on s) p⟩
structure BookAt (C : Cl) (H : Hp) (p ls lt dx lu : Addr) (b : Book) : Prop where
  ob : H p = some (.ins C.cB dx (bookF ls lt lu))
  sz : SizesAt C H ls b.items
  tl : ToolsAt C H lt b.tools
  us : UsesAt C H lu (b.uses.map (toP b))
  n1 : ls ≠ lt
  n2 : lu ≠ ls
  n3 : lu ≠ lt
theorem BookAt.on {C : Cl} {H H' : Hp} {p ls lt dx lu : Addr} {b : Book} (h : BookAt C H p ls lt dx lu b) (s : Same H H') : BookAt C H' p ls lt dx lu b := ⟨s _ _ h.ob, h.sz.on s, h.tl.on s, h.us.on s, h.n1, h.n2, h.n3⟩
/-- the end of a call: what stands then, the answer -/
def StQ (C : Cl) (H : Hp) (Q : VK) (p ls lt dx lu0 : Addr) (x : Book × List Int) : Prop := ∀ H' r lu, BookAt C H' p ls lt dx lu x.1 → Good x.1 → H' r = some (.lst (x.2.map V.int)) → Keep [p, ls, lt] H H' → H r = none → (lu = lu0 ∨ H lu = none) → Q (.ref r) H'
/-- what is free behind was free ahead -/
theorem keep_free {C : Cl} {H H1 : Hp} {p ls lt dx lu r : Addr} {b : Book} (k : Keep [p, ls, lt] H H1) (B : BookAt C H1 p ls lt dx lu b) (hr : H1 r = none) : H r = none := by
  cases e : H r with
  | none => rfl
  | some o =>
    have h1 : r ≠ p := fun z => by rw [z, B.ob] at hr; cases hr
    have h2 : r ≠ ls := fun z => by
      obtain ⟨xs, e1, _⟩ := B.sz
      rw [z, e1] at hr; cases hr
    have h3 : r ≠ lt := fun z => by
      obtain ⟨xs, e1, _⟩ := B.tl
      rw [z, e1] at hr; cases hr
    rw [k r o e (by simp [h1, h2, h3])] at hr
    cases hr
theorem len_items {C : Cl} {H : Hp} {l : Addr} {zs : List Ft.Size} (h : SizesAt C H l zs) : ∃ xs : List V, H l = some (.lst xs) ∧ xs.length = zs.length := let ⟨as, e, p⟩ := h; ⟨_, e, by rw [List.length_map]; exact Paired.length p⟩
theorem len_tools {C : Cl} {H : Hp} {l : Addr} {zs : List Tool} (h : ToolsAt C H l zs) : ∃ xs : List V, H l = some (.lst xs) ∧ xs.length = zs.length := let ⟨as, e, p⟩ := h; ⟨_, e, by rw [List.length_map]; exact Paired.length p⟩
theorem len_uses {C : Cl} {H : Hp} {l : Addr} {zs : List PUse} (h : UsesAt C H l zs) : ∃ xs : List V, H l = some (.lst xs) ∧ xs.length = zs.length := let ⟨as, e, p⟩ := h; ⟨_, e, by rw [List.length_map]; exact Paired.length p⟩
/-- an object of the book stays when a list of references at l turns -/
theorem sizes_at {C : Cl} {H : Hp} {l : Addr} {as : List Addr} {zs : List Ft.Size} {xs ys : List V} (h : Paired (SizeAt C H) as zs) (hl : H l = some (.lst xs)) : Paired (SizeAt C (upd H l (.lst ys))) as zs := Paired.imp' (fun a z ⟨dx, e⟩ => ⟨dx, by
  rw [upd_ne (ne_of e hl (by intro q; cases q))]
  exact e⟩) h
theorem tools_at {C : Cl} {H : Hp} {l : Addr} {as : List Addr} {zs : List Tool} {xs ys : List V} (h : Paired (ToolAt C H) as zs) (hl : H l = some (.lst xs)) : Paired (ToolAt C (upd H l (.lst ys))) as zs := Paired.imp' (fun a z ⟨dx, e⟩ => ⟨dx, by
  rw [upd_ne (ne_of e hl (by intro q; cases q))]
  exact e⟩) h
theorem uses_at {C : Cl} {H : Hp} {l : Addr} {as : List Addr} {zs : List PUse} {xs ys : List V} (h : Paired (UseAt C H) as zs) (hl : H l = some (.lst xs)) : Paired (UseAt C (upd H l (.lst ys))) as zs := Paired.imp' (fun a z ⟨dx, q, e, e2⟩ => ⟨dx, q, by
  rw [upd_ne (ne_of e hl (by intro q; cases q))]
  exact e, by
  rw [upd_ne (ne_of e2 hl (by intro q; cases q))]
  exact e2⟩) h
section
variable {P : Program} {w : World} {K : PySem.W.Frag} {mg : Str → Option Value} {base : Heap} {C : Cl}
def sp_Book_init (C : Cl) : Sp := SpOf (fun x : Addr => [.ref x]) fun p H Q _ => ∃ dx, H p = some (.ins C.cB dx []) ∧ ∀ H' ls lt lu, BookAt C H' p ls lt dx lu Book.empty → H ls = none → H lt = none → Keep [p] H H' → Q .non H'
theorem sc_Book_init : FnScope ["self"] ["self"] (defScope st_Book_init) := ⟨rfl, rfl, rfl, by decide +kernel, rfl, by decide +kernel, by decide +kernel⟩
theorem D_Book_init (T : Top K mg C) : IDef P w K mg base CX0 1 C.cB ["self"] (sp_Book_init C) := by
  refine idef_mk T.i_Book (fun _ _ _ _ _ _ us hl => match us, hl with | [_], _ => rfl) sc_Book_init (fun _ => rfl) fun f cdv A outer s H p Q E hr h => ?_
  obtain ⟨dx, hp, k⟩ := h
  have hm : p ∈ [p] := by simp
  refine ⟨_, (pss_cons (ps_fld (pv 0) (pe_lst pa_nil) rfl) (pss_cons (ps_fld (pv 0) (pe_lst pa_nil) rfl) (pss_one (ps_fld (pv 0) (pe_lst pa_nil) rfl)))), ?_⟩
  refine ⟨Nat.zero_le _, fun l1 h1 => ?_⟩
  have s1 : Same H (upd H l1 (.lst [])) := Same.new h1
  have n1 : p ≠ l1 := ne_of_none hp h1
  refine ⟨_, rfl, p, _, dx, _, rfl, s1 _ _ hp, T.k_Book, T.a_Book_sizes, (by show 0 < 1000; decide), Nat.zero_le _, fun l2 h2 => ?_⟩
  have n2 : p ≠ l2 := ne_of_none upd_same h2
  have n12 : l1 ≠ l2 := fun z => by
    rw [← z, upd_ne (Ne.symm n1), upd_same] at h2
    cases h2
  refine ⟨_, rfl, p, _, dx, _, rfl, (upd_ne n2).trans upd_same, T.k_Book, T.a_Book_tools, (by show 1 < 1000; decide), Nat.zero_le _, fun l3 h3 => ?_⟩
  have n3 : p ≠ l3 := ne_of_none upd_same h3
  have n13 : l1 ≠ l3 := fun z => by
    rw [← z, upd_ne (Ne.symm n1), upd_ne n12, upd_ne (Ne.symm n1), upd_same] at h3
    cases h3
  have n23 : l2 ≠ l3 := fun z => by
    rw [← z, upd_ne (Ne.symm n2), upd_same] at h3
    cases h3
  have h2H : H l2 = none := by
    rw [upd_ne (Ne.symm n2), upd_ne (Ne.symm n12)] at h2
    exact h2
  refine ⟨_, rfl, p, _, dx, _, rfl, (upd_ne n3).trans upd_same, T.k_Book, T.a_Book_uses, (by show 2 < 1000; decide), ?_⟩
  refine k _ l1 l2 l3 ⟨?_, ⟨[], ?_, .nil⟩, ⟨[], ?_, .nil⟩, ⟨[], ?_, .nil⟩, n12, Ne.symm n13, Ne.symm n23⟩ h1 h2H ?_
  · rw [upd_same]
    rfl
  · rw [upd_ne (Ne.symm n1), upd_ne n13, upd_ne (Ne.symm n1), upd_ne n12, upd_ne (Ne.symm n1), upd_same]
    rfl
  · rw [upd_ne (Ne.symm n2), upd_ne n23, upd_ne (Ne.symm n2), upd_same]
    rfl
  · rw [upd_ne (Ne.symm n3), upd_same]
    rfl
  · exact Keep.put (Keep.trans (Keep.put (Keep.trans (Keep.put (Keep.of s1) hm) (Keep.of (Same.new h2))) hm) (Keep.of (Same.new h3))) hm
/-! ### judged -/
def judgeI (s : Ft.Size) (x : Int × Int) : Int := if s.n + s.lo ≤ x.1 ∧ x.2 ≤ s.n + s.hi then 1 else if x.2 < s.n + s.lo ∨ s.n + s.hi < x.1 then 2 else 0
def sp_judged (C : Cl) : Sp := SpOf (fun x : Addr × Addr × Ft.Size × Int × Int => [.ref x.1, .ref x.2.1]) fun x H Q _ => SizeAt C H x.1 x.2.2.1 ∧ H x.2.1 = some (.tup [.int x.2.2.2.1, .int x.2.2.2.2]) ∧ Q (.int (judgeI x.2.2.1 x.2.2.2)) H
theorem sc_judged : FnScope ["size", "bounds", "least", "most"] ["size", "bounds"] (defScope st_judged) := ⟨rfl, rfl, rfl, by decide +kernel, rfl, by decide +kernel, by decide +kernel⟩
theorem D_judged (T : Top K mg C) : Def P w K mg base CX0 1 "judged" ["size", "bounds"] (sp_judged C) := by
  refine def_mk T.f_judged (fun _ _ _ _ _ _ us hl => match us, hl with | [_, _], _ => rfl) sc_judged (fun _ => rfl) fun f cdv A outer s H x Q E hr h => ?_
  obtain ⟨a, q, z, x, y⟩ := x
  try dsimp only at h
  obtain ⟨⟨dx, ha⟩, hq, k⟩ := h
  refine ⟨_, (pss_cons (ps_set (i := 2) sc_judged.nd rfl (Or.inl rfl) (pe_op op_add (pe_fld (pv 0) rfl) (pe_fld (pv 0) rfl))) (pss_cons (ps_set (i := 3) sc_judged.nd rfl (Or.inl rfl) (pe_op op_add (pe_fld (pv 0) rfl) (pe_fld (pv 0) rfl))) (pss_cons (ps_if (PW.pt (pw_and (pt_cmpR op_le (pv 2) (pe_ix ix_tup (pv 1) pe_int (fun _ _ => rfl)) (nomark _)) (pw_and1 (pt_cmpR op_le (pe_ix ix_tup (pv 1) pe_int (fun _ _ => rfl)) (pv 3) (nomark _))))) (pss_one (ps_ret (pc T.c_ACCEPTED))) pss_nil) (pss_cons (ps_if (PW.pt (pw_or (pt_cmpR op_lt (pe_ix ix_tup (pv 1) pe_int (fun _ _ => rfl)) (pv 2) (nomark _)) (pw_or1 (pt_cmpR op_lt (pv 3) (pe_ix ix_tup (pv 1) pe_int (fun _ _ => rfl)) (nomark _))))) (pss_one (ps_ret (pc T.c_REFUSED))) pss_nil) (pss_one (ps_ret (pc T.c_UNTOLD))))))), ?_⟩
  refine ⟨_, rfl, _, _, _, _, _, rfl, ha, T.k_Size, T.a_Size_nominal, l_Size_nominal, _, rfl, _, _, _, _, _, rfl, ha, T.k_Size, T.a_Size_lo, l_Size_lo, _, _, rfl, rfl, _, rfl, _, _, _, _, _, rfl, ha, T.k_Size, T.a_Size_nominal, l_Size_nominal, _, rfl, _, _, _, _, _, rfl, ha, T.k_Size, T.a_Size_hi, l_Size_hi, _, _, rfl, rfl, ?_⟩
  have no : ¬ (z.n + z.lo ≤ x ∧ y ≤ z.n + z.hi) → ∀ {R : Prop}, ((y < z.n + z.lo → Q (.int 2) H) → (¬ y < z.n + z.lo → z.n + z.hi < x → Q (.int 2) H) → (¬ y < z.n + z.lo → ¬ z.n + z.hi < x → Q (.int 0) H) → R) → R := fun c R g => by
    unfold judgeI at k
    rw [if_neg c] at k
    refine g (fun d => ?_) (fun d1 d => ?_) fun d1 d => ?_
    · rw [if_pos (.inl d)] at k
      exact k
    · rw [if_pos (.inr d)] at k
      exact k
    · rw [if_neg (fun z => z.elim d1 d)] at k
      exact k
  refine ⟨_, rfl, _, rfl, _, _, _, _, rfl, rfl, SqT.of hq, rfl, _, _, rfl, rfl, _, rfl, ifD (fun c1 => ⟨_, rfl, _, _, _, _, rfl, rfl, SqT.of hq, rfl, _, rfl, _, _, rfl, rfl, _, rfl, ifD (fun c2 => ?_) fun c2 => ?_⟩) fun c1 => iteF ?_⟩
  · unfold judgeI at k
    rw [if_pos (show z.n + z.lo ≤ x ∧ y ≤ z.n + z.hi from ⟨c1, c2⟩)] at k
    exact k
  · refine no (fun e => c2 e.2) fun g1 g2 g3 => ⟨_, rfl, _, _, _, _, rfl, rfl, SqT.of hq, rfl, _, rfl, _, _, rfl, rfl, _, rfl, ifD (fun d => iteT (g1 d)) fun d => ⟨_, rfl, _, rfl, _, _, _, _, rfl, rfl, SqT.of hq, rfl, _, _, rfl, rfl, _, rfl, ifD (fun d2 => g2 d d2) fun d2 => g3 d d2⟩⟩
  · refine no (fun e => c1 e.1) fun g1 g2 g3 => ⟨_, rfl, _, _, _, _, rfl, rfl, SqT.of hq, rfl, _, rfl, _, _, rfl, rfl, _, rfl, ifD (fun d => iteT (g1 d)) fun d => ⟨_, rfl, _, rfl, _, _, _, _, rfl, rfl, SqT.of hq, rfl, _, _, rfl, rfl, _, rfl, ifD (fun d2 => g2 d d2) fun d2 => g3 d d2⟩⟩
end
end SbW
end
section
set_option maxHeartbeats 1000000
namespace SbW
open PySem PySem.Spec L2 SbX SbEnum
open PyProof.Rows hiding St
open FtBench (Tool Book Use)
open FtNet (Bound)
open SbNet (mostAbove)
open SbBook (PUse pRows pBetween silent toP Good addItem addTool)
open Ft (Bytes)
abbrev BkA := Addr × Addr × Addr × Addr × Addr × Book
def BkAt (C : Cl) (H : Hp) (x : BkA) : Prop := BookAt C H x.1 x.2.1 x.2.2.1 x.2.2.2.1 x.2.2.2.2.1 x.2.2.2.2.2 ∧ Good x.2.2.2.2.2
abbrev StA (C : Cl) (H : Hp) (Q : VK) (x : BkA) (y : Book × List Int) : Prop := StQ C H Q x.1 x.2.1 x.2.2.1 x.2.2.2.1 x.2.2.2.2.1 y
/-- a call that leaves the book as it is -/
theorem st_same {C : Cl} {H : Hp} {Q : VK} {p ls lt dx lu : Addr} {b : Book} {ans : List Int} {xs : List V} {r : Addr} {H1 : Hp} (k : StQ C H Q p ls lt dx lu (b, ans)) (B : BookAt C H p ls lt dx lu b) (g : Good b) (s : Same H H1) (hr : H1 r = none) (e : xs = ans.map V.int) : Q (.ref r) (upd H1 r (.lst xs)) :=
  k _ r lu (B.on (s.on hr)) g (by rw [upd_same, e]) (Keep.of (s.on hr)) (s.free hr) (.inl rfl)
theorem book_item {C : Cl} {H : Hp} {p ls lt dx lu a : Addr} {b : Book} {z : Ft.Size} {xs : List V} (B : BookAt C H p ls lt dx lu b) (ha : SizeAt C H a z) (hl : H ls = some (.lst xs)) : BookAt C (upd H ls (.lst (xs ++ [.ref a]))) p ls lt dx lu (addItem b z) := by
  obtain ⟨ob, ⟨as, e1, p1⟩, ⟨ts, e2, p2⟩, ⟨us, e3, p3⟩, n1, n2, n3⟩ := B
  rw [hl] at e1
  cases e1
  refine ⟨?_, ⟨as ++ [a], ?_, ?_⟩, ⟨ts, ?_, tools_at p2 hl⟩, ⟨us, ?_, ?_⟩, n1, n2, n3⟩
  · rw [upd_ne (ne_of ob hl (by intro q; cases q))]
    exact ob
  · rw [upd_same, List.map_append]
    rfl
  · exact sizes_at (pair_append p1 (pair_one ha)) hl
  · rw [upd_ne (Ne.symm n1)]
    exact e2
  · rw [upd_ne n2]
    exact e3
  · rw [SbBook.toP_item]
    exact uses_at p3 hl
theorem book_tool {C : Cl} {H : Hp} {p ls lt dx lu a : Addr} {b : Book} {t : Tool} {xs : List V} (B : BookAt C H p ls lt dx lu b) (g : Good b) (ha : ToolAt C H a t) (hl : H lt = some (.lst xs)) : BookAt C (upd H lt (.lst (xs ++ [.ref a]))) p ls lt dx lu (addTool b t) := by
  obtain ⟨ob, ⟨as, e1, p1⟩, ⟨ts, e2, p2⟩, ⟨us, e3, p3⟩, n1, n2, n3⟩ := B
  rw [hl] at e2
  cases e2
  refine ⟨?_, ⟨as, ?_, sizes_at p1 hl⟩, ⟨ts ++ [a], ?_, ?_⟩, ⟨us, ?_, ?_⟩, n1, n2, n3⟩
  · rw [upd_ne (ne_of ob hl (by intro q; cases q))]
    exact ob
  · rw [upd_ne n1]
    exact e1
  · rw [upd_same, List.map_append]
    rfl
  · exact tools_at (pair_append p2 (pair_one ha)) hl
  · rw [upd_ne n3]
    exact e3
  · rw [SbBook.toP_tool' g.valid]
    exact uses_at p3 hl
/-- the book's uses are another list -/
theorem book_uses {C : Cl} {H : Hp} {p ls lt dx lu lv : Addr} {b b' : Book} {us : List Addr} (B : BookAt C H p ls lt dx lu b) (hi : b'.items = b.items) (ht : b'.tools = b.tools) (hl : H lv = some (.lst (us.map V.ref))) (hp : Paired (UseAt C H) us (b'.uses.map (toP b'))) (n2 : lv ≠ ls) (n3 : lv ≠ lt) :
    BookAt C (upd H p (.ins C.cB dx (putF "uses" (.ref lv) (bookF ls lt lu)))) p ls lt dx lv b' := by
  obtain ⟨ob, ⟨as, e1, p1⟩, ⟨ts, e2, p2⟩, _, n1, _, _⟩ := B
  have nl : ∀ l xs, H l = some (.lst xs) → upd H p (.ins C.cB dx (putF "uses" (.ref lv) (bookF ls lt lu))) l = some (.lst xs) := fun l xs e => by
    rw [upd_ne (ne_of e ob (by intro q; cases q))]
    exact e
  have no : ∀ a D d fs, H a = some (.ins D d fs) → fs.length ≠ 3 ∨ a ≠ p → upd H p (.ins C.cB dx (putF "uses" (.ref lv) (bookF ls lt lu))) a = some (.ins D d fs) := fun a D d fs e n => by
    have : a ≠ p := n.elim (fun n z => by
      rw [z, ob] at e
      cases e
      exact n rfl) id
    rw [upd_ne this]
    exact e
  refine ⟨upd_same.trans (by rw [p_uses]), ⟨as, nl _ _ e1, ?_⟩, ⟨ts, nl _ _ e2, ?_⟩, ⟨us, nl _ _ hl, ?_⟩, n1, n2, n3⟩
  · rw [hi]
    exact Paired.imp' (fun a z ⟨d, e⟩ => ⟨d, no _ _ _ _ e (.inl (by simp [sizeF]))⟩) p1
  · rw [ht]
    exact Paired.imp' (fun a z ⟨d, e⟩ => ⟨d, no _ _ _ _ e (.inl (by simp [toolF]))⟩) p2
  · refine Paired.imp' (fun a z ⟨d, q, e, e2⟩ => ⟨d, q, no _ _ _ _ e (.inr fun y => ?_), ?_⟩) hp
    · rw [y, ob] at e
      have e := congrArg (fun (o : Option HO) => match o with
        | some (HO.ins _ _ fs) => (fs.map fun (x : Str × V) => x.1)
        | _ => ([] : List Str)) e
      have e : (["sizes", "tools", "uses"] : List Str) = (["tool", "item", "span"] : List Str) := e
      exact absurd e (by decide +kernel)
    · rw [upd_ne (ne_of e2 ob (by intro q; cases q))]
      exact e2
section
variable {P : Program} {w : World} {K : PySem.W.Frag} {mg : Str → Option Value} {base : Heap} {C : Cl}
def sp_Book_add_tool (C : Cl) : Sp := SpOf (fun x : BkA × Addr × Tool => [.ref x.1.1, .ref x.2.1]) fun x H Q _ => BkAt C H x.1 ∧ ToolAt C H x.2.1 x.2.2 ∧ StA C H Q x.1 (FitC.step x.1.2.2.2.2.2 (.tool x.2.2))
theorem sc_Book_add_tool : FnScope ["self", "tool"] ["self", "tool"] (defScope st_Book_add_tool) := ⟨rfl, rfl, rfl, by decide +kernel, rfl, by decide +kernel, by decide +kernel⟩
theorem D_Book_add_tool (T : Top K mg C) : MDef P w K mg base CX0 3 C.cB "add_tool" ["self", "tool"] (sp_Book_add_tool C) := by
  refine mdef_mk T.m_Book_add_tool (fun _ _ _ _ _ _ us hl => match us, hl with | [_, _], _ => rfl) sc_Book_add_tool (fun _ => rfl) fun f cdv A outer s H x Q E hr h => ?_
  obtain ⟨⟨p, ls, lt, dx, lu, b⟩, ta, t⟩ := x
  try dsimp only at h
  obtain ⟨⟨B, g⟩, hta, k⟩ := h
  have B : BookAt C H p ls lt dx lu b := B
  have g : Good b := g
  have hp := B.ob
  obtain ⟨xs, et, el⟩ := len_tools B.tl
  have g8 := g.tools
  refine ⟨_, (pss_cons (ps_if (pt_not (pt_val (pe_callD (D_is_tool T) (hr.mono (by decide)) (by rfl) pass0 (pa_cons (pv 1) pa_nil)))) (pss_one (ps_ret (pe_lst (pa_cons (pc T.c_UNFIT) pa_nil)))) pss_nil) (pss_cons (ps_if (pt_cmpR op_eq (pe_callB call_len_seq (by rfl) T.n_len PySem.boot_len (pa_cons (pe_fld (pv 0) rfl) pa_nil)) (pc T.c_MOST_TOOLS) (nomark _)) (pss_one (ps_ret (pe_lst (pa_cons (pc T.c_FULL) pa_nil)))) pss_nil) (pss_cons (ps_expr (pe_bm PySem.F.plainAttrs_list PySem.F.slot_list_append PySem.F.type_list_append mt_append (pe_fld (pv 0) rfl) (pa_cons (pv 1) pa_nil))) (pss_one (ps_ret (pe_lst (pa_cons (pe_op op_sub (pe_callB call_len_seq (by rfl) T.n_len PySem.boot_len (pa_cons (pe_fld (pv 0) rfl) pa_nil)) pe_int) pa_nil))))))), ?_⟩
  have k : StQ C H Q p ls lt dx lu (if t.right = false then (b, [-3]) else if 8 ≤ b.tools.length then (b, [-7]) else (addTool b t, [(b.tools.length : Int)])) := k
  refine ⟨_, rfl, (ta, t), rfl, hta, _, rfl, ifNB (fun c => ?_) fun c => ?_⟩
  · have c : t.right = false := c
    rw [if_pos c] at k
    exact ⟨one_le', fun r hr => st_same k B g (Same.refl _) hr rfl⟩
  · have c : t.right = true := c
    rw [if_neg (by rw [c]; decide)] at k
    refine ⟨_, rfl, _, _, _, _, _, rfl, hp, T.k_Book, T.a_Book_tools, l_Book_tools, _, _, rfl, .inl (SqL.of et), rfl, _, rfl, ifE (fun d => ?_) fun d => ?_⟩
    · rw [if_pos (by omega)] at k
      exact ⟨one_le', fun r hr => st_same k B g (Same.refl _) hr rfl⟩
    · rw [if_neg (by omega)] at k
      have npl : p ≠ lt := ne_of hp et (by intro q; cases q)
      refine ⟨_, rfl, _, _, _, _, _, rfl, hp, T.k_Book, T.a_Book_tools, l_Book_tools, .inl ⟨rfl, _, SqL.of et⟩, _, rfl, lt, _, _, rfl, rfl, et, small1000 (by omega), ?_⟩
      have hp1 : upd H lt (.lst (xs ++ [.ref ta])) p = some (.ins C.cB dx (bookF ls lt lu)) := (upd_ne npl).trans hp
      refine ⟨_, rfl, _, _, _, _, _, rfl, hp1, T.k_Book, T.a_Book_tools, l_Book_tools, _, _, rfl, .inl (SqL.of upd_same), _, _, rfl, rfl, one_le', fun r hr => k _ r lu ((book_tool B g hta et).on (Same.new hr)) (SbBook.good_tool g c (by omega)) ?_ (Keep.trans (Keep.put (Keep.refl _ H) (by simp)) (Keep.of (Same.new hr))) (keep_free (Keep.put (Keep.refl _ H) (by simp)) (book_tool B g hta et) hr) (.inl rfl)⟩
      rw [upd_same]
      show some (HO.lst [V.int (((xs ++ [V.ref ta]).length : Int) - 1)]) = some (HO.lst [V.int (b.tools.length : Int)])
      rw [List.length_append, el]
      show some (HO.lst [V.int (((b.tools.length + 1 : Nat) : Int) - 1)]) = _
      rw [show ((b.tools.length + 1 : Nat) : Int) - 1 = (b.tools.length : Int) by omega]
def sp_Book_counts (C : Cl) : Sp := SpOf (fun x : BkA => [.ref x.1]) fun x H Q _ => BkAt C H x ∧ StA C H Q x (FitC.step x.2.2.2.2.2 .counts)
theorem sc_Book_counts : FnScope ["self"] ["self"] (defScope st_Book_counts) := ⟨rfl, rfl, rfl, by decide +kernel, rfl, by decide +kernel, by decide +kernel⟩
theorem D_Book_counts (T : Top K mg C) : MDef P w K mg base CX0 1 C.cB "counts" ["self"] (sp_Book_counts C) := by
  refine mdef_mk T.m_Book_counts (fun _ _ _ _ _ _ us hl => match us, hl with | [_], _ => rfl) sc_Book_counts (fun _ => rfl) fun f cdv A outer s H x Q E hr h => ?_
  obtain ⟨p, ls, lt, dx, lu, b⟩ := x
  try dsimp only at h
  obtain ⟨⟨B, g⟩, k⟩ := h
  have B : BookAt C H p ls lt dx lu b := B
  have g : Good b := g
  have hp := B.ob
  obtain ⟨x1, e1, n1⟩ := len_items B.sz
  obtain ⟨x2, e2, n2⟩ := len_tools B.tl
  obtain ⟨x3, e3, n3⟩ := len_uses B.us
  rw [List.length_map] at n3
  refine ⟨_, (pss_one (ps_ret (pe_lst (pa_cons (pe_callB call_len_seq (by rfl) T.n_len PySem.boot_len (pa_cons (pe_fld (pv 0) rfl) pa_nil)) (pa_cons (pe_callB call_len_seq (by rfl) T.n_len PySem.boot_len (pa_cons (pe_fld (pv 0) rfl) pa_nil)) (pa_cons (pe_callB call_len_seq (by rfl) T.n_len PySem.boot_len (pa_cons (pe_fld (pv 0) rfl) pa_nil)) pa_nil)))))), ?_⟩
  have k : StQ C H Q p ls lt dx lu (b, [(b.items.length : Int), (b.tools.length : Int), (b.uses.length : Int)]) := k
  refine ⟨_, rfl, _, _, _, _, _, rfl, hp, T.k_Book, T.a_Book_sizes, l_Book_sizes, _, _, rfl, .inl (SqL.of e1), _, rfl, _, _, _, _, _, rfl, hp, T.k_Book, T.a_Book_tools, l_Book_tools, _, _, rfl, .inl (SqL.of e2), _, rfl, _, _, _, _, _, rfl, hp, T.k_Book, T.a_Book_uses, l_Book_uses, _, _, rfl, .inl (SqL.of e3), three_le, fun r hr => st_same k B g (Same.refl _) hr ?_⟩
  show [V.int (x1.length : Int), V.int (x2.length : Int), V.int (x3.length : Int)] = _
  rw [n1, n2, n3]
  rfl
theorem cut_to {xs : List V} {n : Nat} (h : n ≤ xs.length) : cutV xs none (some (n : Int)) = xs.take n := by
  unfold cutV
  rw [HT.sIx_none, HT.sIx_nat, Nat.min_eq_left h]
  rfl
def sp_Book_back (C : Cl) : Sp := SpOf (fun x : BkA × Nat => [.ref x.1.1, .int x.2]) fun x H Q _ => BkAt C H x.1 ∧ StA C H Q x.1 (FitC.step x.1.2.2.2.2.2 (.back x.2))
theorem sc_Book_back : FnScope ["self", "n"] ["self", "n"] (defScope st_Book_back) := ⟨rfl, rfl, rfl, by decide +kernel, rfl, by decide +kernel, by decide +kernel⟩
theorem D_Book_back (T : Top K mg C) : MDef P w K mg base CX0 1 C.cB "back" ["self", "n"] (sp_Book_back C) := by
  refine mdef_mk T.m_Book_back (fun _ _ _ _ _ _ us hl => match us, hl with | [_, _], _ => rfl) sc_Book_back (fun _ => rfl) fun f cdv A outer s H x Q E hr h => ?_
  obtain ⟨⟨p, ls, lt, dx, lu, b⟩, n⟩ := x
  try dsimp only at h
  obtain ⟨⟨B, g⟩, k⟩ := h
  have B : BookAt C H p ls lt dx lu b := B
  have g : Good b := g
  have hp := B.ob
  obtain ⟨us, e3, p3⟩ := id B.us
  have n3 : us.length = b.uses.length := by
    have := pair_len p3
    rw [List.length_map] at this
    exact this
  refine ⟨_, (pss_cons (ps_if (pt_cmpR op_gt (pv 1) (pe_callB call_len_seq (by rfl) T.n_len PySem.boot_len (pa_cons (pe_fld (pv 0) rfl) pa_nil)) (nomark _)) (pss_one (ps_ret (pe_lst (pa_cons (pc T.c_NO_SUCH) pa_nil)))) pss_nil) (pss_cons (ps_fld (pv 0) (pe_slice sl_list (pe_fld (pv 0) rfl) po_none (po_some (pv 1))) rfl) (pss_one (ps_ret (pe_lst (pa_cons (pv 1) pa_nil)))))), ?_⟩
  have k : StQ C H Q p ls lt dx lu (if b.uses.length < n then (b, [-4]) else (b.first n, [(n : Int)])) := k
  have nm : (us.map V.ref).length = b.uses.length := by rw [List.length_map, n3]
  refine ⟨_, rfl, _, rfl, _, _, _, _, _, rfl, hp, T.k_Book, T.a_Book_uses, l_Book_uses, _, _, rfl, .inl (SqL.of e3), _, _, rfl, rfl, _, rfl, ifD (fun c => ?_) fun c => ?_⟩
  · have c : ((us.map V.ref).length : Int) < (n : Int) := c
    rw [if_pos (by omega)] at k
    exact ⟨one_le', fun r hr => st_same k B g (Same.refl _) hr rfl⟩
  · have c : ¬ ((us.map V.ref).length : Int) < (n : Int) := c
    rw [if_neg (by omega)] at k
    refine ⟨_, rfl, _, _, _, _, _, rfl, hp, T.k_Book, T.a_Book_uses, l_Book_uses, _, rfl, _, rfl, _, _, rfl, SqL.of e3, fun l2 h2 => ?_⟩
    have s1 : Same H (upd H l2 (.lst (cutV (us.map V.ref) none (some (n : Int))))) := Same.new h2
    have e2 : upd H l2 (.lst (cutV (us.map V.ref) none (some (n : Int)))) l2 = some (.lst ((us.take n).map V.ref)) := by
      rw [upd_same, cut_to (by omega), List.map_take]
    obtain ⟨x1, e1, _⟩ := len_items B.sz
    obtain ⟨x2, e4, _⟩ := len_tools B.tl
    have B1 := B.on s1
    refine ⟨_, rfl, p, _, dx, _, rfl, s1 _ _ hp, T.k_Book, T.a_Book_uses, (by show 3 < 1000; decide), ?_⟩
    have B2 := book_uses (b' := b.first n) B1 rfl rfl e2 (by
      rw [SbBook.toP_first]
      exact pair_take (Paired.imp' (fun _ _ q => q.on s1) p3) n) (Ne.symm (ne_of_none e1 h2)) (Ne.symm (ne_of_none e4 h2))
    exact ⟨_, rfl, one_le', fun r hr => k _ r l2 (B2.on (Same.new hr)) (SbBook.good_first g) upd_same (Keep.trans (Keep.put (Keep.of s1) (by simp)) (Keep.of (Same.new hr))) (keep_free (Keep.put (Keep.of s1) (by simp)) B2 hr) (.inr h2)⟩
/-! ### what is told -/
/-- the book as the worlds' defs take it -/
abbrev argsB (b : Book) (lt lu : Addr) : BkArgs := (b.items.length, lt, lu, b.tools, b.uses.map (toP b))
theorem bk_ok {H : Hp} {p ls lt dx lu : Addr} {b : Book} (B : BookAt C H p ls lt dx lu b) (g : Good b) : BkOk C H (argsB b lt lu) := ⟨B.tl, B.us, ⟨SbBook.use_tool g, by
  show (b.uses.map (toP b)).length ≤ 40
  rw [List.length_map]
  have := g.uses
  omega, by
  have := g.items
  show b.items.length ≤ 40
  omega⟩⟩
theorem vals_b (b : Book) (lt lu : Addr) : valsA (argsB b lt lu) = b.size := by
  show 1 + b.items.length + (b.uses.map (toP b)).length = b.size
  rw [List.length_map]
  rfl
theorem in_b {b : Book} (g : Good b) (lt lu : Addr) : InR (valsA (argsB b lt lu)) (rowsA (argsB b lt lu)) := by
  rw [vals_b]
  exact SbBook.rows_in g.valid
def sp_Book_bounds_of (C : Cl) : Sp := SpOf (fun x : BkA × Nat => [.ref x.1.1, .int x.2]) fun x H Q _ => BkAt C H x.1 ∧ x.2 < x.1.2.2.2.2.2.items.length ∧
  ∀ H' q, Same H H' → H' q = some (.tup [.int (FtBench.known x.1.2.2.2.2.2 x.2).1, .int (FtBench.known x.1.2.2.2.2.2 x.2).2]) → Q (.ref q) H'
theorem item_lt {b : Book} {i : Nat} (h : i < b.items.length) : i + 1 < b.size := by
  unfold FtBench.Book.size
  omega
theorem between_item {b : Book} (g : Good b) {i : Nat} (h : i < b.items.length) (lt lu : Addr) : pBetween (rowsA (argsB b lt lu)) (valsA (argsB b lt lu)) 0 (i + 1) (FtBench.known b i) := by
  rw [vals_b]
  have e : FtBench.known b i = FtBench.both (FtNet.ends b.size (FtBench.table b) 0 (i + 1)) := by
    unfold FtBench.known FtBench.itemNo
    rw [Nat.add_comm 1 i]
  rw [e]
  exact SbBook.p_ends g.valid g.poss (SbBook.size_pos b) (item_lt h)
theorem sc_Book_bounds_of : FnScope ["self", "item"] ["self", "item"] (defScope st_Book_bounds_of) := ⟨rfl, rfl, rfl, by decide +kernel, rfl, by decide +kernel, by decide +kernel⟩
theorem D_Book_bounds_of (T : Top K mg C) : MDef P w K mg base CX0 6 C.cB "bounds_of" ["self", "item"] (sp_Book_bounds_of C) := by
  refine mdef_mk T.m_Book_bounds_of (fun _ _ _ _ _ _ us hl => match us, hl with | [_, _], _ => rfl) sc_Book_bounds_of (fun _ => rfl) fun f cdv A outer s H x Q E hr h => ?_
  obtain ⟨⟨p, ls, lt, dx, lu, b⟩, i⟩ := x
  try dsimp only at h
  obtain ⟨⟨B, g⟩, hi, k⟩ := h
  have B : BookAt C H p ls lt dx lu b := B
  have g : Good b := g
  have hi : i < b.items.length := hi
  have hp := B.ob
  obtain ⟨x1, e1, n1⟩ := len_items B.sz
  refine ⟨_, (pss_one (ps_ret (pe_callD (D_item_bounds T) (hr.mono (by decide)) (by rfl) pass0 (pa_cons (pe_callB call_len_seq (by rfl) T.n_len PySem.boot_len (pa_cons (pe_fld (pv 0) rfl) pa_nil)) (pa_cons (pe_fld (pv 0) rfl) (pa_cons (pe_fld (pv 0) rfl) (pa_cons (pv 1) pa_nil))))))), ?_⟩
  refine ⟨_, rfl, _, _, _, _, _, rfl, hp, T.k_Book, T.a_Book_sizes, l_Book_sizes, _, _, rfl, .inl (SqL.of e1), _, rfl, _, _, _, _, _, rfl, hp, T.k_Book, T.a_Book_tools, l_Book_tools, _, rfl, _, _, _, _, _, rfl, hp, T.k_Book, T.a_Book_uses, l_Book_uses, _, rfl, (argsB b lt lu, i, FtBench.known b i), ?_, bk_ok B g, in_b g lt lu, ?_, ?_, between_item g hi lt lu, fun H' q s1 e => k H' q s1 e⟩
  · show [V.int (x1.length : Int), V.ref lt, V.ref lu, V.int (i : Int)] = [V.int (b.items.length : Int), V.ref lt, V.ref lu, V.int (i : Int)]
    rw [n1]
  · rw [vals_b]
    exact SbBook.size_pos b
  · rw [vals_b]
    exact item_lt hi
theorem ge_len {n m : Nat} {xs : List V} (e : xs.length = m) : ((xs.length : Int) ≤ (n : Int)) ↔ m ≤ n := by
  rw [e]
  omega
/-- [0] + list(a pair) -/
theorem st_pair {H H1 : Hp} {Q : VK} {p ls lt dx lu r : Addr} {b : Book} {x : Int × Int} {xs : List V} (k : StQ C H Q p ls lt dx lu (b, FitC.pair x)) (B : BookAt C H p ls lt dx lu b) (g : Good b) (s : Same H H1) (hr : H1 r = none) (e : xs = [.int 0, .int x.1, .int x.2]) : Q (.ref r) (upd H1 r (.lst xs)) :=
  st_same k B g s hr (by rw [e]; rfl)
def sp_Book_known (C : Cl) : Sp := SpOf (fun x : BkA × Nat => [.ref x.1.1, .int x.2]) fun x H Q _ => BkAt C H x.1 ∧ StA C H Q x.1 (FitC.step x.1.2.2.2.2.2 (.known x.2))
theorem sc_Book_known : FnScope ["self", "item"] ["self", "item"] (defScope st_Book_known) := ⟨rfl, rfl, rfl, by decide +kernel, rfl, by decide +kernel, by decide +kernel⟩
theorem D_Book_known (T : Top K mg C) : MDef P w K mg base CX0 7 C.cB "known" ["self", "item"] (sp_Book_known C) := by
  refine mdef_mk T.m_Book_known (fun _ _ _ _ _ _ us hl => match us, hl with | [_, _], _ => rfl) sc_Book_known (fun _ => rfl) fun f cdv A outer s H x Q E hr h => ?_
  obtain ⟨⟨p, ls, lt, dx, lu, b⟩, i⟩ := x
  try dsimp only at h
  obtain ⟨⟨B, g⟩, k⟩ := h
  have B : BookAt C H p ls lt dx lu b := B
  have g : Good b := g
  have hp := B.ob
  obtain ⟨x1, e1, n1⟩ := len_items B.sz
  refine ⟨_, (pss_cons (ps_if (pt_cmpR op_ge (pv 1) (pe_callB call_len_seq (by rfl) T.n_len PySem.boot_len (pa_cons (pe_fld (pv 0) rfl) pa_nil)) (nomark _)) (pss_one (ps_ret (pe_lst (pa_cons (pc T.c_NO_SUCH) pa_nil)))) pss_nil) (pss_one (ps_ret (pe_op op_cat (pe_lst (pa_cons pe_int pa_nil)) (pe_callTy call_list_of (by rfl) T.n_list boot_list (pa_cons (pe_methD (pv 0) T.k_Book (D_Book_bounds_of T) (hr.mono (by decide)) pass0 (pa_cons (pv 1) pa_nil)) pa_nil)))))), ?_⟩
  have k : StQ C H Q p ls lt dx lu (b, if b.items.length ≤ i then [-4] else FitC.pair (FtBench.known b i)) := k
  refine ⟨_, rfl, _, rfl, _, _, _, _, _, rfl, hp, T.k_Book, T.a_Book_sizes, l_Book_sizes, _, _, rfl, .inl (SqL.of e1), _, _, rfl, rfl, _, rfl, ifD (fun c => ?_) fun c => ?_⟩
  · rw [if_pos ((ge_len n1).mp c)] at k
    exact ⟨one_le', fun r hr => st_same k B g (Same.refl _) hr rfl⟩
  · have c : ¬ b.items.length ≤ i := fun z => c ((ge_len n1).mpr z)
    rw [if_neg c] at k
    refine ⟨one_le', fun l1 h1 => ?_⟩
    have s1 : Same H (upd H l1 (.lst [.int 0])) := Same.new h1
    have hp1 := s1 _ _ hp
    refine ⟨_, rfl, _, _, _, rfl, hp1, no_Book (by decide +kernel), _, rfl, ((p, ls, lt, dx, lu, b), i), rfl, ⟨B.on s1, g⟩, Nat.lt_of_not_le c, fun H2 q s2 hq => ⟨q, _, rfl, .inr (SqT.of hq), fun l2 h2 => ?_⟩⟩
    refine ⟨l1, l2, _, _, rfl, rfl, (s2.on h2) _ _ upd_same, upd_same, three_le, fun r hr => st_pair k B g ((s1.trans s2).on h2) hr rfl⟩
end
end SbW
end
section
set_option maxHeartbeats 1000000
namespace SbW
open PySem PySem.Spec L2 SbX SbEnum
open PyProof.Rows hiding St
open FtBench (Tool Book Use)
open FtNet (Bound)
open SbNet (mostAbove)
open SbBook (PUse pRows pBetween silent toP Good addItem addTool)
open Ft (Bytes)
section
variable {P : Program} {w : World} {K : PySem.W.Frag} {mg : Str → Option Value} {base : Heap} {C : Cl}
def sp_Book_judge (C : Cl) : Sp := SpOf (fun x : BkA × Nat => [.ref x.1.1, .int x.2]) fun x H Q _ => BkAt C H x.1 ∧ StA C H Q x.1 (FitC.step x.1.2.2.2.2.2 (.judge x.2))
theorem judge_eq {b : Book} {i : Nat} {s : Ft.Size} (h : b.items[i]? = some s) : ((FtBench.judge b i : Nat) : Int) = judgeI s (FtBench.known b i) := by
  unfold FtBench.judge judgeI
  rw [h]
  simp only
  split
  · rfl
  · split <;> rfl
theorem sc_Book_judge : FnScope ["self", "item"] ["self", "item"] (defScope st_Book_judge) := ⟨rfl, rfl, rfl, by decide +kernel, rfl, by decide +kernel, by decide +kernel⟩
theorem D_Book_judge (T : Top K mg C) : MDef P w K mg base CX0 7 C.cB "judge" ["self", "item"] (sp_Book_judge C) := by
  refine mdef_mk T.m_Book_judge (fun _ _ _ _ _ _ us hl => match us, hl with | [_, _], _ => rfl) sc_Book_judge (fun _ => rfl) fun f cdv A outer s H x Q E hr h => ?_
  obtain ⟨⟨p, ls, lt, dx, lu, b⟩, i⟩ := x
  try dsimp only at h
  obtain ⟨⟨B, g⟩, k⟩ := h
  have B : BookAt C H p ls lt dx lu b := B
  have g : Good b := g
  have hp := B.ob
  obtain ⟨as, e1, p1⟩ := id B.sz
  have n1 : (as.map V.ref).length = b.items.length := by rw [List.length_map]; exact pair_len p1
  refine ⟨_, (pss_cons (ps_if (pt_cmpR op_ge (pv 1) (pe_callB call_len_seq (by rfl) T.n_len PySem.boot_len (pa_cons (pe_fld (pv 0) rfl) pa_nil)) (nomark _)) (pss_one (ps_ret (pe_lst (pa_cons (pc T.c_NO_SUCH) pa_nil)))) pss_nil) (pss_one (ps_ret (pe_lst (pa_cons (pe_callD (D_judged T) (hr.mono (by decide)) (by rfl) pass0 (pa_cons (pe_ix ix_list (pe_fld (pv 0) rfl) (pv 1) (fun _ _ => rfl)) (pa_cons (pe_methD (pv 0) T.k_Book (D_Book_bounds_of T) (hr.mono (by decide)) pass0 (pa_cons (pv 1) pa_nil)) pa_nil))) pa_nil))))), ?_⟩
  have k : StQ C H Q p ls lt dx lu (b, if b.items.length ≤ i then [-4] else [((FtBench.judge b i : Nat) : Int)]) := k
  refine ⟨_, rfl, _, rfl, _, _, _, _, _, rfl, hp, T.k_Book, T.a_Book_sizes, l_Book_sizes, _, _, rfl, .inl (SqL.of e1), _, _, rfl, rfl, _, rfl, ifD (fun c => ?_) fun c => ?_⟩
  · rw [if_pos ((ge_len n1).mp c)] at k
    exact ⟨one_le', fun r hr => st_same k B g (Same.refl _) hr rfl⟩
  · have c : ¬ b.items.length ≤ i := fun z => c ((ge_len n1).mpr z)
    rw [if_neg c] at k
    have hi : i < b.items.length := Nat.lt_of_not_le c
    have es := List.getElem?_eq_getElem hi
    obtain ⟨sa, hsa, hs⟩ := pair_get p1 es
    rw [judge_eq es] at k
    refine ⟨_, rfl, _, _, _, _, _, rfl, hp, T.k_Book, T.a_Book_sizes, l_Book_sizes, _, rfl, _, _, _, _, rfl, rfl, SqL.of e1, at_of (j := i) (v := .ref sa) rfl (by rw [List.getElem?_map, hsa]; rfl), _, rfl, _, _, _, rfl, hp, no_Book (by decide +kernel), _, rfl, ((p, ls, lt, dx, lu, b), i), rfl, ⟨B, g⟩, hi, fun H2 q s2 hq =>
      ⟨(sa, q, b.items[i], FtBench.known b i), rfl, hs.on s2, hq, one_le', fun r hr => st_same k B g s2 hr rfl⟩⟩
def sp_Book_apart (C : Cl) : Sp := SpOf (fun x : BkA × Nat × Nat => [.ref x.1.1, .int x.2.1, .int x.2.2]) fun x H Q _ => BkAt C H x.1 ∧ StA C H Q x.1 (FitC.step x.1.2.2.2.2.2 (.apart x.2.1 x.2.2))
theorem between_apart {b : Book} (g : Good b) {i j : Nat} (h : i < b.items.length) (h' : j < b.items.length) (lt lu : Addr) : pBetween (rowsA (argsB b lt lu)) (valsA (argsB b lt lu)) (i + 1) (j + 1) (FtBench.apart b i j) := by
  rw [vals_b]
  have e : FtBench.apart b i j = FtBench.both (FtNet.ends b.size (FtBench.table b) (i + 1) (j + 1)) := by
    unfold FtBench.apart FtBench.itemNo
    rw [Nat.add_comm 1 i, Nat.add_comm 1 j]
  rw [e]
  exact SbBook.p_ends g.valid g.poss (item_lt h) (item_lt h')
theorem sc_Book_apart : FnScope ["self", "i", "j"] ["self", "i", "j"] (defScope st_Book_apart) := ⟨rfl, rfl, rfl, by decide +kernel, rfl, by decide +kernel, by decide +kernel⟩
theorem D_Book_apart (T : Top K mg C) : MDef P w K mg base CX0 6 C.cB "apart" ["self", "i", "j"] (sp_Book_apart C) := by
  refine mdef_mk T.m_Book_apart (fun _ _ _ _ _ _ us hl => match us, hl with | [_, _, _], _ => rfl) sc_Book_apart (fun _ => rfl) fun f cdv A outer s H x Q E hr h => ?_
  obtain ⟨⟨p, ls, lt, dx, lu, b⟩, i, j⟩ := x
  try dsimp only at h
  obtain ⟨⟨B, g⟩, k⟩ := h
  have B : BookAt C H p ls lt dx lu b := B
  have g : Good b := g
  have hp := B.ob
  obtain ⟨x1, e1, n1⟩ := len_items B.sz
  refine ⟨_, (pss_cons (ps_if (PW.pt (pw_or (pt_cmpR op_ge (pv 1) (pe_callB call_len_seq (by rfl) T.n_len PySem.boot_len (pa_cons (pe_fld (pv 0) rfl) pa_nil)) (nomark _)) (pw_or1 (pt_cmpR op_ge (pv 2) (pe_callB call_len_seq (by rfl) T.n_len PySem.boot_len (pa_cons (pe_fld (pv 0) rfl) pa_nil)) (nomark _))))) (pss_one (ps_ret (pe_lst (pa_cons (pc T.c_NO_SUCH) pa_nil)))) pss_nil) (pss_one (ps_ret (pe_op op_cat (pe_lst (pa_cons pe_int pa_nil)) (pe_callTy call_list_of (by rfl) T.n_list boot_list (pa_cons (pe_callD (D_apart_bounds T) (hr.mono (by decide)) (by rfl) pass0 (pa_cons (pe_callB call_len_seq (by rfl) T.n_len PySem.boot_len (pa_cons (pe_fld (pv 0) rfl) pa_nil)) (pa_cons (pe_fld (pv 0) rfl) (pa_cons (pe_fld (pv 0) rfl) (pa_cons (pv 1) (pa_cons (pv 2) pa_nil)))))) pa_nil)))))), ?_⟩
  have k : StQ C H Q p ls lt dx lu (b, if b.items.length ≤ i ∨ b.items.length ≤ j then [-4] else FitC.pair (FtBench.apart b i j)) := k
  have no : (b.items.length ≤ i ∨ b.items.length ≤ j) → ∀ r, H r = none → Q (.ref r) (upd H r (.lst [.int (-4)])) := fun c r hr => by
    rw [if_pos c] at k
    exact st_same k B g (Same.refl _) hr rfl
  refine ⟨_, rfl, _, rfl, _, _, _, _, _, rfl, hp, T.k_Book, T.a_Book_sizes, l_Book_sizes, _, _, rfl, .inl (SqL.of e1), _, _, rfl, rfl, _, rfl, ifD (fun c => iteT ⟨one_le', no (.inl ((ge_len n1).mp c))⟩) fun c => ⟨_, rfl, _, rfl, _, _, _, _, _, rfl, hp, T.k_Book, T.a_Book_sizes, l_Book_sizes, _, _, rfl, .inl (SqL.of e1), _, _, rfl, rfl, _, rfl, ifD (fun d => ⟨one_le', no (.inr ((ge_len n1).mp d))⟩) fun d => ?_⟩⟩
  have c : ¬ b.items.length ≤ i := fun z => c ((ge_len n1).mpr z)
  have d : ¬ b.items.length ≤ j := fun z => d ((ge_len n1).mpr z)
  have hi : i < b.items.length := Nat.lt_of_not_le c
  have hj : j < b.items.length := Nat.lt_of_not_le d
  rw [if_neg (fun z => z.elim c d)] at k
  refine ⟨one_le', fun l1 h1 => ?_⟩
  have s1 : Same H (upd H l1 (.lst [.int 0])) := Same.new h1
  have hp1 := s1 _ _ hp
  refine ⟨_, rfl, _, _, _, _, _, rfl, hp1, T.k_Book, T.a_Book_sizes, l_Book_sizes, _, _, rfl, .inl (SqL.of (s1 _ _ e1)), _, rfl, _, _, _, _, _, rfl, hp1, T.k_Book, T.a_Book_tools, l_Book_tools, _, rfl, _, _, _, _, _, rfl, hp1, T.k_Book, T.a_Book_uses, l_Book_uses, _, rfl, _, rfl, (argsB b lt lu, i, j, FtBench.apart b i j), ?_, bk_ok (B.on s1) g, in_b g lt lu, ?_, ?_, between_apart g hi hj lt lu, fun H2 q s2 hq => ⟨q, _, rfl, .inr (SqT.of hq), fun l2 h2 => ?_⟩⟩
  · show [V.int (x1.length : Int), V.ref lt, V.ref lu, V.int (i : Int), V.int (j : Int)] = [V.int (b.items.length : Int), V.ref lt, V.ref lu, V.int (i : Int), V.int (j : Int)]
    rw [n1]
  · rw [vals_b]
    exact item_lt hi
  · rw [vals_b]
    exact item_lt hj
  · refine ⟨l1, l2, _, _, rfl, rfl, (s2.on h2) _ _ upd_same, upd_same, three_le, fun r hr => st_pair k B g ((s1.trans s2).on h2) hr rfl⟩
def sp_Book_upcoming (C : Cl) : Sp := SpOf (fun x : BkA × Nat => [.ref x.1.1, .int x.2]) fun x H Q _ => BkAt C H x.1 ∧ StA C H Q x.1 (FitC.step x.1.2.2.2.2.2 (.next x.2))
theorem next_turn (b : Book) (t : Nat) : FtBench.next b t = turnP (b.tool t) (SbBook.nextRaw b t) := by
  rw [SbBook.next_raw]
  unfold turnP
  rfl
theorem sc_Book_upcoming : FnScope ["self", "tool", "marks"] ["self", "tool"] (defScope st_Book_upcoming) := ⟨rfl, rfl, rfl, by decide +kernel, rfl, by decide +kernel, by decide +kernel⟩
theorem D_Book_upcoming (T : Top K mg C) : MDef P w K mg base CX0 6 C.cB "upcoming" ["self", "tool"] (sp_Book_upcoming C) := by
  refine mdef_mk T.m_Book_upcoming (fun _ _ _ _ _ _ us hl => match us, hl with | [_, _], _ => rfl) sc_Book_upcoming (fun _ => rfl) fun f cdv A outer s H x Q E hr h => ?_
  obtain ⟨⟨p, ls, lt, dx, lu, b⟩, t⟩ := x
  try dsimp only at h
  obtain ⟨⟨B, g⟩, k⟩ := h
  have B : BookAt C H p ls lt dx lu b := B
  have g : Good b := g
  have hp := B.ob
  obtain ⟨x1, e1, n1⟩ := len_items B.sz
  obtain ⟨ts, et, pt⟩ := id B.tl
  have nt : (ts.map V.ref).length = b.tools.length := by rw [List.length_map]; exact pair_len pt
  refine ⟨_, (pss_cons (ps_if (pt_cmpR op_ge (pv 1) (pe_callB call_len_seq (by rfl) T.n_len PySem.boot_len (pa_cons (pe_fld (pv 0) rfl) pa_nil)) (nomark _)) (pss_one (ps_ret (pe_lst (pa_cons (pc T.c_NO_SUCH) pa_nil)))) pss_nil) (pss_cons (ps_set (i := 2) sc_Book_upcoming.nd rfl (Or.inl rfl) (pe_callD (D_next_mark_bounds T) (hr.mono (by decide)) (by rfl) pass0 (pa_cons (pe_callB call_len_seq (by rfl) T.n_len PySem.boot_len (pa_cons (pe_fld (pv 0) rfl) pa_nil)) (pa_cons (pe_fld (pv 0) rfl) (pa_cons (pe_fld (pv 0) rfl) (pa_cons (pv 1) pa_nil)))))) (pss_one (ps_ret (pe_op op_cat (pe_lst (pa_cons pe_int pa_nil)) (pe_callTy call_list_of (by rfl) T.n_list boot_list (pa_cons (pe_callD (D_turned T) (hr.mono (by decide)) (by rfl) pass0 (pa_cons (pe_ix ix_list (pe_fld (pv 0) rfl) (pv 1) (fun _ _ => rfl)) (pa_cons (pv 2) pa_nil))) pa_nil))))))), ?_⟩
  have k : StQ C H Q p ls lt dx lu (b, if b.tools.length ≤ t then [-4] else FitC.pair (FtBench.next b t)) := k
  refine ⟨_, rfl, _, rfl, _, _, _, _, _, rfl, hp, T.k_Book, T.a_Book_tools, l_Book_tools, _, _, rfl, .inl (SqL.of et), _, _, rfl, rfl, _, rfl, ifD (fun c => ?_) fun c => ?_⟩
  · rw [if_pos ((ge_len nt).mp c)] at k
    exact ⟨one_le', fun r hr => st_same k B g (Same.refl _) hr rfl⟩
  · have c : ¬ b.tools.length ≤ t := fun z => c ((ge_len nt).mpr z)
    rw [if_neg c, next_turn] at k
    have ht : t < b.tools.length := Nat.lt_of_not_le c
    obtain ⟨em, mm⟩ := SbBook.tool_mem ht
    obtain ⟨ta, hta, htt⟩ := pair_get pt em
    have hlo := SbBook.right_le (g.right _ mm)
    have g32 := g.uses
    refine ⟨_, rfl, _, _, _, _, _, rfl, hp, T.k_Book, T.a_Book_sizes, l_Book_sizes, _, _, rfl, .inl (SqL.of e1), _, rfl, _, _, _, _, _, rfl, hp, T.k_Book, T.a_Book_tools, l_Book_tools, _, rfl, _, _, _, _, _, rfl, hp, T.k_Book, T.a_Book_uses, l_Book_uses, _, rfl, (argsB b lt lu, t, SbBook.nextRaw b t), ?_, bk_ok B g, ht, ?_, ?_, ?_, fun H1 q s1 hq => ?_⟩
    · show [V.int (x1.length : Int), V.ref lt, V.ref lu, V.int (t : Int)] = [V.int (b.items.length : Int), V.ref lt, V.ref lu, V.int (t : Int)]
      rw [n1]
    · show (b.uses.map (toP b)).length ≤ 39
      rw [List.length_map]
      omega
    · rw [vals_b]
      exact SbBook.more_in g.valid t
    · rw [vals_b]
      exact SbBook.p_next g.valid g.poss hlo
    · refine ⟨one_le', fun l1 h1 => ?_⟩
      have s2 : Same H1 (upd H1 l1 (.lst [.int 0])) := Same.new h1
      have s12 := s1.trans s2
      have hp1 := s12 _ _ hp
      refine ⟨_, rfl, _, _, _, _, _, rfl, hp1, T.k_Book, T.a_Book_tools, l_Book_tools, _, rfl, _, _, _, _, rfl, rfl, SqL.of (s12 _ _ et), at_of (j := t) (v := .ref ta) rfl (by rw [List.getElem?_map, hta]; rfl), _, rfl, (ta, b.tool t, q, SbBook.nextRaw b t), rfl, htt.on s12, s2 _ _ hq, fun H3 q3 s3 hq3 => ⟨q3, _, rfl, .inr (SqT.of hq3), fun l2 h2 => ?_⟩⟩
      refine ⟨l1, l2, _, _, rfl, rfl, (s3.on h2) _ _ upd_same, upd_same, three_le, fun r hr => st_pair k B g ((s12.trans s3).on h2) hr rfl⟩
/-! ### uses -/
def sp_Book_add_use (C : Cl) : Sp := SpOf (fun x : BkA × Addr × Use => [.ref x.1.1, .ref x.2.1]) fun x H Q _ => BkAt C H x.1 ∧ UseAt C H x.2.1 (toP x.1.2.2.2.2.2 x.2.2) ∧ SbBook.Use.okIn x.1.2.2.2.2.2 x.2.2 ∧ StA C H Q x.1 (FitC.used x.1.2.2.2.2.2 x.2.2)
theorem sc_Book_add_use : FnScope ["self", "use", "uses"] ["self", "use"] (defScope st_Book_add_use) := ⟨rfl, rfl, rfl, by decide +kernel, rfl, by decide +kernel, by decide +kernel⟩
theorem D_Book_add_use (T : Top K mg C) : MDef P w K mg base CX0 5 C.cB "add_use" ["self", "use"] (sp_Book_add_use C) := by
  refine mdef_mk T.m_Book_add_use (fun _ _ _ _ _ _ us hl => match us, hl with | [_, _], _ => rfl) sc_Book_add_use (fun _ => rfl) fun f cdv A outer s H x Q E hr h => ?_
  obtain ⟨⟨p, ls, lt, dx, lu, b⟩, ua, u⟩ := x
  try dsimp only at h
  obtain ⟨⟨B, g⟩, hu, ho, k⟩ := h
  have B : BookAt C H p ls lt dx lu b := B
  have g : Good b := g
  have hu : UseAt C H ua (toP b u) := hu
  have ho : SbBook.Use.okIn b u := ho
  have hp := B.ob
  obtain ⟨x1, e1, n1⟩ := len_items B.sz
  obtain ⟨x2, e2, _⟩ := len_tools B.tl
  obtain ⟨us, e3, p3⟩ := id B.us
  have n3 : us.length = b.uses.length := by
    have := pair_len p3
    rw [List.length_map] at this
    exact this
  have nm : (us.map V.ref).length = b.uses.length := by rw [List.length_map, n3]
  have g32 := g.uses
  refine ⟨_, (pss_cons (ps_if (pt_cmpR op_eq (pe_callB call_len_seq (by rfl) T.n_len PySem.boot_len (pa_cons (pe_fld (pv 0) rfl) pa_nil)) (pc T.c_MOST_USES) (nomark _)) (pss_one (ps_ret (pe_lst (pa_cons (pc T.c_FULL) pa_nil)))) pss_nil) (pss_cons (ps_set (i := 2) sc_Book_add_use.nd rfl (Or.inl rfl) (pe_op op_cat (pe_fld (pv 0) rfl) (pe_lst (pa_cons (pv 1) pa_nil)))) (pss_cons (ps_if (pt_not (pt_val (pe_callD (D_is_possible T) (hr.mono (by decide)) (by rfl) pass0 (pa_cons (pe_callB call_len_seq (by rfl) T.n_len PySem.boot_len (pa_cons (pe_fld (pv 0) rfl) pa_nil)) (pa_cons (pe_fld (pv 0) rfl) (pa_cons (pv 2) pa_nil)))))) (pss_one (ps_ret (pe_lst (pa_cons (pc T.c_IMPOSSIBLE) pa_nil)))) pss_nil) (pss_cons (ps_fld (pv 0) (pv 2) rfl) (pss_one (ps_ret (pe_lst (pa_cons (pe_callB call_len_seq (by rfl) T.n_len PySem.boot_len (pa_cons (pv 2) pa_nil)) pa_nil)))))))), ?_⟩
  have k : StQ C H Q p ls lt dx lu (if 32 ≤ b.uses.length then (b, [-7]) else if FtBench.possible (b.more u) = true then (b.more u, [((b.uses.length + 1 : Nat) : Int)]) else (b, [-5])) := k
  refine ⟨_, rfl, _, _, _, _, _, rfl, hp, T.k_Book, T.a_Book_uses, l_Book_uses, _, _, rfl, .inl (SqL.of e3), rfl, _, rfl, ifE (fun c => ?_) fun c => ?_⟩
  · rw [if_pos (by omega)] at k
    exact ⟨one_le', fun r hr => st_same k B g (Same.refl _) hr rfl⟩
  · have h32 : ¬ 32 ≤ b.uses.length := by omega
    rw [if_neg h32] at k
    refine ⟨_, rfl, _, _, _, _, _, rfl, hp, T.k_Book, T.a_Book_uses, l_Book_uses, _, rfl, one_le', fun l1 h1 => ⟨lu, l1, us.map V.ref, [.ref ua], rfl, rfl, (Same.new h1) _ _ e3, upd_same, ?_, fun l2 h2 => ?_⟩⟩
    · rw [nm]
      exact k_le (by show b.uses.length + 1 ≤ 1000; omega)
    · have s1 : Same H (upd (upd H l1 (.lst [.ref ua])) l2 (.lst (us.map V.ref ++ [.ref ua]))) := (Same.new h1).on h2
      have hl2 : upd (upd H l1 (.lst [.ref ua])) l2 (.lst (us.map V.ref ++ [.ref ua])) l2 = some (.lst ((us ++ [ua]).map V.ref)) := by
        rw [upd_same, List.map_append]
        rfl
      have p2 : Paired (UseAt C (upd (upd H l1 (.lst [.ref ua])) l2 (.lst (us.map V.ref ++ [.ref ua])))) (us ++ [ua]) ((b.more u).uses.map (toP (b.more u))) := by
        rw [SbBook.toP_more]
        exact pair_append (Paired.imp' (fun _ _ q => q.on s1) p3) (pair_one (hu.on s1))
      have h2H : H l2 = none := (Same.new h1).free h2
      have B1 := B.on s1
      have hp1 := s1 _ _ hp
      generalize upd (upd H l1 (.lst [.ref ua])) l2 (.lst (us.map V.ref ++ [.ref ua])) = H2 at s1 hl2 p2 B1 hp1 ⊢
      have hv := SbBook.valid_more g.valid ho
      have bo : BkOk C H2 (argsB (b.more u) lt l2) := by
        refine ⟨B1.tl, ⟨_, hl2, p2⟩, ⟨fun v hv' => ?_, ?_, ?_⟩⟩
        · obtain ⟨v', hv2, rfl⟩ := List.mem_map.mp hv'
          have := hv v' hv2
          rw [SbBook.toP_tool]
          cases v' with
          | read i j r => exact this.1
          | check i a z r => exact this
        · show ((b.more u).uses.map (toP (b.more u))).length ≤ 40
          rw [List.length_map]
          show (b.uses ++ [u]).length ≤ 40
          rw [List.length_append]
          show b.uses.length + 1 ≤ 40
          omega
        · have := g.items
          show b.items.length ≤ 40
          omega
      have hin : InR (valsA (argsB (b.more u) lt l2)) (rowsA (argsB (b.more u) lt l2)) := by
        rw [vals_b]
        exact SbBook.rows_in hv
      refine ⟨_, rfl, _, _, _, _, _, rfl, hp1, T.k_Book, T.a_Book_sizes, l_Book_sizes, _, _, rfl, .inl (SqL.of (s1 _ _ e1)), _, rfl, _, _, _, _, _, rfl, hp1, T.k_Book, T.a_Book_tools, l_Book_tools, _, rfl, argsB (b.more u) lt l2, ?_, bo, hin, fun H3 s3 => ⟨_, rfl, ?_⟩⟩
      · show [V.int (x1.length : Int), V.ref lt, V.ref l2] = [V.int (b.items.length : Int), V.ref lt, V.ref l2]
        rw [n1]
      · have ep : (mostAbove (rowsA (argsB (b.more u) lt l2)) (valsA (argsB (b.more u) lt l2)) 0).isSome = FtBench.possible (b.more u) := by
          rw [vals_b]
          exact SbBook.p_poss hv
        rw [ep]
        refine ifNB (fun d => ?_) fun d => ?_
        · rw [d, if_neg (by decide)] at k
          exact ⟨one_le', fun r hr => st_same k B g (s1.trans s3) hr rfl⟩
        · rw [if_pos d] at k
          have B3 := B1.on s3
          have B4 := book_uses (b' := b.more u) B3 rfl rfl (s3 _ _ hl2) (Paired.imp' (fun _ _ q => q.on s3) p2) (Ne.symm (ne_of_none e1 h2H)) (Ne.symm (ne_of_none e2 h2H))
          refine ⟨_, rfl, _, rfl, p, _, dx, _, rfl, B3.ob, T.k_Book, T.a_Book_uses, (by show 3 < 1000; decide), ?_⟩
          have hl4 : upd H3 p (.ins C.cB dx (putF "uses" (.ref l2) (bookF ls lt lu))) l2 = some (.lst ((us ++ [ua]).map V.ref)) := by
            have y := s3 _ _ hl2
            rw [upd_ne (ne_of y B3.ob (by intro q; cases q))]
            exact y
          refine ⟨_, rfl, _, _, rfl, .inl (SqL.of hl4), one_le', fun r hr => k _ r l2 (B4.on (Same.new hr)) (SbBook.good_more g ho d h32) ?_ (Keep.trans (Keep.put (Keep.of (s1.trans s3)) (by simp)) (Keep.of (Same.new hr))) (keep_free (Keep.put (Keep.of (s1.trans s3)) (by simp)) B4 hr) (.inr h2H)⟩
          rw [upd_same]
          show some (HO.lst [V.int (((us ++ [ua]).map V.ref).length : Int)]) = some (HO.lst [V.int ((b.uses.length + 1 : Nat) : Int)])
          rw [List.length_map, List.length_append, n3]
          rfl
end
end SbW
end
section
set_option maxHeartbeats 1000000
namespace SbW
open PySem PySem.Spec L2 SbX SbEnum
open PyProof.Rows hiding St
open FtBench (Tool Book Use)
open SbBook (PUse toP Good addItem addTool readSpan checkSpan)
open Ft (Bytes)
/-- an instance is made and filled -/
theorem made_same {H H2 : Hp} {x dx D : Addr} (nx : H x = none) (nd : H dx = none) (k : Keep [x] (upd (upd H dx (.own x)) x (.ins D dx [])) H2) : Same H H2 := Same.made nx nd fun b o e n => k b o e (by simpa using n)
section
variable {P : Program} {w : World} {K : PySem.W.Frag} {mg : Str → Option Value} {base : Heap} {C : Cl}
def sp_Book_read (C : Cl) : Sp := SpOf (fun x : BkA × Nat × Nat × Int => [.ref x.1.1, .int x.2.1, .int x.2.2.1, .int x.2.2.2]) fun x H Q _ => BkAt C H x.1 ∧ StA C H Q x.1 (FitC.step x.1.2.2.2.2.2 (.read x.2.1 x.2.2.1 x.2.2.2))
theorem sc_Book_read : FnScope ["self", "tool", "item", "r"] ["self", "tool", "item", "r"] (defScope st_Book_read) := ⟨rfl, rfl, rfl, by decide +kernel, rfl, by decide +kernel, by decide +kernel⟩
theorem D_Book_read (T : Top K mg C) : MDef P w K mg base CX0 6 C.cB "read" ["self", "tool", "item", "r"] (sp_Book_read C) := by
  refine mdef_mk T.m_Book_read (fun _ _ _ _ _ _ us hl => match us, hl with | [_, _, _, _], _ => rfl) sc_Book_read (fun _ => rfl) fun f cdv A outer s H x Q E hr h => ?_
  obtain ⟨⟨p, ls, lt, dx, lu, b⟩, t, i, r⟩ := x
  try dsimp only at h
  obtain ⟨⟨B, g⟩, k⟩ := h
  have B : BookAt C H p ls lt dx lu b := B
  have g : Good b := g
  have hp := B.ob
  obtain ⟨x1, e1, n1⟩ := len_items B.sz
  obtain ⟨ts, et, pt⟩ := id B.tl
  have nt : (ts.map V.ref).length = b.tools.length := by rw [List.length_map]; exact pair_len pt
  refine ⟨_, (pss_cons (ps_if (PW.pt (pw_or (pt_cmpR op_ge (pv 1) (pe_callB call_len_seq (by rfl) T.n_len PySem.boot_len (pa_cons (pe_fld (pv 0) rfl) pa_nil)) (nomark _)) (pw_or1 (pt_cmpR op_ge (pv 2) (pe_callB call_len_seq (by rfl) T.n_len PySem.boot_len (pa_cons (pe_fld (pv 0) rfl) pa_nil)) (nomark _))))) (pss_one (ps_ret (pe_lst (pa_cons (pc T.c_NO_SUCH) pa_nil)))) pss_nil) (pss_cons (ps_if (pt_not (pt_val (pe_callD (D_can_read T) (hr.mono (by decide)) (by rfl) pass0 (pa_cons (pe_ix ix_list (pe_fld (pv 0) rfl) (pv 1) (fun _ _ => rfl)) (pa_cons (pv 3) pa_nil))))) (pss_one (ps_ret (pe_lst (pa_cons (pc T.c_UNFIT) pa_nil)))) pss_nil) (pss_one (ps_ret (pe_methD (pv 0) T.k_Book (D_Book_add_use T) (hr.mono (by decide)) pass0 (pa_cons (pe_makeD (D_Use_init T) (hr.mono (by decide)) (by rfl) T.g_Use (pa_cons (pv 1) (pa_cons (pv 2) (pa_cons (pe_callD (D_read_span T) (hr.mono (by decide)) (by rfl) pass0 (pa_cons (pe_ix ix_list (pe_fld (pv 0) rfl) (pv 1) (fun _ _ => rfl)) (pa_cons (pv 3) pa_nil))) pa_nil)))) pa_nil)))))), ?_⟩
  have k : StQ C H Q p ls lt dx lu (if b.tools.length ≤ t ∨ b.items.length ≤ i then (b, [-4]) else if FtBench.shownOk (b.tool t) r = false then (b, [-3]) else FitC.used b (.read t i r)) := k
  have no : (b.tools.length ≤ t ∨ b.items.length ≤ i) → ∀ q, H q = none → Q (.ref q) (upd H q (.lst [.int (-4)])) := fun c q hq => by
    rw [if_pos c] at k
    exact st_same k B g (Same.refl _) hq rfl
  refine ⟨_, rfl, _, rfl, _, _, _, _, _, rfl, hp, T.k_Book, T.a_Book_tools, l_Book_tools, _, _, rfl, .inl (SqL.of et), _, _, rfl, rfl, _, rfl, ifD (fun c => iteT ⟨one_le', no (.inl ((ge_len nt).mp c))⟩) fun c => ⟨_, rfl, _, rfl, _, _, _, _, _, rfl, hp, T.k_Book, T.a_Book_sizes, l_Book_sizes, _, _, rfl, .inl (SqL.of e1), _, _, rfl, rfl, _, rfl, ifD (fun d => ⟨one_le', no (.inr ((ge_len n1).mp d))⟩) fun d => ?_⟩⟩
  have c : ¬ b.tools.length ≤ t := fun z => c ((ge_len nt).mpr z)
  have d : ¬ b.items.length ≤ i := fun z => d ((ge_len n1).mpr z)
  have ht : t < b.tools.length := Nat.lt_of_not_le c
  have hi : i < b.items.length := Nat.lt_of_not_le d
  rw [if_neg (fun z => z.elim c d)] at k
  obtain ⟨em, mm⟩ := SbBook.tool_mem ht
  obtain ⟨ta, hta, htt⟩ := pair_get pt em
  have hat : (ts.map V.ref)[t]? = some (.ref ta) := by rw [List.getElem?_map, hta]; rfl
  refine ⟨_, rfl, _, _, _, _, _, rfl, hp, T.k_Book, T.a_Book_tools, l_Book_tools, _, rfl, _, _, _, _, rfl, rfl, SqL.of et, at_of (j := t) (v := .ref ta) rfl hat, _, rfl, (ta, b.tool t, r), rfl, htt, _, rfl, ifNB (fun e => ?_) fun e => ?_⟩
  · have e : FtBench.shownOk (b.tool t) r = false := e
    rw [if_pos e] at k
    exact ⟨one_le', fun q hq => st_same k B g (Same.refl _) hq rfl⟩
  · have e : FtBench.shownOk (b.tool t) r = true := e
    rw [if_neg (by rw [e]; decide)] at k
    refine ⟨_, rfl, _, _, _, rfl, hp, no_Book (by decide +kernel), _, rfl, _, rfl, _, rfl, _, _, _, _, _, rfl, hp, T.k_Book, T.a_Book_tools, l_Book_tools, _, rfl, _, _, _, _, rfl, rfl, SqL.of et, at_of (j := t) (v := .ref ta) rfl hat, _, rfl, (ta, b.tool t, r), rfl, htt, fun H1 q s1 hq => fun x dy nx nd ne => ?_⟩
    refine ⟨(x, toP b (.read t i r), q), rfl, dy, upd_same, fun H2 hx kx => ⟨rfl, ?_⟩⟩
    have s2 : Same H1 H2 := made_same nx nd kx
    have s12 := s1.trans s2
    refine ⟨((p, ls, lt, dx, lu, b), x, .read t i r), rfl, ⟨B.on s12, g⟩, ⟨dy, q, hx, s2 _ _ hq⟩, ⟨ht, hi⟩, fun H' r' lu' B' g' e' k' n' m' => k H' r' lu' B' g' e' (Keep.trans (Keep.of s12) k') (s12.free n') (m'.imp id s12.free)⟩
def sp_Book_check (C : Cl) : Sp := SpOf (fun x : BkA × Nat × Int × Int × Int => [.ref x.1.1, .int x.2.1, .int x.2.2.1, .int x.2.2.2.1, .int x.2.2.2.2]) fun x H Q _ => BkAt C H x.1 ∧ StA C H Q x.1 (FitC.step x.1.2.2.2.2.2 (.check x.2.1 x.2.2.1 x.2.2.2.1 x.2.2.2.2))
theorem sc_Book_check : FnScope ["self", "tool", "a", "b", "r"] ["self", "tool", "a", "b", "r"] (defScope st_Book_check) := ⟨rfl, rfl, rfl, by decide +kernel, rfl, by decide +kernel, by decide +kernel⟩
theorem D_Book_check (T : Top K mg C) : MDef P w K mg base CX0 6 C.cB "check" ["self", "tool", "a", "b", "r"] (sp_Book_check C) := by
  refine mdef_mk T.m_Book_check (fun _ _ _ _ _ _ us hl => match us, hl with | [_, _, _, _, _], _ => rfl) sc_Book_check (fun _ => rfl) fun f cdv A outer s H x Q E hr h => ?_
  obtain ⟨⟨p, ls, lt, dx, lu, b⟩, t, lo, hi, r⟩ := x
  try dsimp only at h
  obtain ⟨⟨B, g⟩, k⟩ := h
  have B : BookAt C H p ls lt dx lu b := B
  have g : Good b := g
  have hp := B.ob
  obtain ⟨ts, et, pt⟩ := id B.tl
  have nt : (ts.map V.ref).length = b.tools.length := by rw [List.length_map]; exact pair_len pt
  refine ⟨_, (pss_cons (ps_if (pt_cmpR op_ge (pv 1) (pe_callB call_len_seq (by rfl) T.n_len PySem.boot_len (pa_cons (pe_fld (pv 0) rfl) pa_nil)) (nomark _)) (pss_one (ps_ret (pe_lst (pa_cons (pc T.c_NO_SUCH) pa_nil)))) pss_nil) (pss_cons (ps_if (pt_not (pt_val (pe_callD (D_can_be_checked T) (hr.mono (by decide)) (by rfl) pass0 (pa_cons (pe_ix ix_list (pe_fld (pv 0) rfl) (pv 1) (fun _ _ => rfl)) (pa_cons (pv 2) (pa_cons (pv 3) (pa_cons (pv 4) pa_nil))))))) (pss_one (ps_ret (pe_lst (pa_cons (pc T.c_UNFIT) pa_nil)))) pss_nil) (pss_one (ps_ret (pe_methD (pv 0) T.k_Book (D_Book_add_use T) (hr.mono (by decide)) pass0 (pa_cons (pe_makeD (D_Use_init T) (hr.mono (by decide)) (by rfl) T.g_Use (pa_cons (pv 1) (pa_cons pe_non (pa_cons (pe_callD (D_check_span T) (hr.mono (by decide)) (by rfl) pass0 (pa_cons (pe_ix ix_list (pe_fld (pv 0) rfl) (pv 1) (fun _ _ => rfl)) (pa_cons (pv 2) (pa_cons (pv 3) (pa_cons (pv 4) pa_nil))))) pa_nil)))) pa_nil)))))), ?_⟩
  have k : StQ C H Q p ls lt dx lu (if b.tools.length ≤ t then (b, [-4]) else if FtBench.checkOk (b.tool t) lo hi r = false then (b, [-3]) else FitC.used b (.check t lo hi r)) := k
  refine ⟨_, rfl, _, rfl, _, _, _, _, _, rfl, hp, T.k_Book, T.a_Book_tools, l_Book_tools, _, _, rfl, .inl (SqL.of et), _, _, rfl, rfl, _, rfl, ifD (fun c => ?_) fun c => ?_⟩
  · rw [if_pos ((ge_len nt).mp c)] at k
    exact ⟨one_le', fun q hq => st_same k B g (Same.refl _) hq rfl⟩
  · have c : ¬ b.tools.length ≤ t := fun z => c ((ge_len nt).mpr z)
    have ht : t < b.tools.length := Nat.lt_of_not_le c
    rw [if_neg c] at k
    obtain ⟨em, mm⟩ := SbBook.tool_mem ht
    obtain ⟨ta, hta, htt⟩ := pair_get pt em
    have hat : (ts.map V.ref)[t]? = some (.ref ta) := by rw [List.getElem?_map, hta]; rfl
    refine ⟨_, rfl, _, _, _, _, _, rfl, hp, T.k_Book, T.a_Book_tools, l_Book_tools, _, rfl, _, _, _, _, rfl, rfl, SqL.of et, at_of (j := t) (v := .ref ta) rfl hat, _, rfl, _, rfl, _, rfl, (ta, b.tool t, lo, hi, r), rfl, htt, _, rfl, ifNB (fun e => ?_) fun e => ?_⟩
    · have e : FtBench.checkOk (b.tool t) lo hi r = false := e
      rw [if_pos e] at k
      exact ⟨one_le', fun q hq => st_same k B g (Same.refl _) hq rfl⟩
    · have e : FtBench.checkOk (b.tool t) lo hi r = true := e
      rw [if_neg (by rw [e]; decide)] at k
      refine ⟨_, rfl, _, _, _, rfl, hp, no_Book (by decide +kernel), _, rfl, _, rfl, _, _, _, _, _, rfl, hp, T.k_Book, T.a_Book_tools, l_Book_tools, _, rfl, _, _, _, _, rfl, rfl, SqL.of et, at_of (j := t) (v := .ref ta) rfl hat, _, rfl, _, rfl, _, rfl, (ta, b.tool t, lo, hi, r), rfl, htt, fun H1 q s1 hq => fun x dy nx nd ne => ?_⟩
      refine ⟨(x, toP b (.check t lo hi r), q), rfl, dy, upd_same, fun H2 hx kx => ⟨rfl, ?_⟩⟩
      have s2 : Same H1 H2 := made_same nx nd kx
      have s12 := s1.trans s2
      refine ⟨((p, ls, lt, dx, lu, b), x, .check t lo hi r), rfl, ⟨B.on s12, g⟩, ⟨dy, q, hx, s2 _ _ hq⟩, ht, fun H' r' lu' B' g' e' k' n' m' => k H' r' lu' B' g' e' (Keep.trans (Keep.of s12) k') (s12.free n') (m'.imp id s12.free)⟩
/-! ### add_item -/
def sp_Book_add_item (C : Cl) : Sp := SpOf (fun x : BkA × Addr × Bytes => [.ref x.1.1, .ref x.2.1]) fun x H Q _ => BkAt C H x.1 ∧ H x.2.1 = some (.lst (tx x.2.2)) ∧ StA C H Q x.1 (FitC.step x.1.2.2.2.2.2 (.item x.2.2))
theorem item_step (b : Book) (t : Bytes) : FitC.step b (.item t) = if 64 < t.length then (b, [-1]) else (match SbText.said t with
    | .error e => (b, [-2, (e.1 : Int), (e.2 : Int)])
    | .ok z => if 16 ≤ b.items.length then (b, [-7]) else (addItem b z, [(b.items.length : Int)])) := by
  rw [SbText.said_read]
  rfl
theorem sc_Book_add_item : FnScope ["self", "text", "size", "fault"] ["self", "text"] (defScope st_Book_add_item) := ⟨rfl, rfl, rfl, by decide +kernel, rfl, by decide +kernel, by decide +kernel⟩
theorem D_Book_add_item (T : Top K mg C) : MDef P w K mg base CX0 11 C.cB "add_item" ["self", "text"] (sp_Book_add_item C) := by
  refine mdef_mk T.m_Book_add_item (fun _ _ _ _ _ _ us hl => match us, hl with | [_, _], _ => rfl) sc_Book_add_item (fun _ => rfl) fun f cdv A outer s H x Q E hr h => ?_
  obtain ⟨⟨p, ls, lt, dx, lu, b⟩, a, t⟩ := x
  try dsimp only at h
  obtain ⟨⟨B, g⟩, ha, k⟩ := h
  have B : BookAt C H p ls lt dx lu b := B
  have g : Good b := g
  have ha : H a = some (.lst (tx t)) := ha
  have hp := B.ob
  have htx : (tx t).length = t.length := by simp [tx]
  have k : StQ C H Q p ls lt dx lu (FitC.step b (.item t)) := k
  rw [item_step] at k
  refine ⟨_, (pss_cons (ps_if (pt_cmpR op_gt (pe_callB call_len_seq (by rfl) T.n_len PySem.boot_len (pa_cons (pv 1) pa_nil)) (pc T.c_MOST_BYTES) (nomark _)) (pss_one (ps_ret (pe_lst (pa_cons (pc T.c_TOO_LONG) pa_nil)))) pss_nil) (pss_cons (ps_try (i := 3) (tb := fun E => _) (ts := _) T.flt rfl rfl rfl rfl sc_Book_add_item.nd rfl rfl rfl T.g_SizeFault (fun pn xe E hpass => (pss_one (ps_set (i := 2) sc_Book_add_item.nd rfl (Or.inl rfl) (pe_callD (D_said T) (hr.mono (by decide)) (by rfl) hpass (pa_cons (pv 1) pa_nil))))) (fun e pn => (pss_one (ps_ret (pe_lst (pa_cons (pc T.c_FAULTY) (pa_cons (pe_xfld T.flt (.inl rfl) (pv 3) rfl) (pa_cons (pe_xfld T.flt (.inr rfl) (pv 3) rfl) pa_nil)))))))) (pss_cons (ps_if (pt_cmpR op_eq (pe_callB call_len_seq (by rfl) T.n_len PySem.boot_len (pa_cons (pe_fld (pv 0) rfl) pa_nil)) (pc T.c_MOST_ITEMS) (nomark _)) (pss_one (ps_ret (pe_lst (pa_cons (pc T.c_FULL) pa_nil)))) pss_nil) (pss_cons (ps_expr (pe_bm PySem.F.plainAttrs_list PySem.F.slot_list_append PySem.F.type_list_append mt_append (pe_fld (pv 0) rfl) (pa_cons (pv 2) pa_nil))) (pss_one (ps_ret (pe_lst (pa_cons (pe_op op_sub (pe_callB call_len_seq (by rfl) T.n_len PySem.boot_len (pa_cons (pe_fld (pv 0) rfl) pa_nil)) pe_int) pa_nil)))))))), ?_⟩
  refine ⟨_, rfl, _, _, rfl, .inl (SqL.of ha), _, _, rfl, rfl, _, rfl, ifD (fun c => ?_) fun c => ?_⟩
  · have c : (64 : Int) < ((tx t).length : Int) := c
    rw [if_pos (by omega)] at k
    exact ⟨one_le', fun q hq => st_same k B g (Same.refl _) hq rfl⟩
  · have c : ¬ (64 : Int) < ((tx t).length : Int) := c
    rw [if_neg (by omega)] at k
    refine ⟨_, rfl, (a, t), rfl, ha, ?_⟩
    show SdQ C H _ _ (SbText.said t)
    cases es : SbText.said t with
    | error e =>
      rw [es] at k
      obtain ⟨ek, ep⟩ := e
      have k : StQ C H Q p ls lt dx lu (b, [-2, (ek : Int), (ep : Int)]) := k
      intro dy H1 hdy kp
      have s1 : Same H H1 := kp.same
      refine ⟨dy, rfl, fun fa hfa => ?_⟩
      have nd : dy ≠ fa := ne_of_none hdy hfa
      have hd2 : upd H1 fa (exF C.cF dy fa) dy = some (dcO (SbX.kp ek ep) dy) := (upd_ne nd).trans hdy
      refine ⟨_, rfl, fa, dy, _, _, rfl, upd_same, hd2, look_hd, _, rfl, fa, dy, _, _, rfl, upd_same, hd2, look_tl look_hd (by decide +kernel), three_le, fun q hq => st_same k B g (s1.on hfa) hq rfl⟩
    | ok z =>
      rw [es] at k
      have k : StQ C H Q p ls lt dx lu (if 16 ≤ b.items.length then (b, [-7]) else (addItem b z, [(b.items.length : Int)])) := k
      refine fun H1 q S1 s1 => ?_
      have B1 := B.on s1
      have hp1 := B1.ob
      obtain ⟨xs, e1, n1⟩ := len_items B1.sz
      have g16 := g.items
      refine ⟨_, rfl, _, _, _, _, _, rfl, hp1, T.k_Book, T.a_Book_sizes, l_Book_sizes, _, _, rfl, .inl (SqL.of e1), rfl, _, rfl, ifE (fun d => ?_) fun d => ?_⟩
      · rw [if_pos (by omega)] at k
        exact ⟨one_le', fun r hr => st_same k B g s1 hr rfl⟩
      · rw [if_neg (by omega)] at k
        have npl : p ≠ ls := ne_of hp1 e1 (by intro q; cases q)
        refine ⟨_, rfl, _, _, _, _, _, rfl, hp1, T.k_Book, T.a_Book_sizes, l_Book_sizes, .inl ⟨rfl, _, SqL.of e1⟩, _, rfl, ls, _, _, rfl, rfl, e1, small1000 (by omega), ?_⟩
        have hp2 : upd H1 ls (.lst (xs ++ [.ref q])) p = some (.ins C.cB dx (bookF ls lt lu)) := (upd_ne npl).trans hp1
        refine ⟨_, rfl, _, _, _, _, _, rfl, hp2, T.k_Book, T.a_Book_sizes, l_Book_sizes, _, _, rfl, .inl (SqL.of upd_same), _, _, rfl, rfl, one_le', fun r hr => k _ r lu ((book_item B1 S1 e1).on (Same.new hr)) (SbBook.good_item g (by omega)) ?_ (Keep.trans (Keep.put (Keep.of s1) (by simp)) (Keep.of (Same.new hr))) (keep_free (Keep.put (Keep.of s1) (by simp)) (book_item B1 S1 e1) hr) (.inl rfl)⟩
        rw [upd_same]
        show some (HO.lst [V.int (((xs ++ [V.ref q]).length : Int) - 1)]) = some (HO.lst [V.int (b.items.length : Int)])
        rw [List.length_append, n1]
        show some (HO.lst [V.int (((b.items.length + 1 : Nat) : Int) - 1)]) = _
        rw [show ((b.items.length + 1 : Nat) : Int) - 1 = (b.items.length : Int) by omega]
end
end SbW
end
section
set_option maxHeartbeats 1000000
namespace SbW
open PySem PySem.Spec L2 SbX SbEnum
open PyProof.Rows hiding St
open FtBench (Tool Book Use)
open SbBook (PUse toP Good addItem addTool readSpan checkSpan)
open Ft (Bytes)
open SbPlay (flatC playC)
/-! ### the table of a call's numbers -/
def numOf (k : Int) : Option Int := if k = 2 then some 5 else if k = 3 then some 3 else if k = 4 then some 4 else if k = 5 then some 1 else if k = 6 then some 1 else if k = 7 then some 1 else if k = 8 then some 2 else if k = 9 then some 1 else if k = 10 then some 0 else none
theorem num_find (P : Program) (w : World) {k n : Int} (h : numOf k = some n) (t0 t1 t2 t3 t4 t5 t6 t7 t8 t9 t10 t11 t12 t13 t14 t15 t16 t17 : Tok) :
    ∃ t, findBy (intKind P w).is (numEs t0 t1 t2 t3 t4 t5 t6 t7 t8 t9 t10 t11 t12 t13 t14 t15 t16 t17) k = some (.int n t) := by
  unfold numOf at h
  by_cases c2 : k = 2
  · subst c2; cases h; exact ⟨t1, rfl⟩
  rw [if_neg c2] at h
  by_cases c3 : k = 3
  · subst c3; cases h; exact ⟨t3, rfl⟩
  rw [if_neg c3] at h
  by_cases c4 : k = 4
  · subst c4; cases h; exact ⟨t5, rfl⟩
  rw [if_neg c4] at h
  by_cases c5 : k = 5
  · subst c5; cases h; exact ⟨t7, rfl⟩
  rw [if_neg c5] at h
  by_cases c6 : k = 6
  · subst c6; cases h; exact ⟨t9, rfl⟩
  rw [if_neg c6] at h
  by_cases c7 : k = 7
  · subst c7; cases h; exact ⟨t11, rfl⟩
  rw [if_neg c7] at h
  by_cases c8 : k = 8
  · subst c8; cases h; exact ⟨t13, rfl⟩
  rw [if_neg c8] at h
  by_cases c9 : k = 9
  · subst c9; cases h; exact ⟨t15, rfl⟩
  rw [if_neg c9] at h
  by_cases c10 : k = 10
  · subst c10; cases h; exact ⟨t17, rfl⟩
  rw [if_neg c10] at h
  cases h
theorem num_map (P : Program) (w : World) {K : PySem.W.Frag} {mg : Str → Option Value} (T : NumT K mg) : ∃ (a : Addr) (f : Int → Option Value), mg "NUMBERS" = some (.ref a) ∧ (a == sysModules) = false ∧
    (∀ h, K.In h → h.MapOf (intKind P w) a f) ∧ (∀ h, K.In h → ∃ ob, h.get? a = some ob ∧ ob.dict = none) ∧ ∀ k n, numOf k = some n → ∃ t, f k = some (.int n t) := by
  obtain ⟨a, t0, t1, t2, t3, t4, t5, t6, t7, t8, t9, t10, t11, t12, t13, t14, t15, t16, t17, h1, h2, h3⟩ := T
  refine ⟨a, _, h1, h3, fun h hK => ⟨_, _, _, hK _ _ h2, ⟨rfl, rfl, rfl⟩, rfl, fun e he => ?_, fun _ => rfl⟩, fun h hK => ⟨_, hK _ _ h2, rfl⟩, fun k n q => num_find P w q t0 t1 t2 t3 t4 t5 t6 t7 t8 t9 t10 t11 t12 t13 t14 t15 t16 t17⟩
  have he' := Array.mem_toList_iff.mpr he
  have all : ∀ e ∈ (numEs t0 t1 t2 t3 t4 t5 t6 t7 t8 t9 t10 t11 t12 t13 t14 t15 t16 t17).toList, ∃ (k : Int) (t : Tok), e.key = .int k t ∧ e.hash = hashInt k := by
    show ∀ e ∈ [_, _, _, _, _, _, _, _, _], _
    simp only [List.forall_mem_cons]
    exact ⟨⟨_, _, rfl, by decide⟩, ⟨_, _, rfl, by decide⟩, ⟨_, _, rfl, by decide⟩, ⟨_, _, rfl, by decide⟩, ⟨_, _, rfl, by decide⟩, ⟨_, _, rfl, by decide⟩, ⟨_, _, rfl, by decide⟩, ⟨_, _, rfl, by decide⟩, ⟨_, _, rfl, by decide⟩, fun _ z => by cases z⟩
  obtain ⟨k, t, e1, e2⟩ := all e he'
  exact ⟨k, by rw [e1]; exact intKind_is P w k t, e2⟩
def tNum (ty tx : TE) : TE := fun σ H Q => ty σ H fun y H1 => tx σ H1 fun _ H2 => ∃ k n, y = .int k ∧ numOf k = some n ∧ Q (.int n) H2
theorem pe_numbers {X : Cx} {C : Cl} {e f : Expr} {np apos cpos : Pos} {ty tx : TE} (T : Top X.K X.mg C) (hu : X.A.units + 1 < cLine) (hg : Gl X "NUMBERS") (he : PE X e ty) (hf : PE X f tx) (m : M2 X (.Name "NUMBERS" np) "get" apos e f cpos) :
    PE X (.Call (.Attribute (.Name "NUMBERS" np) "get" apos) [e, f] [] cpos) (tNum ty tx) := by
  obtain ⟨a, fm, h1, h2, h3, h4, h5⟩ := num_map X.prog X.w T.num
  intro pins s σ H Q I h
  have ho : PE X (.Name "NUMBERS" np) (tC (.ref a)) := pe_glob hg h1 rfl
  refine wpAny_Call_method m.base m.few m.line PySem.F.plainAttrs_dict PySem.F.slot_dict_get PySem.F.type_dict_get (thn (ho pins s σ H (fun x H1 => x = .ref a ∧ H1 = H) I ⟨rfl, rfl⟩) fun u s1 ⟨x, H1, I1, rx, ex, eH⟩ => ?_)
  subst ex
  subst eH
  obtain rfl : u = Value.ref a := rx
  refine ⟨(h3 _ I1.kIn).typeIs, fun b q => ?_, ?_⟩
  · cases q
    exact h4 _ I1.kIn
  rw [m.trees]
  refine Calls.callWith_builtin rfl (Calls.evalArgs_plain (Calls.spliced_cons (thn (he pins s1 σ H1 _ I1 h) fun iv s2 ⟨y, H2, I2, ry, q2⟩ =>
    Calls.spliced_cons (thn (hf pins s2 σ H2 _ I2 q2) fun fv s3 ⟨z, H3, I3, rz, k, n, ey, hn, q3⟩ => Calls.spliced_nil ?_))))
  subst ey
  obtain ⟨t, rfl⟩ : ∃ t, iv = Value.int k t := ry
  obtain ⟨t', e'⟩ := h5 k n hn
  refine call_meetsIn PySem.F.slot_dict_get (h3 _ I3.kIn).typeIs PySem.F.entry_dict_get (PySem.F.args_dict_get_3 _ _ _) (meets_dict_get_default (intKind X.prog X.w) a (intKind_is X.prog X.w k t) h2 fv) ⟨_, h3 _ I3.kIn, ?_⟩
  rw [e']
  exact ⟨.int n, H3, I3.tok _, ⟨t', rfl⟩, q3⟩
/-! ### a call's end -/
section
variable {P : Program} {w : World} {K : PySem.W.Frag} {mg : Str → Option Value} {base : Heap} {C : Cl}
theorem get_drop {ns : List Int} {at_ : Nat} {l : List Int} (h : ns.drop at_ = l) (i : Nat) : (ns.map V.int)[at_ + i]? = (l[i]?).map V.int := by
  rw [List.getElem?_map, ← h, List.getElem?_drop]
def sp_call_end (K : PySem.W.Frag) : Sp := SpOf (fun x : Addr × List Int × Nat × FitC.Call × List Int => [.ref x.1, .int x.2.2.1]) fun x H Q _ => SqL K H x.1 (x.2.1.map V.int) ∧ x.2.1.drop x.2.2.1 = flatC x.2.2.2.1 ++ x.2.2.2.2 ∧ Q (.int ((x.2.2.1 + (flatC x.2.2.2.1).length : Nat) : Int)) H
theorem sc_call_end : FnScope ["calls", "at"] ["calls", "at"] (defScope st_call_end) := ⟨rfl, rfl, rfl, by decide +kernel, rfl, by decide +kernel, by decide +kernel⟩
theorem D_call_end (T : Top K mg C) : Def P w K mg base CX0 1 "call_end" ["calls", "at"] (sp_call_end K) := by
  refine def_mk T.f_call_end (fun _ _ _ _ _ _ us hl => match us, hl with | [_, _], _ => rfl) sc_call_end (fun _ => rfl) fun f cdv A outer s H x Q E hr h => ?_
  obtain ⟨a, ns, n, c, r⟩ := x
  try dsimp only at h
  obtain ⟨S, hd, k⟩ := h
  have k : Q (.int ((n + (flatC c).length : Nat) : Int)) H := k
  have S : SqL K H a (ns.map V.int) := S
  have hd : ns.drop n = flatC c ++ r := hd
  refine ⟨_, (pss_cons (ps_if (pt_cmpR op_eq (pe_ix ix_list (pv 0) (pv 1) (fun _ _ => rfl)) (pc T.c_ITEM) (nomark _)) (pss_one (ps_ret (pe_op op_add (pe_op op_add (pv 1) pe_int) (pe_ix ix_list (pv 0) (pe_op op_add (pv 1) pe_int) (fun _ _ => rfl))))) pss_nil) (pss_one (ps_ret (pe_op op_add (pe_op op_add (pv 1) pe_int) (pe_numbers T (hu_of hr) rfl (pe_ix ix_list (pv 0) (pv 1) (fun _ _ => rfl)) pe_int ⟨rfl, rfl, rfl, rfl⟩))))), ?_⟩
  have g0 := get_drop hd 0
  rw [Nat.add_zero] at g0
  have cases2 : (∃ t, c = .item t) ∨ ∃ (z m : Int) (l : List Int), flatC c = z :: l ∧ numOf z = some m ∧ ((l.length : Nat) : Int) = m ∧ ¬ z = 1 := by
    cases c with
    | item t => exact .inl ⟨t, rfl⟩
    | tool t => exact .inr ⟨2, 5, _, rfl, rfl, rfl, by decide⟩
    | read t i z => exact .inr ⟨3, 3, _, rfl, rfl, rfl, by decide⟩
    | check t a z y => exact .inr ⟨4, 4, _, rfl, rfl, rfl, by decide⟩
    | known i => exact .inr ⟨5, 1, _, rfl, rfl, rfl, by decide⟩
    | next t => exact .inr ⟨6, 1, _, rfl, rfl, rfl, by decide⟩
    | judge i => exact .inr ⟨7, 1, _, rfl, rfl, rfl, by decide⟩
    | apart i j => exact .inr ⟨8, 2, _, rfl, rfl, rfl, by decide⟩
    | back n => exact .inr ⟨9, 1, _, rfl, rfl, rfl, by decide⟩
    | counts => exact .inr ⟨10, 0, _, rfl, rfl, rfl, by decide⟩
  rcases cases2 with ⟨t, rfl⟩ | ⟨z, m, l, e1, e2, e3, e4⟩
  · have g1 := get_drop hd 1
    have g0 : (ns.map V.int)[n]? = some (.int 1) := g0
    have g1 : (ns.map V.int)[n + 1]? = some (.int (t.length : Int)) := g1
    refine ⟨_, rfl, _, rfl, _, _, _, _, rfl, rfl, S, at_of rfl g0, rfl, _, rfl, ifE (fun _ => ?_) fun q => (q rfl).elim⟩
    refine ⟨_, rfl, _, _, rfl, rfl, _, rfl, _, rfl, _, _, rfl, rfl, _, _, _, _, rfl, rfl, S, at_of (j := n + 1) (show (n : Int) + 1 = ((n + 1 : Nat) : Int) by omega) g1, _, _, rfl, rfl, int_eq k ?_⟩
    show ((n + (1 :: (t.length : Int) :: t.map fun (c : UInt8) => (c.toNat : Int)).length : Nat) : Int) = _
    simp only [List.length_cons, List.length_map]
    show ((n + (t.length + 1 + 1) : Nat) : Int) = (n : Int) + 2 + (t.length : Int)
    omega
  · rw [e1] at g0 k
    have g0 : (ns.map V.int)[n]? = some (.int z) := g0
    refine ⟨_, rfl, _, rfl, _, _, _, _, rfl, rfl, S, at_of rfl g0, rfl, _, rfl, ifE (fun q => (e4 q).elim) fun _ => ?_⟩
    refine ⟨_, rfl, _, _, rfl, rfl, _, rfl, _, rfl, _, _, _, _, rfl, rfl, S, at_of rfl g0, z, m, rfl, e2, _, _, rfl, rfl, int_eq k (show ((n + (z :: l).length : Nat) : Int) = (n : Int) + 1 + m by rw [List.length_cons]; omega)⟩
/-! ### what a call asks -/
abbrev CkA := BkA × Addr × FitC.Call
def isTold : FitC.Call → Bool
  | .known _ => true
  | .next _ => true
  | .judge _ => true
  | .apart _ _ => true
  | .counts => true
  | _ => false
def sp_told (C : Cl) : Sp := SpOf (fun x : CkA => [.ref x.1.1, .ref x.2.1]) fun x H Q _ => BkAt C H x.1 ∧ H x.2.1 = some (.lst ((flatC x.2.2).map V.int)) ∧ isTold x.2.2 = true ∧ StA C H Q x.1 (FitC.step x.1.2.2.2.2.2 x.2.2)
theorem sc_told : FnScope ["book", "call"] ["book", "call"] (defScope st_told) := ⟨rfl, rfl, rfl, by decide +kernel, rfl, by decide +kernel, by decide +kernel⟩
theorem D_told (T : Top K mg C) : Def P w K mg base CX0 8 "told" ["book", "call"] (sp_told C) := by
  refine def_mk T.f_told (fun _ _ _ _ _ _ us hl => match us, hl with | [_, _], _ => rfl) sc_told (fun _ => rfl) fun f cdv A outer s H x Q E hr h => ?_
  obtain ⟨⟨p, ls, lt, dx, lu, b⟩, a, c⟩ := x
  try dsimp only at h
  obtain ⟨⟨B, g⟩, ha, hc, k⟩ := h
  have B : BookAt C H p ls lt dx lu b := B
  have g : Good b := g
  have hp := B.ob
  refine ⟨_, (pss_cons (ps_if (pt_cmpR op_eq (pe_ix ix_list (pv 1) pe_int (fun _ _ => rfl)) (pc T.c_KNOWN) (nomark _)) (pss_one (ps_ret (pe_methD (pv 0) T.k_Book (D_Book_known T) (hr.mono (by decide)) pass0 (pa_cons (pe_ix ix_list (pv 1) pe_int (fun _ _ => rfl)) pa_nil)))) pss_nil) (pss_cons (ps_if (pt_cmpR op_eq (pe_ix ix_list (pv 1) pe_int (fun _ _ => rfl)) (pc T.c_NEXT) (nomark _)) (pss_one (ps_ret (pe_methD (pv 0) T.k_Book (D_Book_upcoming T) (hr.mono (by decide)) pass0 (pa_cons (pe_ix ix_list (pv 1) pe_int (fun _ _ => rfl)) pa_nil)))) pss_nil) (pss_cons (ps_if (pt_cmpR op_eq (pe_ix ix_list (pv 1) pe_int (fun _ _ => rfl)) (pc T.c_JUDGE) (nomark _)) (pss_one (ps_ret (pe_methD (pv 0) T.k_Book (D_Book_judge T) (hr.mono (by decide)) pass0 (pa_cons (pe_ix ix_list (pv 1) pe_int (fun _ _ => rfl)) pa_nil)))) pss_nil) (pss_cons (ps_if (pt_cmpR op_eq (pe_ix ix_list (pv 1) pe_int (fun _ _ => rfl)) (pc T.c_APART) (nomark _)) (pss_one (ps_ret (pe_methD (pv 0) T.k_Book (D_Book_apart T) (hr.mono (by decide)) pass0 (pa_cons (pe_ix ix_list (pv 1) pe_int (fun _ _ => rfl)) (pa_cons (pe_ix ix_list (pv 1) pe_int (fun _ _ => rfl)) pa_nil))))) pss_nil) (pss_cons (ps_if (pt_cmpR op_eq (pe_ix ix_list (pv 1) pe_int (fun _ _ => rfl)) (pc T.c_COUNTS) (nomark _)) (pss_one (ps_ret (pe_methD0 (pv 0) T.k_Book (D_Book_counts T) (hr.mono (by decide)) pass0))) pss_nil) (pss_one ps_never)))))), ?_⟩
  cases c with
  | item t => cases hc
  | tool t => cases hc
  | read t i r => cases hc
  | check t i j r => cases hc
  | back n => cases hc
  | known i =>
    have ha : H a = some (.lst [.int 5, .int (i : Int)]) := ha
    exact ⟨_, rfl, _, _, _, _, rfl, rfl, SqL.of ha, rfl, rfl, _, rfl, ifE (fun _ => ⟨_, rfl, _, _, _, rfl, hp, no_Book (by decide +kernel), _, rfl, _, _, _, _, rfl, rfl, SqL.of ha, rfl, ((p, ls, lt, dx, lu, b), i), rfl, ⟨B, g⟩, k⟩) fun q => absurd q (by decide)⟩
  | next t =>
    have ha : H a = some (.lst [.int 6, .int (t : Int)]) := ha
    exact ⟨_, rfl, _, _, _, _, rfl, rfl, SqL.of ha, rfl, rfl, _, rfl, ifE (fun q => absurd q (by decide)) fun _ => ⟨_, rfl, _, _, _, _, rfl, rfl, SqL.of ha, rfl, rfl, _, rfl, ifE (fun _ => ⟨_, rfl, _, _, _, rfl, hp, no_Book (by decide +kernel), _, rfl, _, _, _, _, rfl, rfl, SqL.of ha, rfl, ((p, ls, lt, dx, lu, b), t), rfl, ⟨B, g⟩, k⟩) fun q => absurd q (by decide)⟩⟩
  | judge i =>
    have ha : H a = some (.lst [.int 7, .int (i : Int)]) := ha
    exact ⟨_, rfl, _, _, _, _, rfl, rfl, SqL.of ha, rfl, rfl, _, rfl, ifE (fun q => absurd q (by decide)) fun _ => ⟨_, rfl, _, _, _, _, rfl, rfl, SqL.of ha, rfl, rfl, _, rfl, ifE (fun q => absurd q (by decide)) fun _ => ⟨_, rfl, _, _, _, _, rfl, rfl, SqL.of ha, rfl, rfl, _, rfl, ifE (fun _ => ⟨_, rfl, _, _, _, rfl, hp, no_Book (by decide +kernel), _, rfl, _, _, _, _, rfl, rfl, SqL.of ha, rfl, ((p, ls, lt, dx, lu, b), i), rfl, ⟨B, g⟩, k⟩) fun q => absurd q (by decide)⟩⟩⟩
  | apart i j =>
    have ha : H a = some (.lst [.int 8, .int (i : Int), .int (j : Int)]) := ha
    exact ⟨_, rfl, _, _, _, _, rfl, rfl, SqL.of ha, rfl, rfl, _, rfl, ifE (fun q => absurd q (by decide)) fun _ => ⟨_, rfl, _, _, _, _, rfl, rfl, SqL.of ha, rfl, rfl, _, rfl, ifE (fun q => absurd q (by decide)) fun _ => ⟨_, rfl, _, _, _, _, rfl, rfl, SqL.of ha, rfl, rfl, _, rfl, ifE (fun q => absurd q (by decide)) fun _ => ⟨_, rfl, _, _, _, _, rfl, rfl, SqL.of ha, rfl, rfl, _, rfl, ifE (fun _ => ⟨_, rfl, _, _, _, rfl, hp, no_Book (by decide +kernel), _, rfl, _, _, _, _, rfl, rfl, SqL.of ha, rfl, _, rfl, _, _, _, _, rfl, rfl, SqL.of ha, rfl, ((p, ls, lt, dx, lu, b), i, j), rfl, ⟨B, g⟩, k⟩) fun q => absurd q (by decide)⟩⟩⟩⟩
  | counts =>
    have ha : H a = some (.lst [.int 10]) := ha
    exact ⟨_, rfl, _, _, _, _, rfl, rfl, SqL.of ha, rfl, rfl, _, rfl, ifE (fun q => absurd q (by decide)) fun _ => ⟨_, rfl, _, _, _, _, rfl, rfl, SqL.of ha, rfl, rfl, _, rfl, ifE (fun q => absurd q (by decide)) fun _ => ⟨_, rfl, _, _, _, _, rfl, rfl, SqL.of ha, rfl, rfl, _, rfl, ifE (fun q => absurd q (by decide)) fun _ => ⟨_, rfl, _, _, _, _, rfl, rfl, SqL.of ha, rfl, rfl, _, rfl, ifE (fun q => absurd q (by decide)) fun _ => ⟨_, rfl, _, _, _, _, rfl, rfl, SqL.of ha, rfl, rfl, _, rfl, ifE (fun _ => ⟨_, rfl, _, _, _, rfl, hp, no_Book (by decide +kernel), (p, ls, lt, dx, lu, b), rfl, ⟨B, g⟩, k⟩) fun q => absurd q (by decide)⟩⟩⟩⟩⟩
end
end SbW
end
section
set_option maxHeartbeats 1000000
namespace SbW
open PySem PySem.Spec L2 SbX SbEnum
open PyProof.Rows hiding St
open FtBench (Tool Book Use)
open SbBook (PUse toP Good addItem addTool readSpan checkSpan)
open Ft (Bytes)
open SbPlay (flatC playC)
section
variable {P : Program} {w : World} {K : PySem.W.Frag} {mg : Str → Option Value} {base : Heap} {C : Cl}
theorem cut_from2 (x y : V) (xs : List V) : cutV (x :: y :: xs) (some 2) none = xs := by
  unfold cutV
  rw [HT.sIx_none, show (some (2 : Int)) = some ((2 : Nat) : Int) from rfl, HT.sIx_nat]
  simp only [List.length_cons]
  rw [show min 2 (xs.length + 1 + 1) = 2 by omega, show xs.length + 1 + 1 - 2 = xs.length by omega]
  show xs.take xs.length = xs
  exact List.take_length
theorem cut_call {ns l r : List Int} {n : Nat} (h : ns.drop n = l ++ r) : cutV (ns.map V.int) (some (n : Int)) (some ((n + l.length : Nat) : Int)) = l.map V.int := by
  have hl := congrArg List.length h
  rw [List.length_drop, List.length_append] at hl
  unfold cutV
  rw [HT.sIx_nat, HT.sIx_nat, List.length_map]
  by_cases c : l.length = 0
  · have e : l = [] := List.eq_nil_of_length_eq_zero c
    subst e
    rw [show min (n + ([] : List Int).length) ns.length - min n ns.length = 0 by simp]
    simp
  · rw [show min n ns.length = n by omega, show min (n + l.length) ns.length = n + l.length by omega, show n + l.length - n = l.length by omega, ← List.map_drop, h, ← List.map_take, List.take_left]
def sp_answer_of (C : Cl) : Sp := SpOf (fun x : CkA => [.ref x.1.1, .ref x.2.1]) fun x H Q _ => BkAt C H x.1 ∧ H x.2.1 = some (.lst ((flatC x.2.2).map V.int)) ∧ StA C H Q x.1 (FitC.step x.1.2.2.2.2.2 x.2.2)
theorem sc_answer_of : FnScope ["book", "call"] ["book", "call"] (defScope st_answer_of) := ⟨rfl, rfl, rfl, by decide +kernel, rfl, by decide +kernel, by decide +kernel⟩
theorem D_answer_of (T : Top K mg C) : Def P w K mg base CX0 12 "answer_of" ["book", "call"] (sp_answer_of C) := by
  refine def_mk T.f_answer_of (fun _ _ _ _ _ _ us hl => match us, hl with | [_, _], _ => rfl) sc_answer_of (fun _ => rfl) fun f cdv A outer s H x Q E hr h => ?_
  obtain ⟨⟨p, ls, lt, dx, lu, b⟩, a, c⟩ := x
  try dsimp only at h
  obtain ⟨⟨B, g⟩, ha, k⟩ := h
  have B : BookAt C H p ls lt dx lu b := B
  have g : Good b := g
  have hp := B.ob
  have k : StQ C H Q p ls lt dx lu (FitC.step b c) := k
  refine ⟨_, (pss_cons (ps_if (pt_cmpR op_eq (pe_ix ix_list (pv 1) pe_int (fun _ _ => rfl)) (pc T.c_ITEM) (nomark _)) (pss_one (ps_ret (pe_methD (pv 0) T.k_Book (D_Book_add_item T) (hr.mono (by decide)) pass0 (pa_cons (pe_slice sl_list (pv 1) (po_some pe_int) po_none) pa_nil)))) pss_nil) (pss_cons (ps_if (pt_cmpR op_eq (pe_ix ix_list (pv 1) pe_int (fun _ _ => rfl)) (pc T.c_TOOL) (nomark _)) (pss_one (ps_ret (pe_methD (pv 0) T.k_Book (D_Book_add_tool T) (hr.mono (by decide)) pass0 (pa_cons (pe_makeD (D_Tool_init T) (hr.mono (by decide)) (by rfl) T.g_Tool (pa_cons (pe_ix ix_list (pv 1) pe_int (fun _ _ => rfl)) (pa_cons (pe_ix ix_list (pv 1) pe_int (fun _ _ => rfl)) (pa_cons (pe_ix ix_list (pv 1) pe_int (fun _ _ => rfl)) (pa_cons (pe_ix ix_list (pv 1) pe_int (fun _ _ => rfl)) (pa_cons (pe_ix ix_list (pv 1) pe_int (fun _ _ => rfl)) pa_nil)))))) pa_nil)))) pss_nil) (pss_cons (ps_if (pt_cmpR op_eq (pe_ix ix_list (pv 1) pe_int (fun _ _ => rfl)) (pc T.c_READ) (nomark _)) (pss_one (ps_ret (pe_methD (pv 0) T.k_Book (D_Book_read T) (hr.mono (by decide)) pass0 (pa_cons (pe_ix ix_list (pv 1) pe_int (fun _ _ => rfl)) (pa_cons (pe_ix ix_list (pv 1) pe_int (fun _ _ => rfl)) (pa_cons (pe_ix ix_list (pv 1) pe_int (fun _ _ => rfl)) pa_nil)))))) pss_nil) (pss_cons (ps_if (pt_cmpR op_eq (pe_ix ix_list (pv 1) pe_int (fun _ _ => rfl)) (pc T.c_CHECK) (nomark _)) (pss_one (ps_ret (pe_methD (pv 0) T.k_Book (D_Book_check T) (hr.mono (by decide)) pass0 (pa_cons (pe_ix ix_list (pv 1) pe_int (fun _ _ => rfl)) (pa_cons (pe_ix ix_list (pv 1) pe_int (fun _ _ => rfl)) (pa_cons (pe_ix ix_list (pv 1) pe_int (fun _ _ => rfl)) (pa_cons (pe_ix ix_list (pv 1) pe_int (fun _ _ => rfl)) pa_nil))))))) pss_nil) (pss_cons (ps_if (pt_cmpR op_eq (pe_ix ix_list (pv 1) pe_int (fun _ _ => rfl)) (pc T.c_BACK) (nomark _)) (pss_one (ps_ret (pe_methD (pv 0) T.k_Book (D_Book_back T) (hr.mono (by decide)) pass0 (pa_cons (pe_ix ix_list (pv 1) pe_int (fun _ _ => rfl)) pa_nil)))) pss_nil) (pss_one (ps_ret (pe_callD (D_told T) (hr.mono (by decide)) (by rfl) pass0 (pa_cons (pv 0) (pa_cons (pv 1) pa_nil)))))))))), ?_⟩
  have cases2 : (∃ t, c = .item t) ∨ (∃ t, c = .tool t) ∨ (∃ t i r, c = .read t i r) ∨ (∃ t i j r, c = .check t i j r) ∨ (∃ n, c = .back n) ∨ (isTold c = true ∧ ∃ (z : Int) (l : List V), (flatC c).map V.int = .int z :: l ∧ z ≠ 1 ∧ z ≠ 2 ∧ z ≠ 3 ∧ z ≠ 4 ∧ z ≠ 9) := by
    cases c with
    | item t => exact .inl ⟨_, rfl⟩
    | tool t => exact .inr (.inl ⟨_, rfl⟩)
    | read t i r => exact .inr (.inr (.inl ⟨_, _, _, rfl⟩))
    | check t i j r => exact .inr (.inr (.inr (.inl ⟨_, _, _, _, rfl⟩)))
    | back n => exact .inr (.inr (.inr (.inr (.inl ⟨_, rfl⟩))))
    | known i => exact .inr (.inr (.inr (.inr (.inr ⟨rfl, 5, _, rfl, by decide⟩))))
    | next i => exact .inr (.inr (.inr (.inr (.inr ⟨rfl, 6, _, rfl, by decide⟩))))
    | judge i => exact .inr (.inr (.inr (.inr (.inr ⟨rfl, 7, _, rfl, by decide⟩))))
    | apart i j => exact .inr (.inr (.inr (.inr (.inr ⟨rfl, 8, _, rfl, by decide⟩))))
    | counts => exact .inr (.inr (.inr (.inr (.inr ⟨rfl, 10, _, rfl, by decide⟩))))
  rcases cases2 with ⟨t, rfl⟩ | ⟨t, rfl⟩ | ⟨t, i, r, rfl⟩ | ⟨t, i, j, r, rfl⟩ | ⟨n, rfl⟩ | ⟨hc, z, l, ez, z1, z2, z3, z4, z9⟩
  · have ha : H a = some (.lst (.int 1 :: .int (t.length : Int) :: (t.map fun (c : UInt8) => (c.toNat : Int)).map V.int)) := ha
    refine ⟨_, rfl, _, _, _, _, rfl, rfl, SqL.of ha, at_of (j := 0) rfl rfl, rfl, _, rfl, ifE (fun _ => ⟨_, rfl, _, _, _, rfl, hp, no_Book (by decide +kernel), _, rfl, _, rfl, _, _, rfl, SqL.of ha, fun q hq => ?_⟩) fun q => absurd rfl q⟩
    have s1 : Same H (upd H q (.lst (cutV (.int 1 :: .int (t.length : Int) :: (t.map fun (c : UInt8) => (c.toNat : Int)).map V.int) (some 2) none))) := Same.new hq
    refine ⟨((p, ls, lt, dx, lu, b), q, t), rfl, ⟨B.on s1, g⟩, ?_, fun H' r lu' B' g' e' k' n' m' => k H' r lu' B' g' e' (Keep.trans (Keep.of s1) k') (s1.free n') (m'.imp id s1.free)⟩
    show upd H q _ q = some (.lst (tx t))
    rw [upd_same, cut_from2, List.map_map]
    rfl
  · have ha : H a = some (.lst [.int 2, .int (t.kind : Int), .int t.lo, .int t.hi, .int (t.e : Int), .int (t.d : Int)]) := ha
    refine ⟨_, rfl, _, _, _, _, rfl, rfl, SqL.of ha, rfl, rfl, _, rfl, ifE (fun q => absurd q (by decide)) fun _ => ⟨_, rfl, _, _, _, _, rfl, rfl, SqL.of ha, rfl, rfl, _, rfl, ifE (fun _ => ?_) fun q => absurd rfl q⟩⟩
    refine ⟨_, rfl, _, _, _, rfl, hp, no_Book (by decide +kernel), _, rfl, _, _, _, _, rfl, rfl, SqL.of ha, rfl, _, rfl, _, _, _, _, rfl, rfl, SqL.of ha, rfl, _, rfl, _, _, _, _, rfl, rfl, SqL.of ha, rfl, _, rfl, _, _, _, _, rfl, rfl, SqL.of ha, rfl, _, rfl, _, _, _, _, rfl, rfl, SqL.of ha, rfl, fun x dy nx nd ne => ?_⟩
    refine ⟨(x, t), rfl, dy, upd_same, fun H2 hx kx => ⟨rfl, ?_⟩⟩
    have s2 : Same H H2 := made_same nx nd kx
    exact ⟨((p, ls, lt, dx, lu, b), x, t), rfl, ⟨B.on s2, g⟩, ⟨dy, hx⟩, fun H' r lu' B' g' e' k' n' m' => k H' r lu' B' g' e' (Keep.trans (Keep.of s2) k') (s2.free n') (m'.imp id s2.free)⟩
  · have ha : H a = some (.lst [.int 3, .int (t : Int), .int (i : Int), .int r]) := ha
    refine ⟨_, rfl, _, _, _, _, rfl, rfl, SqL.of ha, rfl, rfl, _, rfl, ifE (fun q => absurd q (by decide)) fun _ => ⟨_, rfl, _, _, _, _, rfl, rfl, SqL.of ha, rfl, rfl, _, rfl, ifE (fun q => absurd q (by decide)) fun _ => ⟨_, rfl, _, _, _, _, rfl, rfl, SqL.of ha, rfl, rfl, _, rfl, ifE (fun _ => ?_) fun q => absurd rfl q⟩⟩⟩
    exact ⟨_, rfl, _, _, _, rfl, hp, no_Book (by decide +kernel), _, rfl, _, _, _, _, rfl, rfl, SqL.of ha, rfl, _, rfl, _, _, _, _, rfl, rfl, SqL.of ha, rfl, _, rfl, _, _, _, _, rfl, rfl, SqL.of ha, rfl, ((p, ls, lt, dx, lu, b), t, i, r), rfl, ⟨B, g⟩, k⟩
  · have ha : H a = some (.lst [.int 4, .int (t : Int), .int i, .int j, .int r]) := ha
    refine ⟨_, rfl, _, _, _, _, rfl, rfl, SqL.of ha, rfl, rfl, _, rfl, ifE (fun q => absurd q (by decide)) fun _ => ⟨_, rfl, _, _, _, _, rfl, rfl, SqL.of ha, rfl, rfl, _, rfl, ifE (fun q => absurd q (by decide)) fun _ => ⟨_, rfl, _, _, _, _, rfl, rfl, SqL.of ha, rfl, rfl, _, rfl, ifE (fun q => absurd q (by decide)) fun _ => ⟨_, rfl, _, _, _, _, rfl, rfl, SqL.of ha, rfl, rfl, _, rfl, ifE (fun _ => ?_) fun q => absurd rfl q⟩⟩⟩⟩
    exact ⟨_, rfl, _, _, _, rfl, hp, no_Book (by decide +kernel), _, rfl, _, _, _, _, rfl, rfl, SqL.of ha, rfl, _, rfl, _, _, _, _, rfl, rfl, SqL.of ha, rfl, _, rfl, _, _, _, _, rfl, rfl, SqL.of ha, rfl, _, rfl, _, _, _, _, rfl, rfl, SqL.of ha, rfl, ((p, ls, lt, dx, lu, b), t, i, j, r), rfl, ⟨B, g⟩, k⟩
  · have ha : H a = some (.lst [.int 9, .int (n : Int)]) := ha
    refine ⟨_, rfl, _, _, _, _, rfl, rfl, SqL.of ha, rfl, rfl, _, rfl, ifE (fun q => absurd q (by decide)) fun _ => ⟨_, rfl, _, _, _, _, rfl, rfl, SqL.of ha, rfl, rfl, _, rfl, ifE (fun q => absurd q (by decide)) fun _ => ⟨_, rfl, _, _, _, _, rfl, rfl, SqL.of ha, rfl, rfl, _, rfl, ifE (fun q => absurd q (by decide)) fun _ => ⟨_, rfl, _, _, _, _, rfl, rfl, SqL.of ha, rfl, rfl, _, rfl, ifE (fun q => absurd q (by decide)) fun _ => ⟨_, rfl, _, _, _, _, rfl, rfl, SqL.of ha, rfl, rfl, _, rfl, ifE (fun _ => ?_) fun q => absurd rfl q⟩⟩⟩⟩⟩
    exact ⟨_, rfl, _, _, _, rfl, hp, no_Book (by decide +kernel), _, rfl, _, _, _, _, rfl, rfl, SqL.of ha, rfl, ((p, ls, lt, dx, lu, b), n), rfl, ⟨B, g⟩, k⟩
  · have hb : H a = some (.lst (.int z :: l)) := by rw [← ez]; exact ha
    refine ⟨_, rfl, _, _, _, _, rfl, rfl, SqL.of hb, at_of (j := 0) rfl rfl, rfl, _, rfl, ifE (fun q => absurd q z1) fun _ => ⟨_, rfl, _, _, _, _, rfl, rfl, SqL.of hb, at_of (j := 0) rfl rfl, rfl, _, rfl, ifE (fun q => absurd q z2) fun _ => ⟨_, rfl, _, _, _, _, rfl, rfl, SqL.of hb, at_of (j := 0) rfl rfl, rfl, _, rfl, ifE (fun q => absurd q z3) fun _ => ⟨_, rfl, _, _, _, _, rfl, rfl, SqL.of hb, at_of (j := 0) rfl rfl, rfl, _, rfl, ifE (fun q => absurd q z4) fun _ => ⟨_, rfl, _, _, _, _, rfl, rfl, SqL.of hb, at_of (j := 0) rfl rfl, rfl, _, rfl, ifE (fun q => absurd q z9) fun _ => ?_⟩⟩⟩⟩⟩
    exact ⟨_, rfl, _, rfl, ((p, ls, lt, dx, lu, b), a, c), rfl, ⟨B, g⟩, ha, hc, k⟩
end
end SbW
end
section
set_option maxHeartbeats 1000000
namespace SbW
open PySem PySem.Spec L2 SbX SbEnum
open PyProof.Rows hiding St
open FtBench (Tool Book Use)
open SbBook (PUse toP Good addItem addTool readSpan checkSpan)
open Ft (Bytes)
open SbPlay (flatC playC)
/-! ### answers -/
theorem used_len (b : Book) (u : Use) : (FitC.used b u).2.length ≤ 3 := by
  unfold FitC.used
  split
  · show 1 ≤ 3; decide
  · split
    · show 1 ≤ 3; decide
    · show 1 ≤ 3; decide
theorem step_len (b : Book) (c : FitC.Call) : (FitC.step b c).2.length ≤ 3 := by
  cases c with
  | item t =>
    unfold FitC.step
    dsimp only
    split
    · show 1 ≤ 3; decide
    · split
      · show 3 ≤ 3; decide
      · split
        · show 1 ≤ 3; decide
        · show 1 ≤ 3; decide
  | tool t =>
    unfold FitC.step
    dsimp only
    split
    · show 1 ≤ 3; decide
    · split
      · show 1 ≤ 3; decide
      · show 1 ≤ 3; decide
  | read t i r =>
    unfold FitC.step
    dsimp only
    split
    · show 1 ≤ 3; decide
    · split
      · show 1 ≤ 3; decide
      · exact used_len _ _
  | check t i j r =>
    unfold FitC.step
    dsimp only
    split
    · show 1 ≤ 3; decide
    · split
      · show 1 ≤ 3; decide
      · exact used_len _ _
  | known i =>
    unfold FitC.step
    dsimp only
    split
    · show 1 ≤ 3; decide
    · show 3 ≤ 3; decide
  | next i =>
    unfold FitC.step
    dsimp only
    split
    · show 1 ≤ 3; decide
    · show 3 ≤ 3; decide
  | judge i =>
    unfold FitC.step
    dsimp only
    split
    · show 1 ≤ 3; decide
    · show 1 ≤ 3; decide
  | apart i j =>
    unfold FitC.step
    dsimp only
    split
    · show 1 ≤ 3; decide
    · show 3 ≤ 3; decide
  | back n =>
    unfold FitC.step
    dsimp only
    split
    · show 1 ≤ 3; decide
    · show 1 ≤ 3; decide
  | counts => show 3 ≤ 3; decide
theorem flat_pos (c : FitC.Call) : 1 ≤ (flatC c).length := by
  cases c <;> exact Nat.le_add_left 1 _
theorem small_of {n : Nat} (h : n < 10000) : n < sizeLine := Nat.lt_trans h (by decide)
def toldC (l : List (List Int)) : List Int := l.flatMap fun a => (a.length : Int) :: a
/-- a list that is no part of the book turns -/
theorem book_off {C : Cl} {H : Hp} {p ls lt dx lu la : Addr} {b : Book} {xs ys : List V} (B : BookAt C H p ls lt dx lu b) (hl : H la = some (.lst xs)) (n1 : la ≠ ls) (n2 : la ≠ lt) (n3 : la ≠ lu) : BookAt C (upd H la (.lst ys)) p ls lt dx lu b := by
  obtain ⟨as, e1, p1⟩ := B.sz
  obtain ⟨ts, e2, p2⟩ := B.tl
  obtain ⟨us, e3, p3⟩ := B.us
  refine ⟨?_, ⟨as, ?_, sizes_at p1 hl⟩, ⟨ts, ?_, tools_at p2 hl⟩, ⟨us, ?_, uses_at p3 hl⟩, B.n1, B.n2, B.n3⟩
  · rw [upd_ne (ne_of B.ob hl (by intro q; cases q))]
    exact B.ob
  · rw [upd_ne (Ne.symm n1)]
    exact e1
  · rw [upd_ne (Ne.symm n2)]
    exact e2
  · rw [upd_ne (Ne.symm n3)]
    exact e3
section
variable {P : Program} {w : World} {K : PySem.W.Frag} {mg : Str → Option Value} {base : Heap} {C : Cl}
abbrev en_answers : Addr × List FitC.Call → List V := fun x => [.ref x.1]
def bo_answers (K : PySem.W.Frag) : Addr × List FitC.Call → Hp → VK → XK → Prop := fun x H Q _ => SqL K H x.1 ((x.2.flatMap flatC).map V.int) ∧ x.2.length ≤ 400 ∧
  ∀ H' r, H r = none → H' r = some (.lst ((toldC (playC FitC.start x.2)).map V.int)) → Same H H' → Q (.ref r) H'
def sp_answers (K : PySem.W.Frag) : Sp := SpOf en_answers (bo_answers K)
theorem sc_answers : FnScope ["calls", "book", "answered", "at", "end", "answer"] ["calls"] (defScope st_answers) := ⟨rfl, rfl, rfl, by decide +kernel, rfl, by decide +kernel, by decide +kernel⟩
theorem D_answers (T : Top K mg C) : Body0 P w K mg base 12 "answers" st_answers ["calls", "book", "answered", "at", "end", "answer"] en_answers (bo_answers K) := by
  refine fun f cdv A outer s H x Q E hr h => ?_
  obtain ⟨a, xs⟩ := x
  unfold bo_answers at h
  try dsimp only at h
  obtain ⟨S, h400, k⟩ := h
  have S : SqL K H a ((xs.flatMap flatC).map V.int) := S
  have h400 : xs.length ≤ 400 := h400
  refine ⟨_, (pss_cons (ps_set (i := 1) sc_answers.nd rfl (Or.inl rfl) (pe_makeD0 (D_Book_init T) (hr.mono (by decide)) (by rfl) T.g_Book)) (pss_cons (ps_set (i := 2) sc_answers.nd rfl (Or.inl rfl) (pe_lst pa_nil)) (pss_cons (ps_set (i := 3) sc_answers.nd rfl (Or.inl rfl) pe_int) (pss_cons (ps_while PassesOwn.never (pt_cmpR op_lt (pv 3) (pe_callB call_len_seq (by rfl) T.n_len PySem.boot_len (pa_cons (pv 0) pa_nil)) (nomark _)) (pss_cons (ps_set (i := 4) sc_answers.nd rfl (Or.inl rfl) (pe_callD (D_call_end T) (hr.mono (by decide)) (by rfl) pass0 (pa_cons (pv 0) (pa_cons (pv 3) pa_nil)))) (pss_cons (ps_set (i := 5) sc_answers.nd rfl (Or.inl rfl) (pe_callD (D_answer_of T) (hr.mono (by decide)) (by rfl) pass0 (pa_cons (pv 1) (pa_cons (pe_slice sl_list (pv 0) (po_some (pv 3)) (po_some (pv 4))) pa_nil)))) (pss_cons (ps_expr (pe_bm PySem.F.plainAttrs_list PySem.F.slot_list_append PySem.F.type_list_append mt_append (pv 2) (pa_cons (pe_callB call_len_seq (by rfl) T.n_len PySem.boot_len (pa_cons (pv 5) pa_nil)) pa_nil))) (pss_cons (ps_expr (pe_bm PySem.F.plainAttrs_list PySem.F.slot_list_extend PySem.F.type_list_extend mt_extend (pv 2) (pa_cons (pv 5) pa_nil))) (pss_one (ps_set (i := 3) sc_answers.nd rfl (Or.inl rfl) (pv 4)))))))) (pss_one (ps_ret (pv 2))))))), ?_⟩
  refine fun p dy nx nd ne => ⟨p, rfl, dy, upd_same, fun H2 ls lt lu B0 fs ft kp => ⟨rfl, ?_⟩⟩
  have s2 : Same H H2 := made_same nx nd kp
  have sb : Same H (upd (upd H dy (.own p)) p (.ins C.cB dy [])) := made_same nx nd (Keep.refl _ _)
  have fls := sb.free fs
  have flt := sb.free ft
  refine ⟨Nat.zero_le _, fun la hla => ?_⟩
  have fla : H la = none := s2.free hla
  have nlp : la ≠ p := Ne.symm (ne_of_none B0.ob hla)
  have nls : la ≠ ls := let ⟨_, e, _⟩ := B0.sz; Ne.symm (ne_of_none e hla)
  have nlt : la ≠ lt := let ⟨_, e, _⟩ := B0.tl; Ne.symm (ne_of_none e hla)
  have nlu : la ≠ lu := let ⟨_, e, _⟩ := B0.us; Ne.symm (ne_of_none e hla)
  refine while_on (fun m σ H' => ∃ (cs : List FitC.Call) (b : Book) (n : Nat) (ans : List Int) (lu : Addr) (v4 v5 : Option V), m = cs.length ∧ σ = [some (.ref a), some (.ref p), some (.ref la), some (.int (n : Int)), v4, v5] ∧
    BookAt C H' p ls lt dy lu b ∧ Good b ∧ H' la = some (.lst (ans.map V.int)) ∧ la ≠ lu ∧ Same H H' ∧ (xs.flatMap flatC).drop n = cs.flatMap flatC ∧ n ≤ (xs.flatMap flatC).length ∧ ans ++ toldC (playC b cs) = toldC (playC FitC.start xs) ∧ ans.length + 4 * cs.length ≤ 1600)
    ⟨_, xs, Book.empty, 0, [], lu, none, none, rfl, rfl, B0.on (Same.new hla), SbBook.good_empty, upd_same, nlu, s2.on hla, rfl, Nat.zero_le _, rfl, ?_⟩ ?_
  · show 0 + 4 * xs.length ≤ 1600
    omega
  · intro m σ H' hI
    obtain ⟨cs, b, n, ans, lu, v4, v5, rfl, rfl, B, g, el, nu, sm, hd, hn, ht, h16⟩ := hI
    have S1 : SqL K H' a ((xs.flatMap flatC).map V.int) := sm.seq S
    refine ⟨_, rfl, _, rfl, _, _, rfl, .inl S1, _, _, rfl, rfl, _, rfl, ?_⟩
    cases cs with
    | nil =>
      have hl := congrArg List.length hd
      rw [List.length_drop] at hl
      have hl : (xs.flatMap flatC).length - n = 0 := hl
      have e0 : ¬ (n : Int) < ((((xs.flatMap flatC).map V.int).length : Nat) : Int) := by rw [List.length_map]; omega
      refine wkD (fun c => (e0 c).elim) fun _ => ?_
      refine ⟨_, rfl, k H' la fla ?_ sm⟩
      rw [el, ← ht]
      show some (HO.lst (ans.map V.int)) = some (HO.lst ((ans ++ []).map V.int))
      rw [List.append_nil]
    | cons c cs =>
      have hd : (xs.flatMap flatC).drop n = flatC c ++ cs.flatMap flatC := hd
      have hl := congrArg List.length hd
      rw [List.length_drop, List.length_append] at hl
      have fp := flat_pos c
      have e0 : (n : Int) < ((((xs.flatMap flatC).map V.int).length : Nat) : Int) := by rw [List.length_map]; omega
      refine wkD (fun _ => ?_) fun c => (c e0).elim
      refine ⟨_, rfl, _, rfl, (a, xs.flatMap flatC, n, c, cs.flatMap flatC), rfl, S1, hd, ?_⟩
      refine ⟨_, rfl, _, rfl, _, rfl, _, rfl, _, rfl, _, rfl, _, _, rfl, S1, fun q hq => ?_⟩
      have s1 : Same H' (upd H' q (.lst (cutV ((xs.flatMap flatC).map V.int) (some (n : Int)) (some ((n + (flatC c).length : Nat) : Int))))) := Same.new hq
      refine ⟨((p, ls, lt, dy, lu, b), q, c), rfl, ⟨B.on s1, g⟩, ?_, fun H3 r lu3 B3 g3 e3 k3 n3 m3 => ?_⟩
      · show upd H' q _ q = _
        rw [upd_same, cut_call hd]
      · have B3 : BookAt C H3 p ls lt dy lu3 (FitC.step b c).1 := B3
        have e3 : H3 r = some (.lst ((FitC.step b c).2.map V.int)) := e3
        have el3 : H3 la = some (.lst (ans.map V.int)) := k3 _ _ (s1 _ _ el) (by simp [nlp, nls, nlt])
        have nra : r ≠ la := ne_of_none (s1 _ _ el) n3 |>.symm
        have nu3 : la ≠ lu3 := by
          rcases m3 with z | z
          · exact z ▸ nu
          · exact ne_of_none (s1 _ _ el) z
        have s13 : Same H H3 := fun c o e => k3 c o (s1 _ _ (sm _ _ e)) (by
          have y1 := ne_of_none e nx
          have y2 := ne_of_none e fls
          have y3 := ne_of_none e flt
          simp [y1, y2, y3])
        have sl := step_len b c
        have h16 : ans.length + 4 * (cs.length + 1) ≤ 1600 := h16
        have e4 : upd H3 la (.lst (ans.map V.int ++ [.int ((((FitC.step b c).2.map V.int).length : Nat) : Int)])) r = some (.lst ((FitC.step b c).2.map V.int)) := (upd_ne nra).trans e3
        refine ⟨_, rfl, .inl ⟨rfl, _, SqL.of el3⟩, _, rfl, _, _, rfl, .inl (SqL.of e3), la, _, _, rfl, rfl, el3, small_of (by rw [List.length_map]; omega), ?_⟩
        refine ⟨_, rfl, .inl ⟨rfl, _, SqL.of upd_same⟩, _, rfl, la, r, _, _, rfl, rfl, upd_same, e4, Nat.le_of_lt (small_of ?_), ?_⟩
        · rw [List.length_append, List.length_map, List.length_map]
          show ans.length + 1 + (FitC.step b c).2.length < 10000
          omega
        · refine ⟨_, rfl, cs.length, Nat.lt_succ_self _, cs, (FitC.step b c).1, n + (flatC c).length, ans ++ (((FitC.step b c).2.length : Int) :: (FitC.step b c).2), lu3, _, _, rfl, rfl, book_off (book_off B3 el3 nls nlt nu3) upd_same nls nlt nu3, g3, ?_, nu3, (s13.own fla).own fla, ?_, ?_, ?_, ?_⟩
          · rw [upd_same, List.length_map, List.map_append, List.map_cons, List.append_assoc]
            rfl
          · rw [← List.drop_drop, hd, List.drop_left]
          · omega
          · rw [← ht, List.append_assoc]
            rfl
          · rw [List.length_append, List.length_cons]
            omega
/-- the def's promise over every base -/
theorem answers_ok (T : Top K mg C) : ∃ (f : Addr) (fd : FuncData), mg "answers" = some (.ref f) ∧ (∀ (s : Shared) (u : Value), BindsTo s fd ⟨[u], []⟩ [("calls", u)]) ∧ ∀ base : Heap, FnOk P w K mg base CX0 13 f fd ["calls"] (sp_answers K) := by
  obtain ⟨f, fd, h1, F⟩ := T.f_answers
  refine ⟨f, fd, h1, ?_, fun base => fun_ok0 F sc_answers (fun _ => rfl) (D_answers T)⟩
  obtain ⟨oc, od, kV, doc, pm, an, cdv, ct, osl, rfl, lk, hcd⟩ := F.ex
  exact fun s u => .of_eq rfl
end
end SbW
end
section
set_option maxHeartbeats 1000000
namespace SbW
open PySem PySem.Spec L2
open PyProof.Rows hiding St
/-! ### the call from the module's level: a list of whole numbers in, one out -/
theorem reads_ints {R : PySem.W.WRecords} {cl : Str → Option Addr} {h : Heap} : ∀ (ls : List Int) (vs : List Value), Vals (ls.map V.int) vs → PySem.W.ReadsAllW R cl h vs (ls.map PySem.W.WData.int) [] := by
  intro ls
  induction ls with
  | nil =>
    intro vs r
    cases r
    exact .nil
  | cons n ls ih =>
    intro vs r
    rw [List.map_cons] at r
    cases r with
    | cons a b =>
      obtain ⟨t, rfl⟩ : ∃ t, _ = Value.int n t := a
      exact PySem.W.ReadsAllW.cons (as := []) (bs := []) (.int n t) (ih _ b)
/-- what is asked of the end: a list of these numbers -/
def EndsIn (s₁ : Shared) (ls : List Int) (r : Result) (s' : Shared) : Prop :=
  (∃ a vs n, r = .ok (.ret (.ref a)) ∧ s'.heap.get? a = some { cls := .type "list", data := .seq vs n } ∧ Vals (ls.map V.int) vs.toList) ∧ OldK s₁.heap s'.heap ∧ s'.os = s₁.os ∧ AllBare s'.gens
theorem list_call {P : Program} {w : World} {K : PySem.W.Frag} {mg mb : Str → Option Value} {k : Nat} {fa a : Addr} {fd : FuncData} {x : Str} {sp : Sp} {s₁ : Shared} {vs : List Value} {ns ls : List Int}
    (KX : K.In s₁.heap) (hns : s₁.heap.Ns mainGlobals mg) (hb : s₁.heap.Ns builtinsNs mb) (hbb : ∀ x : Str, x ≠ "__name__" → mb x = bootBuiltins x) (hlim : s₁.heap.NoLimit) (hg : s₁.gens = #[])
    (ha : s₁.heap.get? a = some { cls := .type "list", data := .seq vs.toArray }) (hi : IntsAre vs ns) (hl : ns.length ≤ sizeLine) (hr : Room k callerA)
    (F : ∀ base : Heap, FnOk P w K mg base CX0 k fa fd [x] sp) (hbind : ∀ (s : Shared) (u : Value), BindsTo s fd ⟨[u], []⟩ [(x, u)])
    (hsp : ∀ H : Hp, SqL K H a (ns.map V.int) → sp [.ref a] H (fun v H' => ∃ r, v = .ref r ∧ H' r = some (.lst (ls.map V.int))) fun _ _ _ => False) :
    codeAny (model P w) callerA (.call (.ref fa) ⟨[.ref a], []⟩) (EndsIn s₁ ls) s₁ := by
  have rv := vals_ints hi
  have lenV := hi.length
  have core : ∀ H : Hp, Only H → SqL K H a (ns.map V.int) → HOk P w H s₁.heap → (∀ b, H b ≠ none → b = a) → (H a ≠ none → K.lookup a = none) →
      codeAny (model P w) callerA (.call (.ref fa) ⟨[.ref a], []⟩) (EndsIn s₁ ls) s₁ := by
    intro H hO hS hok hA hK
    have base_of : ∀ {b : Addr} {o : Obj}, s₁.heap.get? b = some o → H b = none → (hidT s₁.heap H).get? b = some o := fun e n => hidT_get e n
    have noA : ∀ {b : Addr} {o : Obj} {es : Array DictEntry} {ep : Nat}, s₁.heap.get? b = some o → o.data = .dict es ep → H b = none := fun {b o es ep} e d => by
      cases q : H b with
      | none => rfl
      | some u =>
        have e' : b = a := hA b (by rw [q]; simp)
        subst e'
        rw [ha] at e; cases e
        have d' : Data.seq vs.toArray _ = Data.dict es ep := d
        cases d'
    have nsK : ∀ {b : Addr} {m : Str → Option Value}, s₁.heap.Ns b m → (hidT s₁.heap H).Ns b m := fun {b m} ⟨o, es, ep, e, d, r⟩ => ⟨o, es, ep, base_of e (noA e d), d, r⟩
    have hKb : K.In (hidT s₁.heap H) := fun b o e => base_of (KX b o e) (by
      cases q : H b with
      | none => rfl
      | some u =>
        have e' : b = a := hA b (by rw [q]; simp)
        subst e'
        rw [hK (by rw [q]; simp)] at e; cases e)
    have hM : Mod K mg (hidT s₁.heap H) := ⟨hKb, nsK hns, ⟨mb, nsK hb, hbb⟩, let ⟨mc, h1, h2⟩ := hlim; ⟨mc, nsK h1, h2⟩⟩
    have e0 : Env0 P w K mg (hidT s₁.heap H) callerA [] s₁ H := ⟨rfl, hM, fun b o e => of_hidT e, Nat.le_of_eq (hidT_size _ _), trivial, fun b hb => absurd (show b ∈ ([] : List Addr) from hb) (by simp), hok, .of_eq hg⟩
    refine codeAny_mono ((F _).run callerA [] s₁ H ⟨[.ref a], []⟩ [.ref a] [.ref a] _ _ hr e0 (hbind s₁ (.ref a)) (.cons rfl .nil) (hsp H hS)) fun r s' h => ?_
    cases r with
    | error e => exact False.elim h
    | ok fl =>
      cases fl with
      | next => exact False.elim h
      | brk => exact False.elim h
      | cont => exact False.elim h
      | ret u =>
        obtain ⟨v, H', os, bare, un, hok', r', q⟩ := h
        obtain ⟨q1, rfl, q2⟩ : ∃ r, v = .ref r ∧ H' r = some (.lst (ls.map V.int)) := q
        obtain rfl : u = Value.ref q1 := r'
        obtain ⟨_, its, n, rl, hq⟩ := hok' q1 _ q2
        refine ⟨⟨q1, its.toArray, n, rfl, hq, by simpa using rl⟩, OldK.of_keep fun b o e => ?_, os, bare⟩
        cases q : H b with
        | none => exact un.keep b o e q (by intro z; exact absurd (show b ∈ ([] : List Addr) from z) (by simp)) (by simp)
        | some u =>
          rcases hO b with z | ⟨ob, xs, z⟩
          · rw [q] at z; cases z
          · have z2 := un.frzs b ob _ z
            obtain ⟨e1, _⟩ := hok b _ z
            obtain ⟨e2, _⟩ := hok' b _ z2
            rw [e] at e1; cases e1
            exact e2
  cases hk : K.lookup a with
  | some o =>
    have e := KX a o hk
    rw [ha] at e
    cases e
    refine core (fun _ => none) (fun _ => .inl rfl) (.inr ⟨_, vs.toArray, _, hk, rfl, rfl, rfl, by rw [List.size_toArray, lenV]; exact hl, by simpa using rv⟩) (fun b u z => by have z' : (none : Option HO) = some u := z; cases z') (fun b z => absurd rfl z) fun z => absurd rfl z
  | none =>
    refine core (fun b => if b = a then some (.frz { cls := .type "list", data := .seq vs.toArray } (.lst (ns.map V.int))) else none) (fun b => ?_) (.inl (.inr ⟨{ cls := .type "list", data := .seq vs.toArray }, if_pos rfl⟩)) (fun b u z => ?_) (fun b z => ?_) fun _ => hk
    · by_cases hb : b = a
      · exact .inr ⟨_, _, if_pos hb⟩
      · exact .inl (if_neg hb)
    · by_cases hb : b = a
      · have z' := (if_pos hb).symm.trans z
        cases z'
        subst hb
        exact ⟨ha, by rw [List.length_map]; exact hl, vs, _, rv, ha⟩
      · have z' := (if_neg hb).symm.trans z
        cases z'
    · by_cases hb : b = a
      · exact hb
      · exact absurd (if_neg hb) z
/-! ### the row's own words -/
abbrev rw01 : PySem.W.OpenSpec := PySem.Challenge.rw_surebounds_s01_answers
theorem pre_ints (k : rw01.wellSaid = true) {args : List PySem.W.WData} (h : rw01.pre args = true) : ∃ ns : List Int, ns.length ≤ 23000 ∧ PyWqajbt.answers_asked ns = true ∧ args = [.list (ns.map PySem.W.WData.int)] ∧
    ∀ d, d = PySem.W.WData.list ((PyWqajbt.answers ns).map PySem.W.WData.int) → rw01.post args d = true := by
  obtain ⟨a, h1, h2, h3⟩ := (PySem.W.OpenSpec.pre_iff k args).mp h
  subst h3
  obtain ⟨ns, u⟩ := a
  refine ⟨ns, ?_, h2, rfl, fun d e => (PySem.W.OpenSpec.post_iff k h1 d []).mpr e⟩
  have h4 := (Bool.and_eq_true_iff.mp (show (PySem.W.Codec.inList 0 23000 (PySem.W.Codec.inInt (Int.negSucc 4398046511103) (Int.ofNat 4398046511104)) ns && true) = true from h1)).1
  have h5 := (Bool.and_eq_true_iff.mp h4).1
  exact (PySem.W.Codec.inNat_iff.mp h5).2
/-- the row from the promise of its def -/
theorem walk_os (k1 : rw01.wellSaid = true) {q : Program} {loose : List Str} {XP : (Str → Option Value) → Heap → Prop} {YP : World → Heap → Prop} {d : DefRec} {K : Params → PySem.W.Frag} (hdf : d.params.defaults = [])
    (hY : ∀ (w : World) (h : Heap), YP w h → (K w.params).In h)
    (F : ∀ (w : World) (mg : Str → Option Value) (fa : Addr) (h : Heap), (K w.params).In h → h.Ns mainGlobals mg → mg d.name = some (.ref fa) →
      ∃ fd : FuncData, (∀ (s : Shared) (u : Value), BindsTo s fd ⟨[u], []⟩ [("calls", u)]) ∧ ∀ base : Heap, FnOk rw01.prog w (K w.params) mg base CX0 13 fa fd ["calls"] (sp_answers (K w.params))) :
    PySem.W.WalkOS q loose XP YP rw01 d [] (fun f vs => PySem.call f vs) := by
  intro w s₀ s₁ mg mb G Y fa o pm cd doc dV kV ho hd hcd hD hmg hg args vals as hpre hlay hrd hwl hlo
  obtain ⟨ns, hn, hask, rfl, hpost⟩ := pre_ints k1 hpre
  obtain ⟨xs, hx, rfl, hans⟩ := SbPlay.asked_calls hask
  cases hwl with
  | cons w1 w2 =>
    cases w2
    cases w1 with
    | list hobj hall =>
      have hints := Att.ints_of_wellAll _ _ hall
      have KX := hY w _ Y
      obtain ⟨fd, hb, hF⟩ := F w mg fa _ KX G.T.g hmg
      refine PySem.W.enter_call (codeAny_mono (list_call (ls := toldC (SbPlay.playC FitC.start xs)) KX G.T.g G.T.b G.T.builtins G.T.nolimit hg hobj hints (Nat.le_trans hn (by decide)) ⟨rfl, by decide, by decide⟩ hF hb fun H hS => ⟨(_, xs), rfl, hS, hx, fun H' r _ e _ => ⟨r, rfl, e⟩⟩) fun r s' he => ?_)
      obtain ⟨⟨a, vs, n, rfl, h1, h2⟩, h3, h4, h5⟩ := he
      exact ⟨.inl ⟨.ref a, _, _, rfl, fun _ => rfl, .list h1 rfl rfl (reads_ints _ _ h2), hpost _ (by rw [hans]; rfl), fun z => nomatch z⟩, h3, h4, h5⟩
end SbW
end
section
set_option maxHeartbeats 1000000
namespace SbW
open PySem PySem.Spec L2 SbX
open PyProof.Rows hiding St
/-! ### what the top has written, each part from its facts -/
section
variable {K : PySem.W.Frag} {h : Heap} {mg : Str → Option Value} {x m qual : Str} {st : Stmt} {C N f : Addr} {oc kV doc pm cdv ct : Value} {od an : Option Addr} {osl : Array (Option Value)}
theorem cst_mk {n : Int} {t : Tok} (X : K.In h) (G : h.Ns mainGlobals mg) (e : PySem.W.nsIn K mainGlobals x = some (some (.int n t))) : Cst mg x n := ⟨t, PySem.W.mg_of X G e⟩
theorem fnT_mk (X : K.In h) (G : h.Ns mainGlobals mg) (a : PySem.W.nsIn K mainGlobals x = some (some (.ref f))) (l : K.lookup f = some ⟨oc, od, .func (PySem.W.fnOf x x (defArgs st) (defBody st) (defScope st) .none kV doc pm an cdv ct), osl⟩)
    (c : PySem.W.codeIn K cdv x = true) (k : PySem.W.keepIn K (.ref f) = true) : FnT K mg x st := ⟨f, _, PySem.W.mg_of X G a, fun_mk l c k⟩
theorem mtT_mk (a : PySem.W.findIn K (.ref C) m = some (some (.ref f))) (i : PySem.W.isFn K (.ref f) = true) (l : K.lookup f = some ⟨oc, od, .func (PySem.W.fnOf m qual (defArgs st) (defBody st) (defScope st) .none kV doc pm an cdv ct), osl⟩)
    (c : PySem.W.codeIn K cdv qual = true) (k : PySem.W.keepIn K (.ref f) = true) : MtT K C m qual st := ⟨f, _, ⟨a, i, k⟩, fun_mk l c k⟩
theorem inT_mk (mk : PySem.W.makesIn K C = true) (a : PySem.W.findIn K (.ref C) "__init__" = some (some (.ref f))) (i : PySem.W.isFn K (.ref f) = true) (l : K.lookup f = some ⟨oc, od, .func (PySem.W.fnOf "__init__" qual (defArgs st) (defBody st) (defScope st) .none kV doc pm an cdv ct), osl⟩)
    (c : PySem.W.codeIn K cdv qual = true) (k : PySem.W.keepIn K (.ref f) = true) (kc : PySem.W.keepIn K (.ref C) = true) : InT K C qual st := ⟨f, _, ⟨mk, a, i, kc⟩, fun_mk l c k⟩
theorem map_K {c : Value} {d : Option Addr} {es : Array DictEntry} {ep : Nat} {sl : Array (Option Value)} (X : K.In h) (l : K.lookup N = some ⟨c, d, .dict es ep, sl⟩) (x : Str) : h.nsMap N x = nsFind es x := by
  unfold Heap.nsMap
  rw [X _ _ l]
theorem flt_mk {fI : Addr} {nm q : Str} {bs sub : List Value} {sn : List Str} {ab : Bool} {col : Option Bool} {dd : Option Addr} {k0 k1 k2 k3 k5 : Option Value} {c : Value} {d : Option Addr} {es : Array DictEntry} {ep : Nat} {sl : Array (Option Value)}
    (l : K.lookup C = some (excClassObj nm q C N bs vMro true sn sub ab col dd k0 k1 k2 k3 k5 "ValueError.__new__")) (ln : K.lookup N = some ⟨c, d, .dict es ep, sl⟩) (ok : PySem.W.nsOkIn K N = true)
    (li : K.lookup fI = some ⟨.type "function", od, .func (PySem.W.fnOf "__init__" "SizeFault.__init__" (defArgs st) (defBody st) (defScope st) .none kV doc pm an cdv ct), osl⟩)
    (e0 : nsFind es "__init__" = some (.ref fI)) (e1 : nsFind es "__setattr__" = none) (e2 : nsFind es "__getattribute__" = none) (e3 : nsFind es "__getattr__" = none) (e4 : nsFind es "kind" = none) (e5 : nsFind es "place" = none)
    (kc : PySem.W.keepIn K (.ref C) = true) : FltK K C fI where
  at_ := fun h X => ⟨h.nsMap N, ⟨nm, q, N, bs, sn, sub, ab, col, dd, k0, k1, k2, k3, k5, X _ _ l, .of_isNs (PySem.W.isNs_of_in X ok)⟩, (map_K X ln _).trans e0, (map_K X ln _).trans e1, (map_K X ln _).trans e2, (map_K X ln _).trans e3, (map_K X ln _).trans e4, (map_K X ln _).trans e5⟩
  fn := fun h X => ⟨_, X _ _ li, rfl⟩
  kp := kc
theorem num_mk {a : Addr} {t0 t1 t2 t3 t4 t5 t6 t7 t8 t9 t10 t11 t12 t13 t14 t15 t16 t17 : Tok} (X : K.In h) (G : h.Ns mainGlobals mg) (e : PySem.W.nsIn K mainGlobals "NUMBERS" = some (some (.ref a)))
    (l : K.lookup a = some ⟨.type "dict", none, .dict (numEs t0 t1 t2 t3 t4 t5 t6 t7 t8 t9 t10 t11 t12 t13 t14 t15 t16 t17) 9, #[]⟩) (n : (a == sysModules) = false) : NumT K mg :=
  ⟨a, t0, t1, t2, t3, t4, t5, t6, t7, t8, t9, t10, t11, t12, t13, t14, t15, t16, t17, PySem.W.mg_of X G e, l, n⟩
end
end SbW
end
namespace PySem.W.Fast
theorem tw14951829090061837440 : True := trivial
theorem tw11924333452113196192 : True := trivial
theorem tw6455492276055164192 : True := trivial
theorem tw4415490604762790208 : True := trivial
theorem tw15442235341635761504 : True := trivial
theorem tw7409593025151651264 : True := trivial
theorem tw12935948454925187552 : True := trivial
theorem tw6604682769358732864 : True := trivial
theorem tw15428102841777636992 : True := trivial
theorem tw13706149738299193984 : True := trivial
theorem tw1094383928664922880 : True := trivial
theorem tw90748589646227200 : True := trivial
theorem tw11674886509634596640 : True := trivial
theorem tw9199143101940810560 : True := trivial
theorem tw3671905776072088384 : True := trivial
theorem tw6256996118708714336 : True := trivial
theorem tw14715236532377225152 : True := trivial
theorem tw9613843187451271104 : True := trivial
theorem tw701278565459493089 : True := trivial
theorem tw5911137403714015585 : True := trivial
theorem tw1831422287507864993 : True := trivial
theorem tw7282893764274365857 : True := trivial
theorem tw3719258684790583745 : True := trivial
theorem tw11723779119095145921 : True := trivial
theorem tw17198746591206609505 : True := trivial
theorem tw645555378672091745 : True := trivial
theorem tw8182761673809317569 : True := trivial
theorem tw7447475170339712737 : True := trivial
theorem tw16389439308323608449 : True := trivial
theorem tw334075710246222785 : True := trivial
theorem tw3624908213934333889 : True := trivial
theorem tw2372880895827851233 : True := trivial
theorem tw11208799222837197858 : True := trivial
theorem tw11464092501172318274 : True := trivial
theorem tw9913279668208167010 : True := trivial
theorem tw1181575606377210978 : True := trivial
theorem tw7870537294284413058 : True := trivial
theorem tw16086568417408814242 : True := trivial
theorem tw2354335302166703266 : True := trivial
theorem tw10204976487172062402 : True := trivial
theorem tw17896217899231608034 : True := trivial
theorem tw3299749717241058754 : True := trivial
theorem tw12826130708356264386 : True := trivial
theorem tw14504474584045506018 : True := trivial
theorem tw16872252321365849666 : True := trivial
theorem tw7086761778840603234 : True := trivial
theorem tw13926531158079005314 : True := trivial
theorem tw8352510147551161986 : True := trivial
theorem tw15032155511461487266 : True := trivial
theorem tw12425962378604194 : True := trivial
theorem tw4255792759343512226 : True := trivial
theorem tw2570035164550023874 : True := trivial
theorem tw17345249215675468514 : True := trivial
theorem tw12408754026773851970 : True := trivial
theorem tw6151799198539853827 : True := trivial
theorem tw7755862390348876867 : True := trivial
theorem tw5355373552107466883 : True := trivial
theorem tw178280903206317251 : True := trivial
theorem tw12218976579242933443 : True := trivial
theorem tw10588408400300851523 : True := trivial
theorem tw7898933620864079171 : True := trivial
theorem tw8167735583938207075 : True := trivial
theorem tw2150552327663051107 : True := trivial
theorem tw7002115196357380547 : True := trivial
theorem tw11766189151774719427 : True := trivial
theorem tw4852190509817731555 : True := trivial
theorem tw3943556113569506787 : True := trivial
theorem tw6979683489034911235 : True := trivial
theorem tw9102164414083914243 : True := trivial
theorem tw6136386020319783459 : True := trivial
theorem tw15750335284506975811 : True := trivial
theorem tw12248706873028430435 : True := trivial
theorem tw11676864005118787203 : True := trivial
theorem tw935072450572162755 : True := trivial
theorem tw8153728542909857475 : True := trivial
theorem tw17121807121254936355 : True := trivial
theorem tw6576964713691604963 : True := trivial
theorem tw384133237444826116 : True := trivial
theorem tw1585382517685501988 : True := trivial
theorem tw5635635540436146244 : True := trivial
theorem tw4110604246324370500 : True := trivial
theorem tw10689988526456926276 : True := trivial
theorem tw9836006737482673252 : True := trivial
theorem tw7921959594383339620 : True := trivial
theorem tw9925176208844493028 : True := trivial
theorem tw10432738410904611076 : True := trivial
theorem tw685091393464289572 : True := trivial
theorem tw5677382628238583172 : True := trivial
theorem tw11548225114139792836 : True := trivial
theorem tw14982894143825232324 : True := trivial
theorem tw8833097613409787364 : True := trivial
theorem tw9503304129853368964 : True := trivial
theorem tw7023316591521746756 : True := trivial
theorem tw13065054309343980388 : True := trivial
theorem tw15459788642661003301 : True := trivial
theorem tw14535529174874352709 : True := trivial
theorem tw3952239631547021733 : True := trivial
theorem tw8858545907178852837 : True := trivial
theorem tw17673650958763761221 : True := trivial
theorem tw193324956883390053 : True := trivial
theorem tw12073021194444947045 : True := trivial
theorem tw8879927132386244229 : True := trivial
theorem tw7186835776395454117 : True := trivial
theorem tw9394262290518774469 : True := trivial
theorem tw12451185306136170181 : True := trivial
theorem tw3958673639063015173 : True := trivial
theorem tw2751603057416858469 : True := trivial
theorem tw6063475455547916197 : True := trivial
theorem tw16442227384849680390 : True := trivial
theorem tw13978217302399460390 : True := trivial
theorem tw10885848486706689222 : True := trivial
theorem tw881326506492907782 : True := trivial
theorem tw9215332249956087046 : True := trivial
theorem tw2450223338455394598 : True := trivial
theorem tw15501327948213454214 : True := trivial
theorem tw1422658201744012742 : True := trivial
theorem tw8368773975535099334 : True := trivial
theorem tw5860991925857004006 : True := trivial
theorem tw15171053182260425190 : True := trivial
theorem tw6986445003529127462 : True := trivial
theorem tw5877068626060031526 : True := trivial
theorem tw8014212767729957510 : True := trivial
theorem tw12247908723174320774 : True := trivial
theorem tw16613603056208301926 : True := trivial
theorem tw13748687736308497286 : True := trivial
theorem tw8121586338177186694 : True := trivial
theorem tw11274677205750201286 : True := trivial
theorem tw12016502332226613222 : True := trivial
theorem tw1037932297880074247 : True := trivial
theorem tw14706194369097734183 : True := trivial
theorem tw17045048747594523719 : True := trivial
theorem tw537634439350570151 : True := trivial
theorem tw4390369486953502887 : True := trivial
theorem tw16227862675608613095 : True := trivial
theorem tw4132449702786233671 : True := trivial
theorem tw1405254588680973671 : True := trivial
theorem tw12870372701017097575 : True := trivial
theorem tw2539604389260048807 : True := trivial
theorem tw9583121859484114375 : True := trivial
theorem tw42948072305791495 : True := trivial
theorem tw1703713718767045127 : True := trivial
theorem tw11962059839426151047 : True := trivial
theorem tw11374490199753691879 : True := trivial
theorem tw7035366318055460647 : True := trivial
theorem tw10133600279276220231 : True := trivial
theorem tw3607954338005830631 : True := trivial
theorem tw16242761290039790632 : True := trivial
theorem tw6364690286848602216 : True := trivial
theorem tw2377911219218619560 : True := trivial
theorem tw6435261816132853960 : True := trivial
theorem tw1554606693353535720 : True := trivial
theorem tw5097716998767226152 : True := trivial
theorem tw13479585688368512296 : True := trivial
theorem tw3462355616787300680 : True := trivial
theorem tw14586824979608862056 : True := trivial
theorem tw17170276630173763944 : True := trivial
theorem tw7697158557789199752 : True := trivial
theorem tw13766011171611377064 : True := trivial
theorem tw329155707607519720 : True := trivial
theorem tw2131794313361123848 : True := trivial
theorem tw16099650556276966952 : True := trivial
theorem tw5818570463109531304 : True := trivial
theorem tw4148766574576787240 : True := trivial
theorem tw1776920682010513256 : True := trivial
theorem tw10900501123140394920 : True := trivial
theorem tw7888413761020148648 : True := trivial
theorem tw5020121161084401576 : True := trivial
theorem tw16911446013814122440 : True := trivial
theorem tw6948975996060467176 : True := trivial
theorem tw4963947437424713769 : True := trivial
theorem tw417122059926819913 : True := trivial
theorem tw11026468976426705993 : True := trivial
theorem tw15283568987822240905 : True := trivial
theorem tw12468858059892209801 : True := trivial
theorem tw274365245334274217 : True := trivial
theorem tw14982378823234049225 : True := trivial
theorem tw7722210330708822249 : True := trivial
theorem tw17669903076936364329 : True := trivial
theorem tw4305415251632082249 : True := trivial
theorem tw18015292973948231049 : True := trivial
theorem tw14046038310702911977 : True := trivial
theorem tw16145152409942992361 : True := trivial
theorem tw14823026480294567561 : True := trivial
theorem tw5261208889874950793 : True := trivial
theorem tw9446551999467266761 : True := trivial
theorem tw2118348584349901577 : True := trivial
theorem tw18271984694441348873 : True := trivial
theorem tw3796864403494439753 : True := trivial
theorem tw10092560269758025545 : True := trivial
theorem tw11950856056077312841 : True := trivial
theorem tw5860750310761468777 : True := trivial
theorem tw3779892382342496105 : True := trivial
theorem tw8269491963561158537 : True := trivial
theorem tw1518935878961310665 : True := trivial
theorem tw15348222167597270026 : True := trivial
theorem tw4824830335908602922 : True := trivial
theorem tw11151833195895883850 : True := trivial
theorem tw676360518984877130 : True := trivial
theorem tw6866777412872671338 : True := trivial
theorem tw10850112264509583466 : True := trivial
theorem tw2810212873825482858 : True := trivial
theorem tw17064831299197083818 : True := trivial
theorem tw11613012295015846122 : True := trivial
theorem tw5778016323003973994 : True := trivial
theorem tw8529688907322671626 : True := trivial
theorem tw120163888635461130 : True := trivial
theorem tw10211245064139472522 : True := trivial
theorem tw9036036743805781674 : True := trivial
theorem tw10406390489780028106 : True := trivial
theorem tw5438631619408263914 : True := trivial
theorem tw11547217932496067370 : True := trivial
theorem tw13259759288797410090 : True := trivial
theorem tw12705865901934415690 : True := trivial
theorem tw3211793645745581994 : True := trivial
theorem tw9622742530129389482 : True := trivial
theorem tw3756908807977093066 : True := trivial
theorem tw14675214213327245355 : True := trivial
theorem tw6166582461657451595 : True := trivial
theorem tw9006529002539016267 : True := trivial
theorem tw12413125087716001963 : True := trivial
theorem tw13171469268770152619 : True := trivial
theorem tw14615993751393393867 : True := trivial
theorem tw16691056068883287275 : True := trivial
theorem tw12139840857002092779 : True := trivial
theorem tw952270407005191403 : True := trivial
theorem tw15209071940312657131 : True := trivial
theorem tw11056158907444055307 : True := trivial
theorem tw2431495651719676235 : True := trivial
theorem tw13921686144513281387 : True := trivial
theorem tw14339761424179982731 : True := trivial
theorem tw16152577939645791755 : True := trivial
theorem tw13912492356466438699 : True := trivial
theorem tw2596164750898825803 : True := trivial
theorem tw9834657955038305867 : True := trivial
theorem tw13491472056064846411 : True := trivial
theorem tw11335873027265926763 : True := trivial
theorem tw10624031316931886731 : True := trivial
theorem tw5290471142419356363 : True := trivial
theorem tw3465803077567016651 : True := trivial
theorem tw10012398270499177291 : True := trivial
theorem tw11687262217833630571 : True := trivial
theorem tw17635642938596554764 : True := trivial
theorem tw4247938811154358444 : True := trivial
theorem tw14267928573945653420 : True := trivial
theorem tw13085944129136673996 : True := trivial
theorem tw17363390005629135116 : True := trivial
theorem tw6592834564880063852 : True := trivial
theorem tw17735680197164474828 : True := trivial
theorem tw16779736361948078636 : True := trivial
theorem tw2834689085785353772 : True := trivial
theorem tw5670258701654118956 : True := trivial
theorem tw6787522061767422540 : True := trivial
theorem tw10994692086965207660 : True := trivial
theorem tw12666536225051771532 : True := trivial
theorem tw14168006261574522508 : True := trivial
theorem tw16586462906146445996 : True := trivial
theorem tw15290676668692623052 : True := trivial
theorem tw5617132396042047212 : True := trivial
theorem tw1381242627522199308 : True := trivial
theorem tw5687952930036095788 : True := trivial
theorem tw485169947537299469 : True := trivial
theorem tw17494411242942546029 : True := trivial
theorem tw12562305672301505741 : True := trivial
theorem tw8076433749882045677 : True := trivial
theorem tw3839443198155646253 : True := trivial
theorem tw4968753512749856077 : True := trivial
theorem tw8630592353458376045 : True := trivial
theorem tw16927161097402630541 : True := trivial
theorem tw13912095521232386445 : True := trivial
theorem tw9887994737711578509 : True := trivial
theorem tw16641043643805664717 : True := trivial
theorem tw12444460133101519309 : True := trivial
theorem tw7159896776539638253 : True := trivial
theorem tw584269533150102029 : True := trivial
theorem tw6251282971380106765 : True := trivial
theorem tw3030294685159617069 : True := trivial
theorem tw17826865904123623981 : True := trivial
theorem tw7918098371502566061 : True := trivial
theorem tw6322605276298630925 : True := trivial
theorem tw9902705100805251885 : True := trivial
theorem tw347377115540287309 : True := trivial
theorem tw13060689457221036941 : True := trivial
theorem tw17245015604723272621 : True := trivial
theorem tw14267774089689920526 : True := trivial
theorem tw7718868406836791406 : True := trivial
theorem tw1756277901297105134 : True := trivial
theorem tw17503603290498366702 : True := trivial
theorem tw18100256963165152526 : True := trivial
theorem tw13886407527037763854 : True := trivial
theorem tw1633512270934113582 : True := trivial
theorem tw7505672557994897710 : True := trivial
theorem tw9342054278849608110 : True := trivial
theorem tw7941419926314748366 : True := trivial
theorem tw14637902047698164174 : True := trivial
theorem tw6945846151959298606 : True := trivial
theorem tw5270749747619710574 : True := trivial
theorem tw4434789298244143822 : True := trivial
theorem tw4562647045038391022 : True := trivial
theorem tw9006815419676203822 : True := trivial
theorem tw18240029350947298158 : True := trivial
theorem tw6163300733605944206 : True := trivial
theorem tw7481486220595045262 : True := trivial
theorem tw7096574651751147438 : True := trivial
theorem tw7038525958633590734 : True := trivial
theorem tw17781122881369615375 : True := trivial
theorem tw5209182564248973359 : True := trivial
theorem tw17776338845341686927 : True := trivial
theorem tw3462660234436160687 : True := trivial
theorem tw2267346439727311 : True := trivial
theorem tw4103599551344085231 : True := trivial
theorem tw17546580623035259151 : True := trivial
theorem tw13394253715124221263 : True := trivial
theorem tw12062071809068520783 : True := trivial
theorem tw9230970293996887439 : True := trivial
theorem tw177961371102750127 : True := trivial
theorem tw14030480568880431599 : True := trivial
theorem tw2929111937664758255 : True := trivial
theorem tw12220724534695590383 : True := trivial
theorem tw4109304029239993871 : True := trivial
theorem tw20984559948409423 : True := trivial
theorem tw12586005677426760303 : True := trivial
theorem tw2045699610113303311 : True := trivial
theorem tw6024271572042845007 : True := trivial
theorem tw13707857057766270799 : True := trivial
theorem tw1446185603840644975 : True := trivial
theorem tw9761838705641516911 : True := trivial
theorem tw14343997910080914383 : True := trivial
theorem tw9552787289459353551 : True := trivial
theorem tw653897117492446256 : True := trivial
theorem tw6311522363001300048 : True := trivial
theorem tw3569963114749783312 : True := trivial
theorem tw13042112089722711312 : True := trivial
theorem tw140945674546440528 : True := trivial
theorem tw14576948595573431760 : True := trivial
theorem tw13308025557246325200 : True := trivial
theorem tw11808039592179259952 : True := trivial
theorem tw15349867943440148176 : True := trivial
theorem tw14068519468101324528 : True := trivial
theorem tw9875061396356802352 : True := trivial
theorem tw3593820077697295216 : True := trivial
theorem tw14105432509802698704 : True := trivial
theorem tw14261152384331925488 : True := trivial
theorem tw16092367530206549041 : True := trivial
theorem tw7209398370322093137 : True := trivial
theorem tw14648821838639396017 : True := trivial
theorem tw12856540888782254321 : True := trivial
theorem tw14249919107843875089 : True := trivial
theorem tw11383345787376721169 : True := trivial
theorem tw12168206358854570353 : True := trivial
theorem tw12015326732352200081 : True := trivial
theorem tw2506567738957079057 : True := trivial
theorem tw7300508278765237841 : True := trivial
theorem tw17201554654534036049 : True := trivial
theorem tw1382974003933756017 : True := trivial
theorem tw9008509482386475729 : True := trivial
theorem tw8100873770856641233 : True := trivial
theorem tw5323288854413344465 : True := trivial
theorem tw14256737712677258033 : True := trivial
theorem tw1274236666524576561 : True := trivial
theorem tw16695733825562404689 : True := trivial
theorem tw7647908228711625585 : True := trivial
theorem tw11702336660978712433 : True := trivial
theorem tw2714930601563677553 : True := trivial
theorem tw7785480967270081586 : True := trivial
theorem tw1841462981814555858 : True := trivial
theorem tw15062114817740640530 : True := trivial
theorem tw14034560453630850386 : True := trivial
theorem tw12548723919065076114 : True := trivial
theorem tw11727261136426580370 : True := trivial
theorem tw14659277498107601394 : True := trivial
theorem tw5782973710764656146 : True := trivial
theorem tw14853654837480616562 : True := trivial
theorem tw17972488991985618578 : True := trivial
theorem tw9753462191590432434 : True := trivial
theorem tw658395843091559186 : True := trivial
theorem tw3304994000030880562 : True := trivial
theorem tw14789437064248656786 : True := trivial
theorem tw12454365305826977682 : True := trivial
theorem tw8656619698684922834 : True := trivial
theorem tw654782597198801939 : True := trivial
theorem tw9876237589829557331 : True := trivial
theorem tw8062239653995099379 : True := trivial
theorem tw17518893334209329395 : True := trivial
theorem tw2191963858712679699 : True := trivial
theorem tw18163116784538852659 : True := trivial
theorem tw17345309850398290259 : True := trivial
theorem tw16509561957214275123 : True := trivial
theorem tw15626886082467115603 : True := trivial
theorem tw8718444907559420531 : True := trivial
theorem tw5014712812407116563 : True := trivial
theorem tw12422498134074701651 : True := trivial
theorem tw6107820656097858547 : True := trivial
theorem tw1849430420634716244 : True := trivial
theorem tw7537625334940400788 : True := trivial
theorem tw17547457527683353844 : True := trivial
theorem tw6248043415721174292 : True := trivial
theorem tw5110642881563331924 : True := trivial
theorem tw1489576244045195636 : True := trivial
theorem tw1681910993249895828 : True := trivial
theorem tw9277190944618558932 : True := trivial
theorem tw12259071075967714772 : True := trivial
theorem tw16018992341259640308 : True := trivial
theorem tw9710800349398390324 : True := trivial
theorem tw4763353987476817492 : True := trivial
theorem tw10732587576766879348 : True := trivial
theorem tw16232642138324334260 : True := trivial
theorem tw10143407332784924372 : True := trivial
theorem tw3714361641966003924 : True := trivial
theorem tw11804874719379505940 : True := trivial
theorem tw11865371958773761908 : True := trivial
theorem tw4773763890314736532 : True := trivial
theorem tw5749661603369326516 : True := trivial
theorem tw8854464529077979060 : True := trivial
theorem tw16085799692791402484 : True := trivial
theorem tw4340387723187469397 : True := trivial
theorem tw14738193716643338453 : True := trivial
theorem tw5990199574548737269 : True := trivial
theorem tw2975804346056542485 : True := trivial
theorem tw1108948542715631893 : True := trivial
theorem tw16620243598838161685 : True := trivial
theorem tw8262447109133102517 : True := trivial
theorem tw14249547055894183381 : True := trivial
theorem tw14636572018121879029 : True := trivial
theorem tw4127183534389574133 : True := trivial
theorem tw13742306486481782293 : True := trivial
theorem tw13708922557249040949 : True := trivial
theorem tw15069538712770126421 : True := trivial
theorem tw4143023704716711541 : True := trivial
theorem tw521013028062571189 : True := trivial
theorem tw352189842366064405 : True := trivial
theorem tw3795929919009884981 : True := trivial
theorem tw10900047253874851637 : True := trivial
theorem tw11293367593787200373 : True := trivial
theorem tw13355299513681707925 : True := trivial
theorem tw825765150171885525 : True := trivial
theorem tw18279273942539285493 : True := trivial
theorem tw11140556651082352694 : True := trivial
theorem tw7560506061300436022 : True := trivial
theorem tw13661648812207838262 : True := trivial
theorem tw4583727856079177846 : True := trivial
theorem tw17522122451346237558 : True := trivial
theorem tw13366088044124359798 : True := trivial
theorem tw10607134804105819254 : True := trivial
theorem tw2270379507003644054 : True := trivial
theorem tw4728565069171245238 : True := trivial
theorem tw12756926599875870902 : True := trivial
theorem tw17062780773860977878 : True := trivial
theorem tw13591724343958525142 : True := trivial
theorem tw8748913613937237238 : True := trivial
theorem tw1174876855254787382 : True := trivial
theorem tw12892873159342827830 : True := trivial
theorem tw7603861321071325494 : True := trivial
theorem tw9723662067618785622 : True := trivial
theorem tw15567313080667243926 : True := trivial
theorem tw12877312553990686134 : True := trivial
theorem tw16775887863644133814 : True := trivial
theorem tw15620350965517912598 : True := trivial
theorem tw14121152391200226870 : True := trivial
theorem tw10481143115541126806 : True := trivial
theorem tw10926015406390227606 : True := trivial
theorem tw13452479032337090198 : True := trivial
theorem tw9221262327153804950 : True := trivial
theorem tw7664509446371800982 : True := trivial
theorem tw3646358503660326838 : True := trivial
theorem tw9636590626624221142 : True := trivial
theorem tw6573948293742776278 : True := trivial
theorem tw18204093868194977782 : True := trivial
theorem tw1797731882000375863 : True := trivial
theorem tw8846758185638220919 : True := trivial
theorem tw11157712622802753655 : True := trivial
theorem tw2514012459796263063 : True := trivial
theorem tw17791046679323430135 : True := trivial
theorem tw14479350264645916919 : True := trivial
theorem tw14413117186129598807 : True := trivial
theorem tw10506111830609303895 : True := trivial
theorem tw2684828119003511127 : True := trivial
theorem tw2458386847417202007 : True := trivial
theorem tw11293141719254894999 : True := trivial
theorem tw4637979077663077847 : True := trivial
theorem tw12005182909254647383 : True := trivial
theorem tw5391875577869660791 : True := trivial
theorem tw17524769496074339991 : True := trivial
theorem tw16933365908618695319 : True := trivial
theorem tw13970537566399690423 : True := trivial
theorem tw1066545164971572951 : True := trivial
theorem tw10236522307067113207 : True := trivial
theorem tw12459707176087248663 : True := trivial
theorem tw9039771482812064759 : True := trivial
theorem tw8278284130453030903 : True := trivial
theorem tw14623412896175532088 : True := trivial
theorem tw17023378634959047736 : True := trivial
theorem tw6739353737682578712 : True := trivial
theorem tw6499224225972481400 : True := trivial
theorem tw10682785966646621624 : True := trivial
theorem tw12967653230672816664 : True := trivial
theorem tw5249044337372452408 : True := trivial
theorem tw4228621730381039288 : True := trivial
theorem tw11242607547507122968 : True := trivial
theorem tw16528573101447373624 : True := trivial
theorem tw11691166834521236280 : True := trivial
theorem tw10386506592716545880 : True := trivial
theorem tw7613415703388364664 : True := trivial
theorem tw1763564003501417464 : True := trivial
theorem tw15254346977831717913 : True := trivial
theorem tw15257653532173684825 : True := trivial
theorem tw8834240324669248697 : True := trivial
theorem tw16132981162626984121 : True := trivial
theorem tw12057496735819879609 : True := trivial
theorem tw1413238133237756121 : True := trivial
theorem tw14337635262904591577 : True := trivial
theorem tw6252595166768004313 : True := trivial
theorem tw4474603316608118009 : True := trivial
theorem tw2489626129120556281 : True := trivial
theorem tw4783207867393673497 : True := trivial
theorem tw5407737431694442937 : True := trivial
theorem tw14871984303031788089 : True := trivial
theorem tw1929122590192406105 : True := trivial
theorem tw17787900834843699801 : True := trivial
theorem tw16361759227494084185 : True := trivial
theorem tw6014553084129372761 : True := trivial
theorem tw15711734564755783321 : True := trivial
theorem tw6770980180319548089 : True := trivial
theorem tw9751826179459774137 : True := trivial
theorem tw9765144989145224921 : True := trivial
theorem tw9005364613797456665 : True := trivial
theorem tw7318179451349928793 : True := trivial
theorem tw11677524997021994841 : True := trivial
theorem tw6018492982889880409 : True := trivial
theorem tw12602858271066249177 : True := trivial
theorem tw4833309353940531290 : True := trivial
theorem tw4952379986293254298 : True := trivial
theorem tw4695365989220317402 : True := trivial
theorem tw2692282434960117050 : True := trivial
theorem tw10577409426095786426 : True := trivial
theorem tw7199473191366782394 : True := trivial
theorem tw9736577777138596346 : True := trivial
theorem tw469309100039244314 : True := trivial
theorem tw12363303160567923258 : True := trivial
theorem tw7820258152892940858 : True := trivial
theorem tw11104698204003565114 : True := trivial
theorem tw4952761964158440026 : True := trivial
theorem tw18420392074880149082 : True := trivial
theorem tw890094821975387834 : True := trivial
theorem tw16121134616785649338 : True := trivial
theorem tw511252485897051098 : True := trivial
theorem tw13465230185952639994 : True := trivial
theorem tw11948225405048199195 : True := trivial
theorem tw3800509874605136955 : True := trivial
theorem tw17716901839133065275 : True := trivial
theorem tw17141990377190295643 : True := trivial
theorem tw6823740223443223675 : True := trivial
theorem tw15152615962675764379 : True := trivial
theorem tw14356463268633733275 : True := trivial
theorem tw3663007477473668251 : True := trivial
theorem tw4207238481369783483 : True := trivial
theorem tw1687706051668550907 : True := trivial
theorem tw9667063322596098427 : True := trivial
theorem tw9854934341548010907 : True := trivial
theorem tw8878476775883152795 : True := trivial
theorem tw3904117882393103835 : True := trivial
theorem tw781687867416363483 : True := trivial
theorem tw9600803564878632443 : True := trivial
theorem tw15228126135178803707 : True := trivial
theorem tw10923239267449495035 : True := trivial
theorem tw5933875673303607803 : True := trivial
theorem tw4649861984304493083 : True := trivial
theorem tw11201152794809563771 : True := trivial
theorem tw493940048281886459 : True := trivial
theorem tw14726898349015513883 : True := trivial
theorem tw706275726044959515 : True := trivial
theorem tw14937839647135521595 : True := trivial
theorem tw2574773271243141947 : True := trivial
theorem tw2142778293266028379 : True := trivial
theorem tw12042499407527545755 : True := trivial
theorem tw15479660668220151707 : True := trivial
theorem tw1867820235595137947 : True := trivial
theorem tw7618054883673630748 : True := trivial
theorem tw1644927191458277500 : True := trivial
theorem tw10941570983893795964 : True := trivial
theorem tw2536974829641959580 : True := trivial
theorem tw11459831488667426076 : True := trivial
theorem tw17404390449513579868 : True := trivial
theorem tw11455893688578683292 : True := trivial
theorem tw3760079864847073724 : True := trivial
theorem tw2861930462319947260 : True := trivial
theorem tw9636634430058014428 : True := trivial
theorem tw16345804028673218268 : True := trivial
theorem tw17069015669785564988 : True := trivial
theorem tw5026848767585729372 : True := trivial
theorem tw10917976123010192316 : True := trivial
theorem tw13650857989497750492 : True := trivial
theorem tw10840159519971336188 : True := trivial
theorem tw6175610039173271548 : True := trivial
theorem tw6855658199376283677 : True := trivial
theorem tw13406647262613260349 : True := trivial
theorem tw13510972286932839485 : True := trivial
theorem tw2578420570311905405 : True := trivial
theorem tw9478124284226612413 : True := trivial
theorem tw13035049168233295037 : True := trivial
theorem tw3481246638644132029 : True := trivial
theorem tw6195955717719130333 : True := trivial
theorem tw3107267545609438493 : True := trivial
theorem tw354980374078358813 : True := trivial
theorem tw6345063974931112253 : True := trivial
theorem tw16249756598442979709 : True := trivial
theorem tw18093040429485375933 : True := trivial
theorem tw9373157306902891997 : True := trivial
theorem tw708192735743876733 : True := trivial
theorem tw5470470605732133533 : True := trivial
theorem tw847142885435617981 : True := trivial
theorem tw6313836886016678653 : True := trivial
theorem tw16422899435030198077 : True := trivial
theorem tw5302783164161595229 : True := trivial
theorem tw9297533343834401725 : True := trivial
theorem tw16634792974217305021 : True := trivial
theorem tw126691424831445981 : True := trivial
theorem tw3849451858495065053 : True := trivial
theorem tw3353528212910407645 : True := trivial
theorem tw15920976721140903998 : True := trivial
theorem tw6986557396361685054 : True := trivial
theorem tw13667970325802490974 : True := trivial
theorem tw18092560019240169662 : True := trivial
theorem tw12233276896716968190 : True := trivial
theorem tw3702089188413866270 : True := trivial
theorem tw8600433845755949374 : True := trivial
theorem tw12342598414100829566 : True := trivial
theorem tw17926847343153494430 : True := trivial
theorem tw7336747509242165694 : True := trivial
theorem tw10428260901447351742 : True := trivial
theorem tw7928028577914824158 : True := trivial
theorem tw4955697402295140862 : True := trivial
theorem tw14922112117912365566 : True := trivial
theorem tw14619170503872115390 : True := trivial
theorem tw15680785959988177694 : True := trivial
theorem tw13846023154666500894 : True := trivial
theorem tw5513430792485838654 : True := trivial
theorem tw2875119293505877886 : True := trivial
theorem tw18203257052083853214 : True := trivial
theorem tw5174929240037967774 : True := trivial
theorem tw30148969842157534 : True := trivial
theorem tw10298326959330917407 : True := trivial
theorem tw15415544404627949727 : True := trivial
theorem tw5488074191293471903 : True := trivial
theorem tw8183510005393547423 : True := trivial
theorem tw12906488497364669727 : True := trivial
theorem tw12973925008008304063 : True := trivial
theorem tw3722880691322605087 : True := trivial
theorem tw8154849973592495647 : True := trivial
theorem tw7096518738385651263 : True := trivial
theorem tw3665178536851399231 : True := trivial
theorem tw6778813976341949023 : True := trivial
theorem tw5981158898857097855 : True := trivial
theorem tw15308478553318945439 : True := trivial
theorem tw18360970546037701279 : True := trivial
theorem tw15347686771726096063 : True := trivial
theorem tw13792268935384165119 : True := trivial
theorem tw15392129349900295071 : True := trivial
theorem tw3563501662083225567 : True := trivial
theorem tw13721276175542205439 : True := trivial
theorem tw13539562635376362495 : True := trivial
theorem tw6079097681031516159 : True := trivial
end PySem.W.Fast
open PySem PySem.W PyProof.Rows
set_option maxRecDepth 100000 in
set_option maxHeartbeats 0 in
theorem PySem.Challenge.cw_surebounds_s01_answers_holds : PySem.Challenge.rw_surebounds_s01_answers.Holds := by
  w_on; k_headS; (case hw => exact ⟨[.list [.int 10]], by decide +kernel, by decide +kernel⟩)
  k_fillS
  refine SbW.walk_os (by decide +kernel) rfl (fun w h Y => PySem.W.kIn_of Y) ?F
  case F =>
    intro w mg fa h KX G hmg
    have T : SbW.Top (L2.KOf KX) mg ⟨94, 91, 114, 135, 240, 310, 401, 604⟩ := by
      dsimp only [L2.KOf]
      refine' SbW.Top.mk ?c_MOST_NOMINAL ?c_MOST_DEVIATION ?c_UNIT_FACTOR ?c_LETTER_H ?c_FIRST_SHAFT ?c_FIRST_HOLE ?c_NOTHING ?c_BLANK ?c_PLUS ?c_MINUS ?c_POINT ?c_DIGIT_0 ?c_DIGIT_9 ?c_MOST_WHOLE_DIGITS ?c_TICKS ?c_PLAIN ?c_EVEN ?c_UNEVEN ?c_CODED ?c_INSTRUMENT ?c_PLUG ?c_RING ?c_FARTHEST_LIMIT ?c_FARTHEST_READING ?c_MOST_ERROR ?c_LEAST_SIZE ?c_MOST_SIZE ?c_GROUND ?c_TOO_LONG ?c_FAULTY ?c_UNFIT ?c_NO_SUCH ?c_IMPOSSIBLE ?c_FULL ?c_MOST_BYTES ?c_MOST_ITEMS ?c_MOST_TOOLS ?c_MOST_USES ?c_UNTOLD ?c_ACCEPTED ?c_REFUSED ?c_ITEM ?c_TOOL ?c_READ ?c_CHECK ?c_KNOWN ?c_NEXT ?c_JUDGE ?c_APART ?c_BACK ?c_COUNTS ?n_len ?n_abs ?n_list ?n_range ?n_enumerate ?n_ValueError ?g_SizeFault ?g_Size ?g_Shape ?g_Reader ?g_Tool ?g_Use ?g_Book ?k_Size ?a_Size_nominal ?a_Size_lo ?a_Size_hi ?a_Size_form ?a_Size_letter ?a_Size_grade ?k_Shape ?a_Shape_nominal ?a_Shape_form ?a_Shape_behind ?a_Shape_deviations ?a_Shape_letter ?a_Shape_grade ?k_Reader ?a_Reader_text ?a_Reader_at ?k_Tool ?a_Tool_kind ?a_Tool_lo ?a_Tool_hi ?a_Tool_e ?a_Tool_d ?k_Use ?a_Use_tool ?a_Use_item ?a_Use_span ?k_Book ?a_Book_sizes ?a_Book_tools ?a_Book_uses ?flt ?i_SizeFault ?find_ve ?num ?f_is_nominal ?f_are_fit ?f_unit ?f_root_upwards ?f_width ?f_step ?f_is_shaft ?f_letter_number ?f_code_limits ?i_Size ?i_Shape ?f_is_digit ?f_is_letter ?i_Reader ?m_Reader_ahead ?m_Reader_demand ?m_Reader_take ?m_Reader_take_digit ?m_Reader_take_whole ?m_Reader_take_fraction ?m_Reader_take_number ?m_Reader_take_deviation ?m_Reader_take_grade ?m_Reader_is_even ?f_take_even ?f_take_code ?f_take_uneven ?f_shape_of ?f_check_deviations ?f_limits_of ?f_said ?i_Tool ?f_are_limits ?f_is_tool ?f_can_show ?f_can_read ?f_can_be_checked ?f_turned ?f_first_span ?f_later_span ?f_read_span ?f_check_span ?i_Use ?f_item_value ?f_mark_value ?f_span_rows ?f_use_rows ?f_count_values ?f_rows_of ?f_lower_once ?f_most_above ?f_is_possible ?f_bounds_between ?f_item_bounds ?f_apart_bounds ?f_next_mark_bounds ?f_judged ?i_Book ?m_Book_add_item ?m_Book_add_tool ?m_Book_add_use ?m_Book_read ?m_Book_check ?m_Book_bounds_of ?m_Book_known ?m_Book_upcoming ?m_Book_judge ?m_Book_apart ?m_Book_back ?m_Book_counts ?f_call_end ?f_told ?f_answer_of ?f_answers
      (case c_MOST_NOMINAL => refine' SbW.cst_mk KX G ?u1; (case u1 => k_is))
      (case c_MOST_DEVIATION => refine' SbW.cst_mk KX G ?u1; (case u1 => k_is))
      (case c_UNIT_FACTOR => refine' SbW.cst_mk KX G ?u1; (case u1 => k_is))
      (case c_LETTER_H => refine' SbW.cst_mk KX G ?u1; (case u1 => k_is))
      (case c_FIRST_SHAFT => refine' SbW.cst_mk KX G ?u1; (case u1 => k_is))
      (case c_FIRST_HOLE => refine' SbW.cst_mk KX G ?u1; (case u1 => k_is))
      (case c_NOTHING => refine' SbW.cst_mk KX G ?u1; (case u1 => k_is))
      (case c_BLANK => refine' SbW.cst_mk KX G ?u1; (case u1 => k_is))
      (case c_PLUS => refine' SbW.cst_mk KX G ?u1; (case u1 => k_is))
      (case c_MINUS => refine' SbW.cst_mk KX G ?u1; (case u1 => k_is))
      (case c_POINT => refine' SbW.cst_mk KX G ?u1; (case u1 => k_is))
      (case c_DIGIT_0 => refine' SbW.cst_mk KX G ?u1; (case u1 => k_is))
      (case c_DIGIT_9 => refine' SbW.cst_mk KX G ?u1; (case u1 => k_is))
      (case c_MOST_WHOLE_DIGITS => refine' SbW.cst_mk KX G ?u1; (case u1 => k_is))
      (case c_TICKS => refine' SbW.cst_mk KX G ?u1; (case u1 => k_is))
      (case c_PLAIN => refine' SbW.cst_mk KX G ?u1; (case u1 => k_is))
      (case c_EVEN => refine' SbW.cst_mk KX G ?u1; (case u1 => k_is))
      (case c_UNEVEN => refine' SbW.cst_mk KX G ?u1; (case u1 => k_is))
      (case c_CODED => refine' SbW.cst_mk KX G ?u1; (case u1 => k_is))
      (case c_INSTRUMENT => refine' SbW.cst_mk KX G ?u1; (case u1 => k_is))
      (case c_PLUG => refine' SbW.cst_mk KX G ?u1; (case u1 => k_is))
      (case c_RING => refine' SbW.cst_mk KX G ?u1; (case u1 => k_is))
      (case c_FARTHEST_LIMIT => refine' SbW.cst_mk KX G ?u1; (case u1 => k_is))
      (case c_FARTHEST_READING => refine' SbW.cst_mk KX G ?u1; (case u1 => k_is))
      (case c_MOST_ERROR => refine' SbW.cst_mk KX G ?u1; (case u1 => k_is))
      (case c_LEAST_SIZE => refine' SbW.cst_mk KX G ?u1; (case u1 => k_is))
      (case c_MOST_SIZE => refine' SbW.cst_mk KX G ?u1; (case u1 => k_is))
      (case c_GROUND => refine' SbW.cst_mk KX G ?u1; (case u1 => k_is))
      (case c_TOO_LONG => refine' SbW.cst_mk KX G ?u1; (case u1 => k_is))
      (case c_FAULTY => refine' SbW.cst_mk KX G ?u1; (case u1 => k_is))
      (case c_UNFIT => refine' SbW.cst_mk KX G ?u1; (case u1 => k_is))
      (case c_NO_SUCH => refine' SbW.cst_mk KX G ?u1; (case u1 => k_is))
      (case c_IMPOSSIBLE => refine' SbW.cst_mk KX G ?u1; (case u1 => k_is))
      (case c_FULL => refine' SbW.cst_mk KX G ?u1; (case u1 => k_is))
      (case c_MOST_BYTES => refine' SbW.cst_mk KX G ?u1; (case u1 => k_is))
      (case c_MOST_ITEMS => refine' SbW.cst_mk KX G ?u1; (case u1 => k_is))
      (case c_MOST_TOOLS => refine' SbW.cst_mk KX G ?u1; (case u1 => k_is))
      (case c_MOST_USES => refine' SbW.cst_mk KX G ?u1; (case u1 => k_is))
      (case c_UNTOLD => refine' SbW.cst_mk KX G ?u1; (case u1 => k_is))
      (case c_ACCEPTED => refine' SbW.cst_mk KX G ?u1; (case u1 => k_is))
      (case c_REFUSED => refine' SbW.cst_mk KX G ?u1; (case u1 => k_is))
      (case c_ITEM => refine' SbW.cst_mk KX G ?u1; (case u1 => k_is))
      (case c_TOOL => refine' SbW.cst_mk KX G ?u1; (case u1 => k_is))
      (case c_READ => refine' SbW.cst_mk KX G ?u1; (case u1 => k_is))
      (case c_CHECK => refine' SbW.cst_mk KX G ?u1; (case u1 => k_is))
      (case c_KNOWN => refine' SbW.cst_mk KX G ?u1; (case u1 => k_is))
      (case c_NEXT => refine' SbW.cst_mk KX G ?u1; (case u1 => k_is))
      (case c_JUDGE => refine' SbW.cst_mk KX G ?u1; (case u1 => k_is))
      (case c_APART => refine' SbW.cst_mk KX G ?u1; (case u1 => k_is))
      (case c_BACK => refine' SbW.cst_mk KX G ?u1; (case u1 => k_is))
      (case c_COUNTS => refine' SbW.cst_mk KX G ?u1; (case u1 => k_is))
      (case n_len => refine' PySem.W.mg_none_of KX G ?u1; (case u1 => k_is))
      (case n_abs => refine' PySem.W.mg_none_of KX G ?u1; (case u1 => k_is))
      (case n_list => refine' PySem.W.mg_none_of KX G ?u1; (case u1 => k_is))
      (case n_range => refine' PySem.W.mg_none_of KX G ?u1; (case u1 => k_is))
      (case n_enumerate => refine' PySem.W.mg_none_of KX G ?u1; (case u1 => k_is))
      (case n_ValueError => refine' PySem.W.mg_none_of KX G ?u1; (case u1 => k_is))
      (case g_SizeFault => refine' PySem.W.mg_of KX G ?u1; (case u1 => k_is))
      (case g_Size => refine' PySem.W.mg_of KX G ?u1; (case u1 => k_is))
      (case g_Shape => refine' PySem.W.mg_of KX G ?u1; (case u1 => k_is))
      (case g_Reader => refine' PySem.W.mg_of KX G ?u1; (case u1 => k_is))
      (case g_Tool => refine' PySem.W.mg_of KX G ?u1; (case u1 => k_is))
      (case g_Use => refine' PySem.W.mg_of KX G ?u1; (case u1 => k_is))
      (case g_Book => refine' PySem.W.mg_of KX G ?u1; (case u1 => k_is))
      (case k_Size => refine' L2.Cls.mk ?u1 ?u2 ?u3 ?u4; (case u1 => k_is); (case u2 => k_is); (case u3 => k_is); (case u4 => k_is))
      (case a_Size_nominal => (show PySem.W.findIn _ _ _ = some none); k_is)
      (case a_Size_lo => (show PySem.W.findIn _ _ _ = some none); k_is)
      (case a_Size_hi => (show PySem.W.findIn _ _ _ = some none); k_is)
      (case a_Size_form => (show PySem.W.findIn _ _ _ = some none); k_is)
      (case a_Size_letter => (show PySem.W.findIn _ _ _ = some none); k_is)
      (case a_Size_grade => (show PySem.W.findIn _ _ _ = some none); k_is)
      (case k_Shape => refine' L2.Cls.mk ?u1 ?u2 ?u3 ?u4; (case u1 => k_is); (case u2 => k_is); (case u3 => k_is); (case u4 => k_is))
      (case a_Shape_nominal => (show PySem.W.findIn _ _ _ = some none); k_is)
      (case a_Shape_form => (show PySem.W.findIn _ _ _ = some none); k_is)
      (case a_Shape_behind => (show PySem.W.findIn _ _ _ = some none); k_is)
      (case a_Shape_deviations => (show PySem.W.findIn _ _ _ = some none); k_is)
      (case a_Shape_letter => (show PySem.W.findIn _ _ _ = some none); k_is)
      (case a_Shape_grade => (show PySem.W.findIn _ _ _ = some none); k_is)
      (case k_Reader => refine' L2.Cls.mk ?u1 ?u2 ?u3 ?u4; (case u1 => k_is); (case u2 => k_is); (case u3 => k_is); (case u4 => k_is))
      (case a_Reader_text => (show PySem.W.findIn _ _ _ = some none); k_is)
      (case a_Reader_at => (show PySem.W.findIn _ _ _ = some none); k_is)
      (case k_Tool => refine' L2.Cls.mk ?u1 ?u2 ?u3 ?u4; (case u1 => k_is); (case u2 => k_is); (case u3 => k_is); (case u4 => k_is))
      (case a_Tool_kind => (show PySem.W.findIn _ _ _ = some none); k_is)
      (case a_Tool_lo => (show PySem.W.findIn _ _ _ = some none); k_is)
      (case a_Tool_hi => (show PySem.W.findIn _ _ _ = some none); k_is)
      (case a_Tool_e => (show PySem.W.findIn _ _ _ = some none); k_is)
      (case a_Tool_d => (show PySem.W.findIn _ _ _ = some none); k_is)
      (case k_Use => refine' L2.Cls.mk ?u1 ?u2 ?u3 ?u4; (case u1 => k_is); (case u2 => k_is); (case u3 => k_is); (case u4 => k_is))
      (case a_Use_tool => (show PySem.W.findIn _ _ _ = some none); k_is)
      (case a_Use_item => (show PySem.W.findIn _ _ _ = some none); k_is)
      (case a_Use_span => (show PySem.W.findIn _ _ _ = some none); k_is)
      (case k_Book => refine' L2.Cls.mk ?u1 ?u2 ?u3 ?u4; (case u1 => k_is); (case u2 => k_is); (case u3 => k_is); (case u4 => k_is))
      (case a_Book_sizes => (show PySem.W.findIn _ _ _ = some none); k_is)
      (case a_Book_tools => (show PySem.W.findIn _ _ _ = some none); k_is)
      (case a_Book_uses => (show PySem.W.findIn _ _ _ = some none); k_is)
      (case flt => refine' SbW.flt_mk (st := SbW.st_SizeFault_init) ?u1 ?u2 ?u3 ?u4 ?v0 ?v1 ?v2 ?v3 ?v4 ?v5 ?u5; (case u1 => k_is); (case u2 => k_is); (case u3 => kernel_rfl); (case u4 => k_is); (case v0 => kernel_rfl); (case v1 => kernel_rfl); (case v2 => kernel_rfl); (case v3 => kernel_rfl); (case v4 => kernel_rfl); (case v5 => kernel_rfl); (case u5 => k_is))
      (case i_SizeFault => refine' ⟨_, L2.fun_mk ?u1 ?u2 ?u3⟩; (case u1 => k_is); (case u2 => k_is); (case u3 => k_is))
      (case find_ve => k_is)
      (case num => refine' SbW.num_mk KX G ?u1 ?u2 ?u3; (case u1 => k_is); (case u2 => k_is); (case u3 => decide))
      (case f_is_nominal => refine' SbW.fnT_mk KX G ?u1 ?u2 ?u3 ?u4; (case u1 => k_is); (case u2 => k_is); (case u3 => k_is); (case u4 => k_is))
      (case f_are_fit => refine' SbW.fnT_mk KX G ?u1 ?u2 ?u3 ?u4; (case u1 => k_is); (case u2 => k_is); (case u3 => k_is); (case u4 => k_is))
      (case f_unit => refine' SbW.fnT_mk KX G ?u1 ?u2 ?u3 ?u4; (case u1 => k_is); (case u2 => k_is); (case u3 => k_is); (case u4 => k_is))
      (case f_root_upwards => refine' SbW.fnT_mk KX G ?u1 ?u2 ?u3 ?u4; (case u1 => k_is); (case u2 => k_is); (case u3 => k_is); (case u4 => k_is))
      (case f_width => refine' SbW.fnT_mk KX G ?u1 ?u2 ?u3 ?u4; (case u1 => k_is); (case u2 => k_is); (case u3 => k_is); (case u4 => k_is))
      (case f_step => refine' SbW.fnT_mk KX G ?u1 ?u2 ?u3 ?u4; (case u1 => k_is); (case u2 => k_is); (case u3 => k_is); (case u4 => k_is))
      (case f_is_shaft => refine' SbW.fnT_mk KX G ?u1 ?u2 ?u3 ?u4; (case u1 => k_is); (case u2 => k_is); (case u3 => k_is); (case u4 => k_is))
      (case f_letter_number => refine' SbW.fnT_mk KX G ?u1 ?u2 ?u3 ?u4; (case u1 => k_is); (case u2 => k_is); (case u3 => k_is); (case u4 => k_is))
      (case f_code_limits => refine' SbW.fnT_mk KX G ?u1 ?u2 ?u3 ?u4; (case u1 => k_is); (case u2 => k_is); (case u3 => k_is); (case u4 => k_is))
      (case i_Size => refine' SbW.inT_mk ?u1 ?u2 ?u3 ?u4 ?u5 ?u6 ?u7; (case u1 => k_is); (case u2 => k_is); (case u3 => k_is); (case u4 => k_is); (case u5 => k_is); (case u6 => k_is); (case u7 => k_is))
      (case i_Shape => refine' SbW.inT_mk ?u1 ?u2 ?u3 ?u4 ?u5 ?u6 ?u7; (case u1 => k_is); (case u2 => k_is); (case u3 => k_is); (case u4 => k_is); (case u5 => k_is); (case u6 => k_is); (case u7 => k_is))
      (case f_is_digit => refine' SbW.fnT_mk KX G ?u1 ?u2 ?u3 ?u4; (case u1 => k_is); (case u2 => k_is); (case u3 => k_is); (case u4 => k_is))
      (case f_is_letter => refine' SbW.fnT_mk KX G ?u1 ?u2 ?u3 ?u4; (case u1 => k_is); (case u2 => k_is); (case u3 => k_is); (case u4 => k_is))
      (case i_Reader => refine' SbW.inT_mk ?u1 ?u2 ?u3 ?u4 ?u5 ?u6 ?u7; (case u1 => k_is); (case u2 => k_is); (case u3 => k_is); (case u4 => k_is); (case u5 => k_is); (case u6 => k_is); (case u7 => k_is))
      (case m_Reader_ahead => refine' SbW.mtT_mk ?u1 ?u2 ?u3 ?u4 ?u5; (case u1 => k_is); (case u2 => k_is); (case u3 => k_is); (case u4 => k_is); (case u5 => k_is))
      (case m_Reader_demand => refine' SbW.mtT_mk ?u1 ?u2 ?u3 ?u4 ?u5; (case u1 => k_is); (case u2 => k_is); (case u3 => k_is); (case u4 => k_is); (case u5 => k_is))
      (case m_Reader_take => refine' SbW.mtT_mk ?u1 ?u2 ?u3 ?u4 ?u5; (case u1 => k_is); (case u2 => k_is); (case u3 => k_is); (case u4 => k_is); (case u5 => k_is))
      (case m_Reader_take_digit => refine' SbW.mtT_mk ?u1 ?u2 ?u3 ?u4 ?u5; (case u1 => k_is); (case u2 => k_is); (case u3 => k_is); (case u4 => k_is); (case u5 => k_is))
      (case m_Reader_take_whole => refine' SbW.mtT_mk ?u1 ?u2 ?u3 ?u4 ?u5; (case u1 => k_is); (case u2 => k_is); (case u3 => k_is); (case u4 => k_is); (case u5 => k_is))
      (case m_Reader_take_fraction => refine' SbW.mtT_mk ?u1 ?u2 ?u3 ?u4 ?u5; (case u1 => k_is); (case u2 => k_is); (case u3 => k_is); (case u4 => k_is); (case u5 => k_is))
      (case m_Reader_take_number => refine' SbW.mtT_mk ?u1 ?u2 ?u3 ?u4 ?u5; (case u1 => k_is); (case u2 => k_is); (case u3 => k_is); (case u4 => k_is); (case u5 => k_is))
      (case m_Reader_take_deviation => refine' SbW.mtT_mk ?u1 ?u2 ?u3 ?u4 ?u5; (case u1 => k_is); (case u2 => k_is); (case u3 => k_is); (case u4 => k_is); (case u5 => k_is))
      (case m_Reader_take_grade => refine' SbW.mtT_mk ?u1 ?u2 ?u3 ?u4 ?u5; (case u1 => k_is); (case u2 => k_is); (case u3 => k_is); (case u4 => k_is); (case u5 => k_is))
      (case m_Reader_is_even => refine' SbW.mtT_mk ?u1 ?u2 ?u3 ?u4 ?u5; (case u1 => k_is); (case u2 => k_is); (case u3 => k_is); (case u4 => k_is); (case u5 => k_is))
      (case f_take_even => refine' SbW.fnT_mk KX G ?u1 ?u2 ?u3 ?u4; (case u1 => k_is); (case u2 => k_is); (case u3 => k_is); (case u4 => k_is))
      (case f_take_code => refine' SbW.fnT_mk KX G ?u1 ?u2 ?u3 ?u4; (case u1 => k_is); (case u2 => k_is); (case u3 => k_is); (case u4 => k_is))
      (case f_take_uneven => refine' SbW.fnT_mk KX G ?u1 ?u2 ?u3 ?u4; (case u1 => k_is); (case u2 => k_is); (case u3 => k_is); (case u4 => k_is))
      (case f_shape_of => refine' SbW.fnT_mk KX G ?u1 ?u2 ?u3 ?u4; (case u1 => k_is); (case u2 => k_is); (case u3 => k_is); (case u4 => k_is))
      (case f_check_deviations => refine' SbW.fnT_mk KX G ?u1 ?u2 ?u3 ?u4; (case u1 => k_is); (case u2 => k_is); (case u3 => k_is); (case u4 => k_is))
      (case f_limits_of => refine' SbW.fnT_mk KX G ?u1 ?u2 ?u3 ?u4; (case u1 => k_is); (case u2 => k_is); (case u3 => k_is); (case u4 => k_is))
      (case f_said => refine' SbW.fnT_mk KX G ?u1 ?u2 ?u3 ?u4; (case u1 => k_is); (case u2 => k_is); (case u3 => k_is); (case u4 => k_is))
      (case i_Tool => refine' SbW.inT_mk ?u1 ?u2 ?u3 ?u4 ?u5 ?u6 ?u7; (case u1 => k_is); (case u2 => k_is); (case u3 => k_is); (case u4 => k_is); (case u5 => k_is); (case u6 => k_is); (case u7 => k_is))
      (case f_are_limits => refine' SbW.fnT_mk KX G ?u1 ?u2 ?u3 ?u4; (case u1 => k_is); (case u2 => k_is); (case u3 => k_is); (case u4 => k_is))
      (case f_is_tool => refine' SbW.fnT_mk KX G ?u1 ?u2 ?u3 ?u4; (case u1 => k_is); (case u2 => k_is); (case u3 => k_is); (case u4 => k_is))
      (case f_can_show => refine' SbW.fnT_mk KX G ?u1 ?u2 ?u3 ?u4; (case u1 => k_is); (case u2 => k_is); (case u3 => k_is); (case u4 => k_is))
      (case f_can_read => refine' SbW.fnT_mk KX G ?u1 ?u2 ?u3 ?u4; (case u1 => k_is); (case u2 => k_is); (case u3 => k_is); (case u4 => k_is))
      (case f_can_be_checked => refine' SbW.fnT_mk KX G ?u1 ?u2 ?u3 ?u4; (case u1 => k_is); (case u2 => k_is); (case u3 => k_is); (case u4 => k_is))
      (case f_turned => refine' SbW.fnT_mk KX G ?u1 ?u2 ?u3 ?u4; (case u1 => k_is); (case u2 => k_is); (case u3 => k_is); (case u4 => k_is))
      (case f_first_span => refine' SbW.fnT_mk KX G ?u1 ?u2 ?u3 ?u4; (case u1 => k_is); (case u2 => k_is); (case u3 => k_is); (case u4 => k_is))
      (case f_later_span => refine' SbW.fnT_mk KX G ?u1 ?u2 ?u3 ?u4; (case u1 => k_is); (case u2 => k_is); (case u3 => k_is); (case u4 => k_is))
      (case f_read_span => refine' SbW.fnT_mk KX G ?u1 ?u2 ?u3 ?u4; (case u1 => k_is); (case u2 => k_is); (case u3 => k_is); (case u4 => k_is))
      (case f_check_span => refine' SbW.fnT_mk KX G ?u1 ?u2 ?u3 ?u4; (case u1 => k_is); (case u2 => k_is); (case u3 => k_is); (case u4 => k_is))
      (case i_Use => refine' SbW.inT_mk ?u1 ?u2 ?u3 ?u4 ?u5 ?u6 ?u7; (case u1 => k_is); (case u2 => k_is); (case u3 => k_is); (case u4 => k_is); (case u5 => k_is); (case u6 => k_is); (case u7 => k_is))
      (case f_item_value => refine' SbW.fnT_mk KX G ?u1 ?u2 ?u3 ?u4; (case u1 => k_is); (case u2 => k_is); (case u3 => k_is); (case u4 => k_is))
      (case f_mark_value => refine' SbW.fnT_mk KX G ?u1 ?u2 ?u3 ?u4; (case u1 => k_is); (case u2 => k_is); (case u3 => k_is); (case u4 => k_is))
      (case f_span_rows => refine' SbW.fnT_mk KX G ?u1 ?u2 ?u3 ?u4; (case u1 => k_is); (case u2 => k_is); (case u3 => k_is); (case u4 => k_is))
      (case f_use_rows => refine' SbW.fnT_mk KX G ?u1 ?u2 ?u3 ?u4; (case u1 => k_is); (case u2 => k_is); (case u3 => k_is); (case u4 => k_is))
      (case f_count_values => refine' SbW.fnT_mk KX G ?u1 ?u2 ?u3 ?u4; (case u1 => k_is); (case u2 => k_is); (case u3 => k_is); (case u4 => k_is))
      (case f_rows_of => refine' SbW.fnT_mk KX G ?u1 ?u2 ?u3 ?u4; (case u1 => k_is); (case u2 => k_is); (case u3 => k_is); (case u4 => k_is))
      (case f_lower_once => refine' SbW.fnT_mk KX G ?u1 ?u2 ?u3 ?u4; (case u1 => k_is); (case u2 => k_is); (case u3 => k_is); (case u4 => k_is))
      (case f_most_above => refine' SbW.fnT_mk KX G ?u1 ?u2 ?u3 ?u4; (case u1 => k_is); (case u2 => k_is); (case u3 => k_is); (case u4 => k_is))
      (case f_is_possible => refine' SbW.fnT_mk KX G ?u1 ?u2 ?u3 ?u4; (case u1 => k_is); (case u2 => k_is); (case u3 => k_is); (case u4 => k_is))
      (case f_bounds_between => refine' SbW.fnT_mk KX G ?u1 ?u2 ?u3 ?u4; (case u1 => k_is); (case u2 => k_is); (case u3 => k_is); (case u4 => k_is))
      (case f_item_bounds => refine' SbW.fnT_mk KX G ?u1 ?u2 ?u3 ?u4; (case u1 => k_is); (case u2 => k_is); (case u3 => k_is); (case u4 => k_is))
      (case f_apart_bounds => refine' SbW.fnT_mk KX G ?u1 ?u2 ?u3 ?u4; (case u1 => k_is); (case u2 => k_is); (case u3 => k_is); (case u4 => k_is))
      (case f_next_mark_bounds => refine' SbW.fnT_mk KX G ?u1 ?u2 ?u3 ?u4; (case u1 => k_is); (case u2 => k_is); (case u3 => k_is); (case u4 => k_is))
      (case f_judged => refine' SbW.fnT_mk KX G ?u1 ?u2 ?u3 ?u4; (case u1 => k_is); (case u2 => k_is); (case u3 => k_is); (case u4 => k_is))
      (case i_Book => refine' SbW.inT_mk ?u1 ?u2 ?u3 ?u4 ?u5 ?u6 ?u7; (case u1 => k_is); (case u2 => k_is); (case u3 => k_is); (case u4 => k_is); (case u5 => k_is); (case u6 => k_is); (case u7 => k_is))
      (case m_Book_add_item => refine' SbW.mtT_mk ?u1 ?u2 ?u3 ?u4 ?u5; (case u1 => k_is); (case u2 => k_is); (case u3 => k_is); (case u4 => k_is); (case u5 => k_is))
      (case m_Book_add_tool => refine' SbW.mtT_mk ?u1 ?u2 ?u3 ?u4 ?u5; (case u1 => k_is); (case u2 => k_is); (case u3 => k_is); (case u4 => k_is); (case u5 => k_is))
      (case m_Book_add_use => refine' SbW.mtT_mk ?u1 ?u2 ?u3 ?u4 ?u5; (case u1 => k_is); (case u2 => k_is); (case u3 => k_is); (case u4 => k_is); (case u5 => k_is))
      (case m_Book_read => refine' SbW.mtT_mk ?u1 ?u2 ?u3 ?u4 ?u5; (case u1 => k_is); (case u2 => k_is); (case u3 => k_is); (case u4 => k_is); (case u5 => k_is))
      (case m_Book_check => refine' SbW.mtT_mk ?u1 ?u2 ?u3 ?u4 ?u5; (case u1 => k_is); (case u2 => k_is); (case u3 => k_is); (case u4 => k_is); (case u5 => k_is))
      (case m_Book_bounds_of => refine' SbW.mtT_mk ?u1 ?u2 ?u3 ?u4 ?u5; (case u1 => k_is); (case u2 => k_is); (case u3 => k_is); (case u4 => k_is); (case u5 => k_is))
      (case m_Book_known => refine' SbW.mtT_mk ?u1 ?u2 ?u3 ?u4 ?u5; (case u1 => k_is); (case u2 => k_is); (case u3 => k_is); (case u4 => k_is); (case u5 => k_is))
      (case m_Book_upcoming => refine' SbW.mtT_mk ?u1 ?u2 ?u3 ?u4 ?u5; (case u1 => k_is); (case u2 => k_is); (case u3 => k_is); (case u4 => k_is); (case u5 => k_is))
      (case m_Book_judge => refine' SbW.mtT_mk ?u1 ?u2 ?u3 ?u4 ?u5; (case u1 => k_is); (case u2 => k_is); (case u3 => k_is); (case u4 => k_is); (case u5 => k_is))
      (case m_Book_apart => refine' SbW.mtT_mk ?u1 ?u2 ?u3 ?u4 ?u5; (case u1 => k_is); (case u2 => k_is); (case u3 => k_is); (case u4 => k_is); (case u5 => k_is))
      (case m_Book_back => refine' SbW.mtT_mk ?u1 ?u2 ?u3 ?u4 ?u5; (case u1 => k_is); (case u2 => k_is); (case u3 => k_is); (case u4 => k_is); (case u5 => k_is))
      (case m_Book_counts => refine' SbW.mtT_mk ?u1 ?u2 ?u3 ?u4 ?u5; (case u1 => k_is); (case u2 => k_is); (case u3 => k_is); (case u4 => k_is); (case u5 => k_is))
      (case f_call_end => refine' SbW.fnT_mk KX G ?u1 ?u2 ?u3 ?u4; (case u1 => k_is); (case u2 => k_is); (case u3 => k_is); (case u4 => k_is))
      (case f_told => refine' SbW.fnT_mk KX G ?u1 ?u2 ?u3 ?u4; (case u1 => k_is); (case u2 => k_is); (case u3 => k_is); (case u4 => k_is))
      (case f_answer_of => refine' SbW.fnT_mk KX G ?u1 ?u2 ?u3 ?u4; (case u1 => k_is); (case u2 => k_is); (case u3 => k_is); (case u4 => k_is))
      (case f_answers => refine' SbW.fnT_mk KX G ?u1 ?u2 ?u3 ?u4; (case u1 => k_is); (case u2 => k_is); (case u3 => k_is); (case u4 => k_is))
    obtain ⟨f, fd, h1, h2, h3⟩ := SbW.answers_ok (P := SbW.rw01.prog) (w := w) T
    have e := hmg.symm.trans h1
    cases e
    exact ⟨fd, h2, h3⟩
