import PyProof.Rows.All
import Wide.All
import OpenK.AllK
import Wide.FinOn
import Open.SpecLaws
import KE.OsHead
import KE.OsGo
import HandS.ForSpec
import HandS.Iter
import HandS.Zip
import KE.GoesZip
import KE.GoesMore
import KE.GoesEnum
import KE.KDictDisplayH
import HandS.Dict
import HandS.DictTup
import HandS.Comp
import KE.DataMinKey
import KE.KLam
import HandS.Lambda
import HandS.Nested
import KE.DataMinMax
import HandS.TupLe
import HandS.FltList
import HandS.SortKw
import HandS.Codes
import PyWideLaws
import HandS.Text
import HandS.TupAny
import HandS.TupLen
import HandS.Walk
import PySem.Challenge.RW_tankplans_s01_answers
set_option Elab.async false
set_option linter.all false
set_option maxRecDepth 100000
set_option maxHeartbeats 2000000
namespace Tk
theorem all_false_at {α : Type} {p : α → Bool} : ∀ {l : List α} {i : Nat} {x : α}, l[i]? = some x → p x = false → l.all p = false
  | [], i, x, h, _ => by simp at h
  | a :: l, 0, x, h, g => by
    have e : a = x := by simpa using h
    subst e
    simp [g]
  | a :: l, i + 1, x, h, g => by
    have q := all_false_at (l := l) (i := i) (by simpa using h) g
    simp only [List.all_cons, q, Bool.and_false]
theorem take_more {α : Type} {l : List α} {i : Nat} {x : α} (h : l[i]? = some x) : l.take (i + 1) = l.take i ++ [x] := by
  rw [List.take_add_one, h, Option.toList_some]
theorem all_take_more {α : Type} {p : α → Bool} {l : List α} {i : Nat} {x : α} (h : l[i]? = some x) (g : (l.take i).all p = true) (k : p x = true) : (l.take (i + 1)).all p = true := by
  rw [take_more h, List.all_append, g]
  simp [k]
theorem ifd {c : Prop} [Decidable c] {A B : Prop} (h1 : c → A) (h2 : ¬ c → B) : if decide c = true then A else B := by
  by_cases h : c
  · rw [if_pos (decide_eq_true h)]; exact h1 h
  · rw [if_neg (by simp [h])]; exact h2 h
theorem ifnd {c : Prop} [Decidable c] {A B : Prop} (h1 : ¬ c → A) (h2 : c → B) : if (!decide c) = true then A else B := by
  by_cases h : c
  · rw [if_neg (by simp [h])]; exact h2 h
  · rw [if_pos (by simp [h])]; exact h1 h
theorem ifb {c : Bool} {A B : Prop} (h1 : c = true → A) (h2 : c = false → B) : if c = true then A else B := by
  cases c
  · exact h2 rfl
  · exact h1 rfl
theorem ifnb {c : Bool} {A B : Prop} (h1 : c = false → A) (h2 : c = true → B) : if (!c) = true then A else B := by
  cases c
  · exact h1 rfl
  · exact h2 rfl
theorem map_at {α β : Type} {f : α → β} {l : List α} {i : Nat} {y : β} (h : (l.map f)[i]? = some y) : ∃ x, l[i]? = some x ∧ y = f x := by
  rw [List.getElem?_map] at h
  cases e : l[i]? with
  | none => rw [e] at h; cases h
  | some x => rw [e] at h; exact ⟨x, rfl, (Option.some.inj h).symm⟩
end Tk
namespace Tk
open Pn06

/-! the order of plans -/
theorem less_irrefl : ∀ a : List Nat, less a a = false
  | [] => rfl
  | x :: r => by simp [less, less_irrefl r]

theorem less_trans : ∀ {a b c : List Nat}, less a b = true → less b c = true → less a c = true
  | [], [], _, h, _ => by simp [less] at h
  | [], _ :: _, [], _, h => by simp [less] at h
  | [], _ :: _, _ :: _, _, _ => rfl
  | _ :: _, [], _, h, _ => by simp [less] at h
  | _ :: _, _ :: _, [], _, h => by simp [less] at h
  | x :: r, y :: s, z :: q, h, g => by
    simp only [less, Bool.or_eq_true, Bool.and_eq_true, decide_eq_true_eq, beq_iff_eq] at h g ⊢
    rcases h with h | ⟨h, h'⟩ <;> rcases g with g | ⟨g, g'⟩
    · left; omega
    · left; omega
    · left; omega
    · right; exact ⟨h.trans g, less_trans h' g'⟩

theorem less_total : ∀ {a b : List Nat}, less a b = false → less b a = false → a = b
  | [], [], _, _ => rfl
  | [], _ :: _, h, _ => by simp [less] at h
  | _ :: _, [], _, h => by simp [less] at h
  | x :: r, y :: s, h, g => by
    simp only [less, Bool.or_eq_false_iff, Bool.and_eq_false_iff, decide_eq_false_iff_not, beq_eq_false_iff_ne] at h g
    obtain ⟨h1, h2⟩ := h
    obtain ⟨g1, g2⟩ := g
    have e : x = y := by omega
    subst e
    simp at h2 g2
    rw [less_total h2 g2]

theorem less_snoc : ∀ {a b : List Nat} (k : Nat), a.length = b.length → less a b = true → less (a ++ [k]) (b ++ [k]) = true
  | [], [], _, _, h => by simp [less] at h
  | [], _ :: _, _, e, _ => by simp at e
  | _ :: _, [], _, e, _ => by simp at e
  | x :: r, y :: s, k, e, h => by
    simp only [List.cons_append, less, Bool.or_eq_true, Bool.and_eq_true, decide_eq_true_eq, beq_iff_eq] at h ⊢
    rcases h with h | ⟨h, h'⟩
    · exact Or.inl h
    · exact Or.inr ⟨h, less_snoc k (by simpa using e) h'⟩

theorem better_iff {a b : Nat × List Nat} : better a b = true ↔ a.1 < b.1 ∨ (a.1 = b.1 ∧ (a.2.length < b.2.length ∨ (a.2.length = b.2.length ∧ less a.2 b.2 = true))) := by
  simp [better]

theorem better_irrefl (a : Nat × List Nat) : better a a = false := by
  simp [better, less_irrefl]

theorem better_trans {a b c : Nat × List Nat} (h : better a b = true) (g : better b c = true) : better a c = true := by
  rw [better_iff] at *
  rcases h with h | ⟨h, h | ⟨h', h''⟩⟩ <;> rcases g with g | ⟨g, g | ⟨g', g''⟩⟩
  · left; omega
  · left; omega
  · left; omega
  · left; omega
  · right; exact ⟨by omega, .inl (by omega)⟩
  · right; exact ⟨by omega, .inl (by omega)⟩
  · left; omega
  · right; exact ⟨by omega, .inl (by omega)⟩
  · right; exact ⟨by omega, .inr ⟨by omega, less_trans h'' g''⟩⟩

theorem better_total {a b : Nat × List Nat} (h : better a b = false) (g : better b a = false) : a = b := by
  have h' : ¬ better a b = true := by simp [h]
  have g' : ¬ better b a = true := by simp [g]
  rw [better_iff] at h' g'
  have e1 : a.1 = b.1 := by omega
  have e2 : a.2.length = b.2.length := by
    rcases Nat.lt_trichotomy a.2.length b.2.length with q | q | q
    · exact absurd (Or.inr ⟨e1, .inl q⟩) h'
    · exact q
    · exact absurd (Or.inr ⟨e1.symm, .inl q⟩) g'
  have e3 : a.2 = b.2 := by
    apply less_total
    · cases q : less a.2 b.2
      · rfl
      · exact absurd (Or.inr ⟨e1, .inr ⟨e2, q⟩⟩) h'
    · cases q : less b.2 a.2
      · rfl
      · exact absurd (Or.inr ⟨e1.symm, .inr ⟨e2.symm, q⟩⟩) g'
  exact Prod.ext e1 e3

theorem better_asymm {a b : Nat × List Nat} (h : better a b = true) : better b a = false := by
  cases q : better b a
  · rfl
  · have := better_trans h q
    rw [better_irrefl] at this
    cases this

/-- a is no worse than b -/
def Le (a b : Nat × List Nat) : Prop := better b a = false

theorem Le.refl (a : Nat × List Nat) : Le a a := better_irrefl a
theorem le_iff {a b : Nat × List Nat} : Le a b ↔ a = b ∨ better a b = true := by
  constructor
  · intro h
    cases q : better a b
    · exact .inl (better_total q h)
    · exact .inr rfl
  · rintro (rfl | h)
    · exact Le.refl _
    · exact better_asymm h
theorem Le.trans {a b c : Nat × List Nat} (h : Le a b) (g : Le b c) : Le a c := by
  rw [le_iff] at *
  rcases h with rfl | h
  · exact g
  · rcases g with rfl | g
    · exact .inr h
    · exact .inr (better_trans h g)
theorem Le.antisymm {a b : Nat × List Nat} (h : Le a b) (g : Le b a) : a = b := better_total g h
theorem Le.total (a b : Nat × List Nat) : Le a b ∨ Le b a := by
  cases q : better a b
  · exact .inr q
  · exact .inl (better_asymm q)
theorem Le.cost {a b : Nat × List Nat} (h : Le a b) : a.1 ≤ b.1 := by
  rw [le_iff] at h
  rcases h with rfl | h
  · omega
  · rw [better_iff] at h; omega

theorem better_snoc {a b : Nat × List Nat} (x k : Nat) (h : better a b = true) : better (a.1 + x, a.2 ++ [k]) (b.1 + x, b.2 ++ [k]) = true := by
  rw [better_iff] at *
  rcases h with h | ⟨h, h | ⟨h', h''⟩⟩
  · left; show a.1 + x < b.1 + x; omega
  · right; exact ⟨by show a.1 + x = b.1 + x; omega, .inl (by simp; omega)⟩
  · right; exact ⟨by show a.1 + x = b.1 + x; omega, .inr ⟨by simp; omega, less_snoc k h' h''⟩⟩
theorem Le.snoc {a b : Nat × List Nat} (x k : Nat) (h : Le a b) : Le (a.1 + x, a.2 ++ [k]) (b.1 + x, b.2 ++ [k]) := by
  rw [le_iff] at h
  rcases h with rfl | h
  · exact Le.refl _
  · exact better_asymm (better_snoc x k h)
theorem le_of_cost {a b : Nat × List Nat} (h : a.1 < b.1) : Le a b := better_asymm (better_iff.mpr (.inl h))
end Tk
namespace Tk
open L2 PySem PySem.Spec PyProof.Rows
/-- a natural number as a value -/
def nv (n : Nat) : V := .int (n : Int)
abbrev nvs (l : List Nat) : List V := l.map nv
/-- a module's whole number -/
def GI (mg : Str → Option Value) (x : Str) (n : Int) : Prop := ∃ t, mg x = some (.int n t)
theorem pe_gint {X : Cx} {x : Str} {pos : Pos} {n : Int} (hg : Gl X x) (h : GI X.mg x n) (hd : (x == ("__debug__" : Str)) = false := by decide) : PE X (.Name x pos) (tC (.int n)) := by
  obtain ⟨t, e⟩ := h
  exact pe_glob (v := .int n) hg e ⟨t, rfl⟩ hd
theorem cut_to (xs : List V) (k : Nat) : cutV xs none (some (k : Int)) = xs.take k := by
  unfold cutV
  rw [HT.sIx_nat, HT.sIx_none, List.drop_zero, Nat.sub_zero]
  by_cases h : k ≤ xs.length
  · rw [Nat.min_eq_left h]
  · rw [Nat.min_eq_right (by omega), List.take_length, List.take_of_length_le (by omega)]
theorem cut_from (xs : List V) (k : Nat) : cutV xs (some (k : Int)) none = xs.drop k := by
  unfold cutV
  rw [HT.sIx_nat, HT.sIx_none]
  by_cases h : k ≤ xs.length
  · rw [Nat.min_eq_left h]
    exact List.take_of_length_le (by rw [List.length_drop]; omega)
  · rw [Nat.min_eq_right (by omega), List.drop_length, List.drop_of_length_le (by omega)]
    simp
theorem cut_mid (xs : List V) (i j : Nat) (h : i + j ≤ xs.length) : cutV xs (some (i : Int)) (some ((i : Int) + (j : Int))) = (xs.drop i).take j := by
  unfold cutV
  have e : ((i : Int) + (j : Int)) = ((i + j : Nat) : Int) := by omega
  rw [e, HT.sIx_nat, HT.sIx_nat, Nat.min_eq_left (show i ≤ xs.length by omega), Nat.min_eq_left h]
  congr 1
  omega
theorem Same.upd {H : Hp} {p : Addr} {o : HO} (h : H p = none) : Same H (upd H p o) := fun b o' e => by
  rw [upd_ne (ne_of_none e h)]
  exact e
/-- rows of natural numbers at these places -/
structure RowsAt (H : Hp) (as : List Addr) (ss : List (List Nat)) : Prop where
  len : as.length = ss.length
  row : ∀ (i : Nat) p s, as[i]? = some p → ss[i]? = some s → H p = some (.lst (nvs s))
theorem RowsAt.mono {H H' : Hp} {as : List Addr} {ss : List (List Nat)} (h : RowsAt H as ss) (e : ∀ p ∈ as, ∀ o, H p = some o → H' p = some o) : RowsAt H' as ss :=
  ⟨h.len, fun i p s a b => e p (List.mem_of_getElem? a) _ (h.row i p s a b)⟩
theorem Same.rows {H H' : Hp} {as : List Addr} {ss : List (List Nat)} (e : Same H H') (h : RowsAt H as ss) : RowsAt H' as ss := h.mono fun p _ o ho => e p o ho
theorem RowsAt.mem {H : Hp} {as : List Addr} {ss : List (List Nat)} (h : RowsAt H as ss) {p : Addr} (hp : p ∈ as) : ∃ s, H p = some (.lst (nvs s)) := by
  obtain ⟨i, hi⟩ := List.getElem?_of_mem hp
  have hl : i < ss.length := by rw [← h.len]; exact (List.getElem?_eq_some_iff.mp hi).1
  exact ⟨_, h.row i p _ hi (List.getElem?_eq_getElem hl)⟩
theorem RowsAt.snoc {H : Hp} {as : List Addr} {ss : List (List Nat)} {b : Addr} {x : List Nat} (h : RowsAt H as ss) (g : H b = some (.lst (nvs x))) : RowsAt H (as ++ [b]) (ss ++ [x]) := by
  refine ⟨by simp [h.len], fun i p s hp hs => ?_⟩
  by_cases q : i < as.length
  · rw [List.getElem?_append_left q] at hp
    rw [List.getElem?_append_left (by rw [← h.len]; exact q)] at hs
    exact h.row i p s hp hs
  · rw [List.getElem?_append_right (by omega)] at hp
    rw [List.getElem?_append_right (by rw [← h.len]; omega)] at hs
    rw [h.len] at hp
    cases e : i - ss.length with
    | zero =>
      rw [e] at hp hs
      cases hp; cases hs
      exact g
    | succ n => rw [e] at hp; simp at hp
/-- all but what stands at r stays -/
def Kept (r : Addr) (H H' : Hp) : Prop := ∀ b o, H b = some o → b ≠ r → H' b = some o
theorem Kept.refl (r : Addr) (H : Hp) : Kept r H H := fun _ _ h _ => h
theorem Kept.trans {r : Addr} {H H1 H2 : Hp} (a : Kept r H H1) (b : Kept r H1 H2) : Kept r H H2 := fun c o h n => b c o (a c o h n) n
theorem Same.kept {r : Addr} {H H' : Hp} (a : Same H H') : Kept r H H' := fun c o h _ => a c o h
theorem kept_upd {r : Addr} {H : Hp} {o : HO} : Kept r H (upd H r o) := fun b o' e n => by rw [upd_ne n]; exact e
theorem Kept.free {r : Addr} {H H' : Hp} (k : Kept r H H') {q : Addr} (h : H' q = none) (n : q ≠ r) : H q = none := by
  cases e : H q with
  | none => rfl
  | some o => rw [k q o e n] at h; cases h
theorem Kept.new {r : Addr} {H H' : Hp} (k : Kept r H H') (h : H r = none) : Same H H' := fun b o e => k b o e fun z => by rw [z, h] at e; cases e
theorem Kept.seq {r : Addr} {K : PySem.W.Frag} {H H' : Hp} {a : Addr} {xs : List V} (k : Kept r H H') (h : SqL K H a xs) (n : a ≠ r) : SqL K H' a xs := by
  rcases h with (h | ⟨o, h⟩) | h
  · exact .inl (.inl (k a _ h n))
  · exact .inl (.inr ⟨o, k a _ h n⟩)
  · exact .inr h
/-- a list is no instance -/
theorem sq_ins {K : PySem.W.Frag} {H H' : Hp} {x C dx : Addr} {fs : List (Str × V)} {a : Addr} {xs : List V} (h : SqL K H a xs) (hx : H x = some (.ins C dx fs)) (k : Kept x H H') : SqL K H' a xs := by
  rcases h with (h | ⟨o, h⟩) | h
  · exact .inl (.inl (k a _ h fun z => by rw [z, hx] at h; cases h))
  · exact .inl (.inr ⟨o, k a _ h fun z => by rw [z, hx] at h; cases h⟩)
  · exact .inr h
theorem ins_ne {H : Hp} {x y C dx : Addr} {fs : List (Str × V)} {xs : List V} (h1 : H x = some (.ins C dx fs)) (h2 : H y = some (.lst xs)) : y ≠ x := fun z => by rw [z, h1] at h2; cases h2
theorem rows_ins {H H' : Hp} {x C dx : Addr} {fs : List (Str × V)} {as : List Addr} {ss : List (List Nat)} (h : RowsAt H as ss) (hx : H x = some (.ins C dx fs)) (k : Kept x H H') : RowsAt H' as ss :=
  ⟨h.len, fun i p s a b => k _ _ (h.row i p s a b) (ins_ne hx (h.row i p s a b))⟩
theorem RowsAt.off {H H' : Hp} {as : List Addr} {ss : List (List Nat)} {r : Addr} (h : RowsAt H as ss) (k : Kept r H H') (n : r ∉ as) : RowsAt H' as ss :=
  h.mono fun p hp o ho => k p o ho fun z => n (z ▸ hp)
theorem take_nvs (ns : List Nat) (k : Nat) : (nvs ns).take k = nvs (ns.take k) := by
  simp [nvs, List.map_take]
theorem nv_at {ns : List Nat} {i : Nat} (h : i < ns.length) : (nvs ns)[i]? = some (nv (ns.getD i 0)) := by
  rw [List.getElem?_map, List.getD_eq_getElem?_getD, List.getElem?_eq_getElem h]; rfl
end Tk
namespace Tk
open L2 PySem PySem.Spec PyProof.Rows
/-! for x, y, z in zip(a list, a tuple, a list), all of one length -/
/-- the three at a, b, c hold these -/
def Three (K : PySem.W.Frag) (a b c : Addr) (H : Hp) (l : List V × List V × List V) : Prop := SqL K H a l.1 ∧ SqT K H b l.2.1 ∧ SqL K H c l.2.2
def tripIt (K : PySem.W.Frag) (a b c : Addr) (l : List V × List V × List V) : It where
  go := fun i H => Three K a b c H l ∧ i < l.1.length ∧ i < l.2.1.length ∧ i < l.2.2.length
  yld := fun i H v H' => ∃ T x y z, v = .ref T ∧ H T = none ∧ H' = upd H T (.tup [x, y, z]) ∧ l.1[i]? = some x ∧ l.2.1[i]? = some y ∧ l.2.2[i]? = some z
  stop := fun i H => Three K a b c H l ∧ i = l.1.length ∧ i = l.2.1.length ∧ i = l.2.2.length
/-- the walk's own cells: the zip at n + 5, its two tuples, the three iterators from n on -/
def tripCells (n : Nat) : List Addr := [n + 5, n + 3, n + 4, n, n + 1, n + 2]
def tripAt (n a b c : Nat) (i : Nat) (h : Heap) : Prop :=
  (IsZip h (n + 5) (n + 3) (n + 4) .none ∧ IsTupOf3 h (n + 3) (.ref n) (.ref (n + 1)) (.ref (n + 2)) ∧ ∃ x y z, IsTupOf3 h (n + 4) x y z) ∧ h.IsListIter n a i ∧ h.IsTupleIter (n + 1) b i ∧ h.IsListIter (n + 2) c i
theorem tripCells_all {p : Addr → Prop} {n : Nat} : (∀ b ∈ tripCells n, p b) ↔ p (n + 5 : Nat) ∧ p (n + 3 : Nat) ∧ p (n + 4 : Nat) ∧ p n ∧ p (n + 1 : Nat) ∧ p (n + 2 : Nat) := by
  simp [tripCells]
theorem outside {n : Nat} {b : Addr} (h : b ∉ tripCells n) : b ≠ (n + 5 : Nat) ∧ b ≠ (n + 4 : Nat) ∧ b ≠ n ∧ b ≠ (n + 1 : Nat) ∧ b ≠ (n + 2 : Nat) := by
  simp only [tripCells, List.mem_cons, List.not_mem_nil, or_false, not_or] at h
  exact ⟨h.1, h.2.2.1, h.2.2.2.1, h.2.2.2.2.1, h.2.2.2.2.2⟩
theorem val_at {xs : List V} {us : List Value} {i : Nat} (r : Vals xs us) (h : i < xs.length) : i < us.toArray.size ∧ ∀ u, us.toArray[i]? = some u → ∃ x, xs[i]? = some x ∧ L2.RelV x u := by
  have e := r.length
  refine ⟨by simpa [← e] using h, fun u hu => ?_⟩
  obtain ⟨u', hu', rel⟩ := r.get (List.getElem?_eq_getElem h)
  have hu : us[i]? = some u := by simpa using hu
  cases hu.symm.trans hu'
  exact ⟨_, List.getElem?_eq_getElem h, rel⟩
theorem trip_turn {P : Program} {w : World} {K : PySem.W.Frag} {elts : List Expr} {kk : Nat} {tpos : Pos} {a b c n : Nat} {l : List V × List V × List V} (la : a < n) (lb : b < n) (lc : c < n) :
    Turn P w K (.Tuple elts kk tpos) (tripIt K a b c l) (tripCells n) (n + 5 : Nat) (tripAt n a b c) := by
  have sep : ZipSep3 (n + 5) (n + 3) (n + 4) n (n + 1) (n + 2) [n, a] [n + 1, b] [n + 2, c] := zip_sep3 (by simpa using la) (by simpa using lb) (by simpa using lc)
  have draws : ∀ {A : Around} {us vs ws : List Value}, A.handled = none → Draws P w A.in1 n [n, a] us.toArray.size (fun i v => us.toArray[i]? = some v) (fun i h => h.IsListIter n a i ∧ h.IsList a us.toArray) ∧
      Draws P w A.in1 (n + 1 : Nat) [(n + 1 : Nat), b] vs.toArray.size (fun i v => vs.toArray[i]? = some v) (fun i h => h.IsTupleIter (n + 1 : Nat) b i ∧ h.IsTuple b vs.toArray) ∧
      Draws P w A.in1 (n + 2 : Nat) [(n + 2 : Nat), c] ws.toArray.size (fun i v => ws.toArray[i]? = some v) (fun i h => h.IsListIter (n + 2 : Nat) c i ∧ h.IsList c ws.toArray) := fun hh =>
    ⟨Draws.list (A := Around.in1 _) hh n a (Nat.ne_of_lt la) _, Draws.tuple (A := Around.in1 _) hh (n + 1 : Nat) b (Nat.ne_of_lt (by omega)) _, Draws.list (A := Around.in1 _) hh (n + 2 : Nat) c (Nat.ne_of_lt (by omega)) _⟩
  constructor
  case mem => simp [tripCells]
  case obj =>
    rintro i h ⟨⟨hz, ht, x, y, z, ho⟩, ⟨o1, p1, _, d1⟩, ⟨o2, p2, _, d2⟩, ⟨o3, p3, _, d3⟩⟩
    exact tripCells_all.mpr ⟨⟨_, hz, by simp⟩, ⟨_, ht, by simp⟩, ⟨_, ho, by simp⟩, ⟨_, p1, by simp [d1]⟩, ⟨_, p2, by simp [d2]⟩, ⟨_, p3, by simp [d3]⟩⟩
  case keep =>
    rintro i h h' ⟨⟨hz, ht, x, y, z, ho⟩, p1, p2, p3⟩ same
    obtain ⟨k1, k2, k3, k4, k5, k6⟩ := tripCells_all.mp same
    exact ⟨⟨k1 _ hz, k2 _ ht, x, y, z, k3 _ ho⟩, p1.at k4, p2.at k5, p3.at k6⟩
  case item =>
    rintro X rfl rfl rfl calm i pins s σ H E inv free ⟨⟨hz, ht, x0, y0, z0, ho⟩, p1, p2, p3⟩ ⟨⟨qa, qb, qc⟩, i1, i2, i3⟩
    obtain ⟨us, ru, pu, _⟩ := inv.list qa
    obtain ⟨vs, rv, pv, _⟩ := inv.tuple qb
    obtain ⟨ws, rw', pw, _⟩ := inv.list qc
    obtain ⟨D1, D2, D3⟩ := draws (us := us) (vs := vs) (ws := ws) (inv.ok.hd calm)
    refine wpAny_pyNext_zipD3_item sep D1 D2 D3 hz ht ho ⟨p1, pu.isList⟩ ⟨p2, pv⟩ ⟨p3, pw.isList⟩ (val_at ru i1).1 (val_at rv i2).1 (val_at rw' i3).1 fun u v t g tk gu gv gt z1 o1 s1 s2 s3 new size rest => ?_
    obtain ⟨x, hx, rx⟩ := (val_at ru i1).2 u gu
    obtain ⟨y, hy, ry⟩ := (val_at rv i2).2 v gv
    obtain ⟨z, hz', rz⟩ := (val_at rw' i3).2 t gt
    have below : ∀ d ∈ tripCells n, d < s.heap.objs.size := tripCells_all.mpr ⟨Heap.lt_size hz, Heap.lt_size ht, Heap.lt_size ho, (let ⟨_, e, _⟩ := p1; Heap.lt_size e), (let ⟨_, e, _⟩ := p2; Heap.lt_size e), (let ⟨_, e, _⟩ := p3; Heap.lt_size e)⟩
    refine ⟨_, rfl, wpAny_letOwnedTupleGo_zip z1 fun g' z2 same => ?_⟩
    have here : ∀ d o, d ≠ (n + 5 : Nat) → g.get? d = some o → g'.get? d = some o := fun d o ne e => same.extBut d o ne e
    have newer : g'.get? s.heap.objs.size = some { cls := .type "tuple", data := .seq #[u, v, t] } := here _ _ (Nat.ne_of_gt (Heap.lt_size hz)) new
    refine ⟨.ref s.heap.objs.size, upd H s.heap.objs.size (.tup [x, y, z]), ?_, rfl, ⟨_, x, y, z, rfl, inv.hok.fresh (Nat.le_refl _), rfl, hx, hy, hz'⟩, ⟨⟨z2, ?_, u, v, t, ?_⟩, ?_, ?_, ?_⟩, fun d hd => ?_⟩
    · refine inv.turnedNew (ch := tripCells n) (fun d o off e => ?_) free (Nat.le_refl _) ⟨by show 3 ≤ sizeLine; decide, [u, v, t], .cons rx (.cons ry (.cons rz .nil)), _, newer, rfl, _, rfl⟩
      obtain ⟨o1, o2, o3, o4, o5⟩ := outside off
      exact here d o o1 (rest d o o1 o2 o3 o4 o5 e)
    · exact here _ _ sep.TIz (rest _ _ sep.TIz sep.TITO sep.TIi1 sep.TIi2 sep.TIi3 ht)
    · exact here _ _ sep.TOz o1
    · exact s1.1.at fun o e => here _ o (Ne.symm sep.zi1) e
    · exact s2.1.at fun o e => here _ o (Ne.symm sep.zi2) e
    · exact s3.1.at fun o e => here _ o (Ne.symm sep.zi3) e
    · exact (upd_ne (Nat.ne_of_lt (below d hd))).trans (free d hd).1
  case done =>
    rintro X rfl rfl rfl calm i pins s σ H E inv free ⟨⟨hz, ht, x0, y0, z0, ho⟩, p1, p2, p3⟩ ⟨⟨qa, qb, qc⟩, i1, i2, i3⟩
    obtain ⟨us, ru, pu, _⟩ := inv.list qa
    obtain ⟨vs, rv, pv, _⟩ := inv.tuple qb
    obtain ⟨ws, rw', pw, _⟩ := inv.list qc
    obtain ⟨D1, D2, D3⟩ := draws (us := us) (vs := vs) (ws := ws) (inv.ok.hd calm)
    have e1 : i = us.toArray.size := by simpa [← ru.length] using i1
    have e2 : i = vs.toArray.size := by simpa [← rv.length] using i2
    have e3 : i = ws.toArray.size := by simpa [← rw'.length] using i3
    refine wpAny_pyNext_zipD3_end sep D1 D2 D3 hz ht ho ⟨p1, pu.isList⟩ ⟨p2, pv⟩ ⟨p3, pw.isList⟩ (Nat.le_of_eq e1) (Nat.le_of_eq e2) (Nat.le_of_eq e3) (.inl e1) fun g tk rest => ⟨rfl, inv.turnedL (ch := tripCells n) (fun d o off e => ?_) free⟩
    obtain ⟨o1, o2, o3, o4, o5⟩ := outside off
    exact rest d o o1 o2 o3 o4 o5 e
  case self => exact fun A i s Q E at_ q => wpAny_pyIter_zip at_.1.1 q
/-- zip(x, y, z): the three stand as l says -/
def iTrip (K : PySem.W.Frag) (ta : TA) : TI := fun σ H R => ta σ H fun vs H1 => ∃ a b c l, vs = [.ref a, .ref b, .ref c] ∧ Three K a b c H1 l ∧ R (tripIt K a b c l) H1
theorem pi_trip {X : Cx} {x y z : Expr} {ta : TA} {p pos tpos : Pos} {elts : List Expr} {kk : Nat} (gl : Gl X "zip") (blt : X.mg "zip" = none) (args : PA X [x, y, z] ta)
    (st : starEach [x, y, z] X.env = (false, eval x X.env) :: starEach [y, z] X.env := by rfl) (pl : (backTo pos (starEach [y, z] X.env)).any (·.1) = false := by rfl) :
    PI X (.Tuple elts kk tpos) (.Call (.Name "zip" p) [x, y, z] [] pos) (iTrip X.K ta) := by
  constructor
  intro pins s σ H R inv read
  refine Call_ (ld_blt inv gl blt PyProof.Rows.boot_zip (PyProof.Rows.callWith_type1 (thn (args.run pos pins s σ H _ inv read) ?_) st pl))
  rintro us s1 ⟨vs, H1, inv1, rel, a, b, c, l, rfl, ⟨qa, qb, qc⟩, next⟩
  obtain rfl : us = [Value.ref a, Value.ref b, Value.ref c] := by
    rcases rel with _ | ⟨r1, _ | ⟨r2, r3⟩⟩
    rw [Vals.ref1 r3, show _ = Value.ref a from r1, show _ = Value.ref b from r2]
  obtain ⟨is, _, pa, _⟩ := inv1.list qa
  obtain ⟨js, _, pb, _⟩ := inv1.tuple qb
  obtain ⟨ks, _, pc, _⟩ := inv1.list qc
  have lb : b < s1.heap.objs.size := let ⟨_, e, _⟩ := id pb; Heap.lt_size e
  refine zip_begins3 (begins_list a is.toArray) (begins_tuple b js.toArray) (begins_list c ks.toArray) pa.isList pb pc.isList fun g hz ht ho h1 h2 h3 _ stay => wpAny_pyIter_zip hz ?_
  have fresh : ∀ d : Nat, s1.heap.objs.size ≤ d → FpOk X pins H1 d := fun d le => inv1.fpOk le (inv1.hok.fresh le)
  exact ⟨(s1.heap.objs.size + 5 : Nat), tripCells s1.heap.objs.size, tripAt s1.heap.objs.size a b c, _, H1, rfl, inv1.kept stay, trip_turn pa.lt lb pc.lt,
    ⟨⟨hz, ht, _, _, _, ho⟩, ⟨_, h1, rfl, rfl⟩, ⟨_, h2, rfl, rfl⟩, ⟨_, h3, rfl, rfl⟩⟩,
    tripCells_all.mpr ⟨fresh _ (by omega), fresh _ (by omega), fresh _ (by omega), fresh _ (by omega), fresh _ (by omega), fresh _ (by omega)⟩, next⟩
/-- the loop's turns, where the three have n items each -/
theorem for_trip {K : PySem.W.Frag} {a b c : Addr} {l : List V × List V × List V} {g : TG} {tb : TS} {D : Ends} {σ : L2.St} {H : Hp} (n : Nat) (n1 : l.1.length = n) (n2 : l.2.1.length = n) (n3 : l.2.2.length = n) (Pv : Nat → L2.St → Hp → Prop)
    (first : Pv 0 σ H) (stand : ∀ i σ H, Pv i σ H → Three K a b c H l)
    (turn : ∀ (i : Nat) (x y z : V) (T : Addr) (σ : L2.St) (H : Hp), l.1[i]? = some x → l.2.1[i]? = some y → l.2.2[i]? = some z → Pv i σ H → H T = none → g (.ref T) σ (upd H T (.tup [x, y, z])) fun σ2 H2 => tb { D with nx := Pv (i + 1), ct := Pv (i + 1), bk := D.nx } σ2 H2)
    (last : ∀ σ H, Pv n σ H → D.nx σ H) :
    ∃ W : Nat → Nat → L2.St → Hp → Prop, (∃ m, W 0 m σ H) ∧ ∀ i m σ H, W i m σ H → ((tripIt K a b c l).stop i H ∧ D.nx σ H) ∨ ((tripIt K a b c l).go i H ∧
      ∃ N : L2.St → Hp → Prop, (∀ σ' H', N σ' H' → ∃ m', m' < m ∧ W (i + 1) m' σ' H') ∧ ∀ v H', (tripIt K a b c l).yld i H v H' → g v σ H' fun σ2 H2 => tb { D with nx := N, ct := N, bk := D.nx } σ2 H2) := by
  refine ⟨fun i m σ H => i + m = n ∧ Pv i σ H, ⟨n, by omega, first⟩, ?_⟩
  rintro i m σ H ⟨rfl, pv⟩
  have three := stand i σ H pv
  match m, pv with
  | 0, pv => exact .inl ⟨⟨three, by omega, by omega, by omega⟩, last σ H pv⟩
  | m + 1, pv =>
    refine .inr ⟨⟨three, by omega, by omega, by omega⟩, Pv (i + 1), fun σ' H' p => ⟨m, by omega, by omega, p⟩, ?_⟩
    rintro v H' ⟨T, x, y, z, rfl, new, rfl, hx, hy, hz⟩
    exact turn i x y z T σ H hx hy hz pv new
end Tk
namespace Tk
open L2 PySem PySem.Spec PyProof.Rows
/-! for x, y in zip(a tuple, a list), both of one length -/
def Two (K : PySem.W.Frag) (a b : Addr) (H : Hp) (l : List V × List V) : Prop := SqT K H a l.1 ∧ SqL K H b l.2
def duoIt (K : PySem.W.Frag) (a b : Addr) (l : List V × List V) : It where
  go := fun i H => Two K a b H l ∧ i < l.1.length ∧ i < l.2.length
  yld := fun i H v H' => ∃ T x y, v = .ref T ∧ H T = none ∧ H' = upd H T (.tup [x, y]) ∧ l.1[i]? = some x ∧ l.2[i]? = some y
  stop := fun i H => Two K a b H l ∧ i = l.1.length ∧ i = l.2.length
/-- the walk's own cells: the zip at n + 4, its two tuples, the two iterators from n on -/
def duoCells (n : Nat) : List Addr := [n + 4, n + 2, n + 3, n, n + 1]
def duoAt (n a b : Nat) (i : Nat) (h : Heap) : Prop := (IsZip h (n + 4) (n + 2) (n + 3) .none ∧ IsTupOf2 h (n + 2) (.ref n) (.ref (n + 1)) ∧ ∃ x y, IsTupOf2 h (n + 3) x y) ∧ h.IsTupleIter n a i ∧ h.IsListIter (n + 1) b i
theorem duoCells_all {p : Addr → Prop} {n : Nat} : (∀ b ∈ duoCells n, p b) ↔ p (n + 4 : Nat) ∧ p (n + 2 : Nat) ∧ p (n + 3 : Nat) ∧ p n ∧ p (n + 1 : Nat) := by
  simp [duoCells]
theorem outsideD {n : Nat} {b : Addr} (h : b ∉ duoCells n) : b ≠ (n + 4 : Nat) ∧ b ≠ (n + 3 : Nat) ∧ b ≠ n ∧ b ≠ (n + 1 : Nat) := by
  simp only [duoCells, List.mem_cons, List.not_mem_nil, or_false, not_or] at h
  exact ⟨h.1, h.2.2.1, h.2.2.2.1, h.2.2.2.2⟩
theorem duo_turn {P : Program} {w : World} {K : PySem.W.Frag} {elts : List Expr} {kk : Nat} {tpos : Pos} {a b n : Nat} {l : List V × List V} (la : a < n) (lb : b < n) : Turn P w K (.Tuple elts kk tpos) (duoIt K a b l) (duoCells n) (n + 4 : Nat) (duoAt n a b) := by
  have sep : ZipSep2 (n + 4) (n + 2) (n + 3) n (n + 1) [n, a] [n + 1, b] := zip_sep2 (by simpa using la) (by simpa using lb)
  have draws : ∀ {A : Around} {us vs : List Value}, A.handled = none → Draws P w A.in1 n [n, a] us.toArray.size (fun i v => us.toArray[i]? = some v) (fun i h => h.IsTupleIter n a i ∧ h.IsTuple a us.toArray) ∧
      Draws P w A.in1 (n + 1 : Nat) [(n + 1 : Nat), b] vs.toArray.size (fun i v => vs.toArray[i]? = some v) (fun i h => h.IsListIter (n + 1 : Nat) b i ∧ h.IsList b vs.toArray) := fun hh =>
    ⟨Draws.tuple (A := Around.in1 _) hh n a (Nat.ne_of_lt la) _, Draws.list (A := Around.in1 _) hh (n + 1 : Nat) b (Nat.ne_of_lt (by omega)) _⟩
  constructor
  case mem => simp [duoCells]
  case obj =>
    rintro i h ⟨⟨hz, ht, x, y, ho⟩, ⟨o1, p1, _, d1⟩, ⟨o2, p2, _, d2⟩⟩
    exact duoCells_all.mpr ⟨⟨_, hz, by simp⟩, ⟨_, ht, by simp⟩, ⟨_, ho, by simp⟩, ⟨_, p1, by simp [d1]⟩, ⟨_, p2, by simp [d2]⟩⟩
  case keep =>
    rintro i h h' ⟨⟨hz, ht, x, y, ho⟩, p1, p2⟩ same
    obtain ⟨k1, k2, k3, k4, k5⟩ := duoCells_all.mp same
    exact ⟨⟨k1 _ hz, k2 _ ht, x, y, k3 _ ho⟩, p1.at k4, p2.at k5⟩
  case item =>
    rintro X rfl rfl rfl calm i pins s σ H E inv free ⟨⟨hz, ht, x0, y0, ho⟩, p1, p2⟩ ⟨⟨qa, qb⟩, i1, i2⟩
    obtain ⟨us, ru, pu, _⟩ := inv.tuple qa
    obtain ⟨vs, rv, pv, _⟩ := inv.list qb
    obtain ⟨D1, D2⟩ := draws (us := us) (vs := vs) (inv.ok.hd calm)
    refine wpAny_pyNext_zipD2_item sep D1 D2 hz ht ho ⟨p1, pu⟩ ⟨p2, pv.isList⟩ (val_at ru i1).1 (val_at rv i2).1 fun u v g tk gu gv z1 o1 s1 s2 new size rest => ?_
    obtain ⟨x, hx, rx⟩ := (val_at ru i1).2 u gu
    obtain ⟨y, hy, ry⟩ := (val_at rv i2).2 v gv
    have below : ∀ d ∈ duoCells n, d < s.heap.objs.size := duoCells_all.mpr ⟨Heap.lt_size hz, Heap.lt_size ht, Heap.lt_size ho, (let ⟨_, e, _⟩ := p1; Heap.lt_size e), (let ⟨_, e, _⟩ := p2; Heap.lt_size e)⟩
    refine ⟨_, rfl, wpAny_letOwnedTupleGo_zip z1 fun g' z2 same => ?_⟩
    have here : ∀ d o, d ≠ (n + 4 : Nat) → g.get? d = some o → g'.get? d = some o := fun d o ne e => same.extBut d o ne e
    have newer : g'.get? s.heap.objs.size = some { cls := .type "tuple", data := .seq #[u, v] } := here _ _ (Nat.ne_of_gt (Heap.lt_size hz)) new
    refine ⟨.ref s.heap.objs.size, upd H s.heap.objs.size (.tup [x, y]), ?_, rfl, ⟨_, x, y, rfl, inv.hok.fresh (Nat.le_refl _), rfl, hx, hy⟩, ⟨⟨z2, ?_, u, v, ?_⟩, ?_, ?_⟩, fun d hd => ?_⟩
    · refine inv.turnedNew (ch := duoCells n) (fun d o off e => ?_) free (Nat.le_refl _) ⟨by show 2 ≤ sizeLine; decide, [u, v], .cons rx (.cons ry .nil), _, newer, rfl, _, rfl⟩
      obtain ⟨o1, o2, o3, o4⟩ := outsideD off
      exact here d o o1 (rest d o o1 o2 o3 o4 e)
    · exact here _ _ sep.TIz (rest _ _ sep.TIz sep.TITO sep.TIi1 sep.TIi2 ht)
    · exact here _ _ sep.TOz o1
    · exact s1.1.at fun o e => here _ o (Ne.symm sep.zi1) e
    · exact s2.1.at fun o e => here _ o (Ne.symm sep.zi2) e
    · exact (upd_ne (Nat.ne_of_lt (below d hd))).trans (free d hd).1
  case done =>
    rintro X rfl rfl rfl calm i pins s σ H E inv free ⟨⟨hz, ht, x0, y0, ho⟩, p1, p2⟩ ⟨⟨qa, qb⟩, i1, i2⟩
    obtain ⟨us, ru, pu, _⟩ := inv.tuple qa
    obtain ⟨vs, rv, pv, _⟩ := inv.list qb
    obtain ⟨D1, D2⟩ := draws (us := us) (vs := vs) (inv.ok.hd calm)
    have e1 : i = us.toArray.size := by simpa [← ru.length] using i1
    have e2 : i = vs.toArray.size := by simpa [← rv.length] using i2
    refine wpAny_pyNext_zipD2_end sep D1 D2 hz ht ho ⟨p1, pu⟩ ⟨p2, pv.isList⟩ (Nat.le_of_eq e1) (Nat.le_of_eq e2) (.inl e1) fun g tk rest => ⟨rfl, inv.turnedL (ch := duoCells n) (fun d o off e => ?_) free⟩
    obtain ⟨o1, o2, o3, o4⟩ := outsideD off
    exact rest d o o1 o2 o3 o4 e
  case self => exact fun A i s Q E at_ q => wpAny_pyIter_zip at_.1.1 q
def iDuo (K : PySem.W.Frag) (ta : TA) : TI := fun σ H R => ta σ H fun vs H1 => ∃ a b l, vs = [.ref a, .ref b] ∧ Two K a b H1 l ∧ R (duoIt K a b l) H1
theorem pi_duo {X : Cx} {x y : Expr} {ta : TA} {p pos tpos : Pos} {elts : List Expr} {kk : Nat} (gl : Gl X "zip") (blt : X.mg "zip" = none) (args : PA X [x, y] ta)
    (st : starEach [x, y] X.env = (false, eval x X.env) :: starEach [y] X.env := by rfl) (pl : (backTo pos (starEach [y] X.env)).any (·.1) = false := by rfl) : PI X (.Tuple elts kk tpos) (.Call (.Name "zip" p) [x, y] [] pos) (iDuo X.K ta) := by
  constructor
  intro pins s σ H R inv read
  refine Call_ (ld_blt inv gl blt PyProof.Rows.boot_zip (PyProof.Rows.callWith_type1 (thn (args.run pos pins s σ H _ inv read) ?_) st pl))
  rintro us s1 ⟨vs, H1, inv1, rel, a, b, l, rfl, ⟨qa, qb⟩, next⟩
  obtain rfl : us = [Value.ref a, Value.ref b] := by
    rcases rel with _ | ⟨r1, r2⟩
    rw [Vals.ref1 r2, show _ = Value.ref a from r1]
  obtain ⟨is, _, pa, _⟩ := inv1.tuple qa
  obtain ⟨js, _, pb, _⟩ := inv1.list qb
  have la : a < s1.heap.objs.size := let ⟨_, e, _⟩ := id pa; Heap.lt_size e
  refine zip_begins2 (begins_tuple a is.toArray) (begins_list b js.toArray) pa pb.isList fun g hz ht ho h1 h2 _ stay => wpAny_pyIter_zip hz ?_
  have fresh : ∀ d : Nat, s1.heap.objs.size ≤ d → FpOk X pins H1 d := fun d le => inv1.fpOk le (inv1.hok.fresh le)
  exact ⟨(s1.heap.objs.size + 4 : Nat), duoCells s1.heap.objs.size, duoAt s1.heap.objs.size a b, _, H1, rfl, inv1.kept stay, duo_turn la pb.lt, ⟨⟨hz, ht, _, _, ho⟩, ⟨_, h1, rfl, rfl⟩, ⟨_, h2, rfl, rfl⟩⟩,
    duoCells_all.mpr ⟨fresh _ (by omega), fresh _ (by omega), fresh _ (by omega), fresh _ (by omega), fresh _ (by omega)⟩, next⟩
theorem for_duo {K : PySem.W.Frag} {a b : Addr} {l : List V × List V} {g : TG} {tb : TS} {D : Ends} {σ : L2.St} {H : Hp} (n : Nat) (n1 : l.1.length = n) (n2 : l.2.length = n) (Pv : Nat → L2.St → Hp → Prop) (first : Pv 0 σ H) (stand : ∀ i σ H, Pv i σ H → Two K a b H l)
    (turn : ∀ (i : Nat) (x y : V) (T : Addr) (σ : L2.St) (H : Hp), l.1[i]? = some x → l.2[i]? = some y → Pv i σ H → H T = none → g (.ref T) σ (upd H T (.tup [x, y])) fun σ2 H2 => tb { D with nx := Pv (i + 1), ct := Pv (i + 1), bk := D.nx } σ2 H2)
    (last : ∀ σ H, Pv n σ H → D.nx σ H) :
    ∃ W : Nat → Nat → L2.St → Hp → Prop, (∃ m, W 0 m σ H) ∧ ∀ i m σ H, W i m σ H → ((duoIt K a b l).stop i H ∧ D.nx σ H) ∨ ((duoIt K a b l).go i H ∧
      ∃ N : L2.St → Hp → Prop, (∀ σ' H', N σ' H' → ∃ m', m' < m ∧ W (i + 1) m' σ' H') ∧ ∀ v H', (duoIt K a b l).yld i H v H' → g v σ H' fun σ2 H2 => tb { D with nx := N, ct := N, bk := D.nx } σ2 H2) := by
  refine ⟨fun i m σ H => i + m = n ∧ Pv i σ H, ⟨n, by omega, first⟩, ?_⟩
  rintro i m σ H ⟨rfl, pv⟩
  have two := stand i σ H pv
  match m, pv with
  | 0, pv => exact .inl ⟨⟨two, by omega, by omega⟩, last σ H pv⟩
  | m + 1, pv =>
    refine .inr ⟨⟨two, by omega, by omega⟩, Pv (i + 1), fun σ' H' p => ⟨m, by omega, by omega, p⟩, ?_⟩
    rintro v H' ⟨T, x, y, rfl, new, rfl, hx, hy⟩
    exact turn i x y T σ H hx hy pv new
end Tk
namespace Tk
open L2 PySem PySem.Spec PyProof.Rows
/-! dicts whose keys are tuples: d.pop(k), d.items() walked, {k: v} -/
/-- the dict's entries, their keys' tuples and their values, as the machine has them -/
theorem entries_of {P : Program} {w : World} {H : Hp} {h : Heap} {d : Addr} {kvs : List (List Key × V)} (ok : ObjOk P w H h d (.dT kvs)) :
    (d == sysModules) = false ∧ ∃ (o : Obj) (es : Array DictEntry) (ep : Nat), h.get? d = some o ∧ o.ExactDict ∧ o.data = .dict es ep ∧ es.size = kvs.length ∧
      ∀ (i : Nat) (k : List Key) (v : V), kvs[i]? = some (k, v) → ∃ q, (es.getD i default).key = .ref q ∧ H q = some (.tup (k.map kV)) ∧ L2.RelV v (es.getD i default).val := by
  obtain ⟨_, notSys, xs, pairs, o, es, ep, here, exact_, data, all, _⟩ := ok
  have len : es.size = kvs.length := (size_of_entries all).trans (Paired.length pairs).symm
  refine ⟨notSys, o, es, ep, here, exact_, data, len, fun i k v at_ => ?_⟩
  obtain ⟨x, hx, _, tup, rel⟩ := paired_get pairs at_
  have e : es.getD i default = entryOfKey (tupleKind (mixKind P w)) x := by
    rw [Array.getD_eq_getD_getElem?, entry_at all i, hx]; rfl
  rw [e]
  exact ⟨x.2.1, rfl, tup, rel⟩
/-! ### d.pop(k) -/
theorem pop_meets {Kt : Type} [DecidableEq Kt] {prog : Program} {w : World} {kind : HeapKind prog w Kt} {d b : Addr} {k : Kt} (notSys : (d == sysModules) = false) :
    MeetsIn prog w (Builtin.«dict.pop» ⟨[.ref d, .ref b], []⟩) fun A R s => ∃ xs p, (kind.room A.in1 ∧ kind.is s.heap k b ∧ s.heap.DictOfH kind d xs ∧ xs.length ≤ sizeLine ∧ atKey xs k = some p) ∧
      ∀ g tk, g.DictOfH kind d (DT.dropH xs k) → Heap.SameBut d s.heap g → R (.ok (.ret p.2)) { s with heap := g, toks := tk } := by
  refine .of_wp ?_
  rintro A R s ⟨xs, p, ⟨room, key, dict, few, found⟩, out⟩
  obtain ⟨o, es, ep, here, _, data, all, _⟩ := id dict
  have some_ : es.isEmpty = false := by
    cases z : es.isEmpty with
    | false => rfl
    | true =>
      have n : xs = [] := List.eq_nil_of_length_eq_zero ((size_of_entries all).symm.trans (by simpa using z))
      rw [n] at found; cases found
  unfold Builtin.«dict.pop» Builtin.Dict.keyAndDefault
  refine wpAny_bind (wpAny_bind (wpAny_notOrdered_dict dict.typeIs (wpAny_pure (a := (d, Value.ref b, none)) ?_)))
  simp only [show (keyPart (Value.ref b)).isSome = false from rfl, if_false, Bool.false_eq_true]
  refine wpAny_bind (wpAny_dictEntries here data (wpAny_bind (wpAny_pure ?_)))
  simp only [some_, if_false, Bool.false_eq_true]
  refine wpAny_bind (DT.takeH room key dict few (fun none_ => nomatch none_.symm.trans found) fun p' en found' isVal g dict' same => ?_)
  obtain rfl := Option.some.inj (found.symm.trans found')
  simp only [Option.isNone_some, if_false, Bool.false_eq_true]
  refine wpAny_bind (wpAny_letGo (wpAny_pure ⟨en.val, rfl, ?_⟩))
  rw [isVal]
  exact out g _ dict' same
def rPop : V → List V → Hp → VK → Prop := fun x xs H Q => ∃ (d b : Addr) (kvs : List (List Key × V)) (k : List Key) (v : V), x = .ref d ∧ xs = [.ref b] ∧ H d = some (.dT kvs) ∧ H b = some (.tup (k.map kV)) ∧ valV kvs k = some v ∧ Q v (upd H d (.dT (dropK kvs k)))
theorem mt_pop {X : Cx} (units : X.A.units + 1 < cLine) : MtR X "dict.pop" rPop := by
  rintro pins s σ H x xs self us Q inv relD rel ⟨d, b, kvs, k, v, rfl, rfl, atD, atB, found, next⟩
  obtain rfl := (show self = Value.ref d from relD)
  obtain rfl : us = [Value.ref b] := Vals.ref1 rel
  obtain ⟨few, notSys, xs, pairs, dict⟩ := dt_of inv.hok atD
  have val := pairs.val k
  rw [found] at val
  match e : atKey xs k with
  | none => rw [e] at val; exact val.elim
  | some p =>
    rw [e] at val
    refine call_meetsIn PySem.F.slot_dict_pop dict.typeIs PySem.F.entry_dict_pop (PySem.F.args_dict_pop_2 _ _) (pop_meets (kind := tupleKind (mixKind X.prog X.w)) (k := k) notSys)
      ⟨xs, p, ⟨tupleKind_room_in1 units, key_of inv.hok atB, dict, by rw [← Paired.length pairs]; exact few, e⟩, fun g tk dict' same => ?_⟩
    obtain ⟨o, es, ep, here, isD, data, all, _, once⟩ := dict'
    have tupsStay : ∀ c ys, H c = some (.tup ys) → upd H d (.dT (dropK kvs k)) c = some (.tup ys) := fun c ys t => (upd_ne (ne_of t atD (by simp))).trans t
    exact ⟨v, upd H d (.dT (dropK kvs k)), d_write inv (by rw [atD]; trivial) same ⟨o, here⟩ ⟨Nat.le_trans (dropK_le kvs k) few, notSys, _, (DX.KT_drop k pairs).keeps tupsStay, o, es, ep, here, isD, data, all, once⟩, val, next⟩
/-! ### for k, v in d.items() -/
/-- the pairs of the locked dict at d, each a new tuple of the key's own tuple and the value -/
def pairsIt (d : Addr) (o : Obj) (kvs : List (List Key × V)) : It where
  go := fun i H => i < kvs.length ∧ H d = some (.frz o (.dT kvs))
  yld := fun i H x H' => ∃ (T q : Addr) (k : List Key) (v : V), x = .ref T ∧ kvs[i]? = some (k, v) ∧ H q = some (.tup (k.map kV)) ∧ H T = none ∧ H' = upd H T (.tup [.ref q, v])
  stop := fun i H => kvs.length ≤ i ∧ H d = some (.frz o (.dT kvs))
theorem pairs_turn {P : Program} {w : World} {K : PySem.W.Frag} {d it : Addr} {o : Obj} {es : Array DictEntry} {ep : Nat} {kvs : List (List Key × V)} {elts : List Expr} {kk : Nat} {tpos : Pos} (data : o.data = .dict es ep) :
    Turn P w K (.Tuple elts kk tpos) (pairsIt d o kvs) [it] it fun i h => ∃ x y, IsItemIter h it d i es.size ep x y := by
  have raw : ∀ {X : Cx} {pins : List (Addr × Obj)} {σ : L2.St} {H : Hp} {s : Shared}, Inv X pins σ H s → H d = some (.frz o (.dT kvs)) → DT.Raw s.heap d es ep ∧ es.size = kvs.length ∧
      ∀ (i : Nat) (k : List Key) (v : V), kvs[i]? = some (k, v) → ∃ q, (es.getD i default).key = .ref q ∧ H q = some (.tup (k.map kV)) ∧ L2.RelV v (es.getD i default).val := fun inv lock => by
    obtain ⟨here, inner⟩ := inv.hok d _ lock
    obtain ⟨_, o', es', ep', here', isD, data', len, all⟩ := entries_of inner
    obtain rfl := Option.some.inj (here.symm.trans here')
    rw [data] at data'
    cases data'
    exact ⟨⟨o, here, isD, data⟩, len, all⟩
  constructor
  case mem => simp
  case obj =>
    rintro i h ⟨x, y, e⟩ b hb
    obtain rfl := List.mem_singleton.mp hb
    exact ⟨_, e, by simp⟩
  case keep => exact fun i h h' ⟨x, y, e⟩ same => ⟨x, y, same it (by simp) _ e⟩
  case item =>
    rintro X rfl rfl rfl calm i pins s σ H E inv free ⟨x, y, iter⟩ ⟨lt, lock⟩
    obtain ⟨rw1, len, all⟩ := raw inv lock
    have inb : i < es.size := by omega
    obtain ⟨q, isKey, tup, rel⟩ := all i _ _ (List.getElem?_eq_getElem lt)
    have e : es.getD i default = es[i] := by simp [inb]
    rw [e] at isKey rel
    have old := Heap.lt_size iter
    refine DT.nextI iter rw1 inb fun g out new _ rest => ⟨_, rfl, wpAny_letOwnedTupleGo_items out fun g' back same => ?_⟩
    have new' : g'.get? s.heap.objs.size = some { cls := .type "tuple", data := .seq #[es[i].key, es[i].val] } := same.extBut _ _ (Nat.ne_of_gt old) new
    refine ⟨.ref s.heap.objs.size, upd H s.heap.objs.size (.tup [.ref q, kvs[i].2]), ?_, rfl, ⟨_, q, kvs[i].1, kvs[i].2, rfl, List.getElem?_eq_getElem lt, tup, inv.hok.fresh (Nat.le_refl _), rfl⟩, ⟨_, _, back⟩, fun b hb => ?_⟩
    · refine inv.turnedNew (ch := [it]) (fun b o' off h => ?_) free (Nat.le_refl _) ⟨by show 2 ≤ sizeLine; decide, [es[i].key, es[i].val], .cons isKey (.cons rel .nil), _, new', rfl, _, rfl⟩
      have ne : b ≠ it := fun z => off (by simp [z])
      exact same.extBut b o' ne (rest b o' ne h)
    · have one := List.mem_singleton.mp hb
      subst one
      exact (upd_ne (Nat.ne_of_lt old)).trans (free b hb).1
  case done =>
    rintro X rfl rfl rfl calm i pins s σ H E inv free ⟨x, y, iter⟩ ⟨le, lock⟩
    obtain ⟨rw1, len, _⟩ := raw inv lock
    exact DT.endI (inv.ok.hd calm) iter rw1 (by omega) fun g rest => ⟨rfl, inv.turnedL (ch := [it]) (fun b o' off h => rest b o' (fun z => off (by simp [z])) h) free⟩
  case self => exact fun A i s Q E ⟨_, _, e⟩ q => PySem.W.kcp_self e q
/-- e gives the view d.items(): its walk locks d -/
def iPairs (te : TE) : TI := fun σ H R => te σ H fun x H1 => ∃ p d kvs, x = .ref p ∧ H1 p = some (DX.itemsO p d) ∧ H1 d = some (.dT kvs) ∧ ∀ o, R (pairsIt d o kvs) (upd H1 d (.frz o (.dT kvs)))
theorem pi_pairs {X : Cx} {e : Expr} {te : TE} {elts : List Expr} {kk : Nat} {tpos : Pos} (view : PE X e te) : PI X (.Tuple elts kk tpos) e (iPairs te) := by
  constructor
  intro pins s σ H R inv read
  refine thn (view.run pins s σ H _ inv read) ?_
  rintro _ s1 ⟨_, H1, inv1, rel, p, d, kvs, rfl, isView, isDict, next⟩
  obtain rfl := (show _ = Value.ref p from rel)
  obtain ⟨o, lock⟩ := inv1.lock isDict trivial
  have viewAt : s1.heap.IsItemsView p d := (inv1.hok p _ isView).1
  obtain ⟨here, inner⟩ := lock.hok d _ upd_same
  obtain ⟨_, o', es, ep, here', isD, data, len, _⟩ := entries_of inner
  obtain rfl := Option.some.inj (here.symm.trans here')
  exact DT.iterI viewAt ⟨o, here, isD, data⟩ (pi_one (tk := s1.toks) lock _ (pairs_turn data) ⟨.none, .none, Heap.get?_push_size _ rfl⟩ (next o))
/-- a comprehension over it -/
theorem lc_pairs {d D : Addr} {o : Obj} {kvs : List (List Key × V)} {g : TG} {tt : L2.TT} {te : TE} {own : List Nat} {σ : L2.St} {H : Hp} {Qd : Hp → Prop} (Pv : Nat → Hp → Prop) (first : Pv 0 H) (stand : ∀ i H, Pv i H → H d = some (.frz o (.dT kvs)))
    (turn : ∀ (i : Nat) (k : List Key) (v : V) (T q : Addr) (H : Hp), kvs[i]? = some (k, v) → Pv i H → H T = none → H q = some (.tup (k.map kV)) →
      g (.ref T) (wipe σ own) (upd H T (.tup [.ref q, v])) fun σ2 H2 => wipe σ2 own = wipe σ own ∧ tt σ2 H2 fun b H3 => if b = true then te σ2 H3 fun y H4 => ∃ acc, H4 D = some (.lst acc) ∧ acc.length < sizeLine ∧ Pv (i + 1) (upd H4 D (.lst (acc ++ [y]))) else Pv (i + 1) H3)
    (last : ∀ H, Pv kvs.length H → Qd H) :
    ∃ W : Nat → Nat → Hp → Prop, (∃ m, W 0 m H) ∧ ∀ i m H, W i m H → ((pairsIt d o kvs).stop i H ∧ Qd H) ∨ ((pairsIt d o kvs).go i H ∧ ∃ Nx : Hp → Prop, (∀ H', Nx H' → ∃ m', m' < m ∧ W (i + 1) m' H') ∧
      ∀ x H', (pairsIt d o kvs).yld i H x H' → g x (wipe σ own) H' fun σ2 H2 => wipe σ2 own = wipe σ own ∧ tt σ2 H2 fun b H3 => if b = true then te σ2 H3 fun y H4 => ∃ acc, H4 D = some (.lst acc) ∧ acc.length < sizeLine ∧ Nx (upd H4 D (.lst (acc ++ [y]))) else Nx H3) := by
  refine ⟨fun i m H => i + m = kvs.length ∧ Pv i H, ⟨kvs.length, by omega, first⟩, ?_⟩
  rintro i m H ⟨sum, pv⟩
  match m, pv with
  | 0, pv =>
    obtain rfl : i = kvs.length := by omega
    exact .inl ⟨⟨by omega, stand _ H pv⟩, last H pv⟩
  | m + 1, pv =>
    refine .inr ⟨⟨by omega, stand i H pv⟩, Pv (i + 1), fun H' p => ⟨m, by omega, by omega, p⟩, ?_⟩
    rintro x H' ⟨T, q, k, v, rfl, at_, tup, new, rfl⟩
    exact turn i k v T q H at_ pv new tup
/-! ### {k: v} -/
def tOne (tk tv : TE) : TE := fun σ H Q => ∀ p, H p = none → tk σ (upd H p (.dT [])) fun x H1 => tv σ H1 fun y H2 => ∃ (b : Addr) (k : List Key), x = .ref b ∧ H2 b = some (.tup (k.map kV)) ∧ H2 p = some (.dT []) ∧ Q (.ref p) (upd H2 p (.dT [(k, y)]))
theorem pe_one1 {X : Cx} {pos : Pos} {k v : Expr} {tk tv : TE} (units : X.A.units < cLine) (key : PE X k tk) (value : PE X v tv) : PE X (.Dict [some k] [v] pos) (tOne tk tv) := by
  constructor
  intro pins s σ H Q inv read
  have pairs := pairTrees_length [some k] [v] X.env pos rfl rfl
  have one : (pairTrees [some k] [v] X.env pos).length = 1 := pairs
  rw [arm_eval_Dict, zip_pairTrees [some k] [v] X.env pos rfl rfl, dictDisplay_pairs _ (by intro z; rw [z] at one; cases one) (by omega)]
  have empty := inv.laid (o := .dT []) (t' := s.toks) (fun _ _ e => Heap.get?_push_of_some { cls := .type "dict", data := .dict #[] } e) (Nat.le_refl _) (dt_empty s.heap inv.big)
  refine wpAny_bind (wpAny_standAt (wpAny_bind (wpAny_subDictH (knd := tupleKind (mixKind X.prog X.w)) (Q := fun p s' => wpAny (model X.prog X.w) X.A (pure (Value.ref p)) (EP X pins σ Q) X.xe s') units (by omega) (pairTrees_cons_walk ?_))))
  refine thn (key.run pins _ σ _ _ empty (read _ (inv.hok.fresh (Nat.le_refl _)))) ?_
  rintro _ s1 ⟨_, H1, inv1, relK, q1⟩
  refine thn (value.run pins s1 σ H1 _ inv1 q1) ?_
  rintro u s2 ⟨y, H2, inv2, relV, b, ks, rfl, tup, atP, next⟩
  obtain rfl := (show _ = Value.ref b from relK)
  obtain ⟨_, notSys, xs, rel, dict⟩ := dt_of inv2.hok atP
  cases rel
  refine pairTrees_nil_walk ⟨[(ks, b, u)], ⟨rfl, rfl, key_of inv2.hok tup, trivial⟩, dict, fun g tk dict' same => wpAny_pure ⟨.ref _, _, ?_, rfl, next⟩⟩
  obtain ⟨o, es, ep, here, isD, data, all, _, once⟩ := dict'
  exact d_write inv2 (by rw [atP]; trivial) same ⟨o, here⟩ ⟨by show 1 ≤ sizeLine; decide, notSys, [(ks, b, u)], .cons ⟨rfl, (upd_ne (ne_of tup atP (by simp))).trans tup, relV⟩ .nil, o, es, ep, here, isD, data, all, once⟩
end Tk
namespace Tk
open PySem PySem.Spec PyProof.Rows L2 LamX NdefX
/-- a lambda with parameters is called -/
theorem lam_call {CX : CXT} {P : Program} {w : World} {K : PySem.W.Frag} {mg : Str → Option Value} {base : Heap} {N ps fr : List Str} {F : NF} {f : Addr} {k : Nat} {body : Expr} {pm ctv : Value} {A : Around} {outer : List Env} {s : Shared} {H : Hp} {E : XK} {us : List Value} {vs : List V} {ws : List (Option V)} {Q : VK}
    (S : NScope N ps fr F.scope) (room : Room (k + 1) A) (env : Env0 P w K mg base A outer s H) (obj : s.heap.get? f = some (PySem.W.kla_obj F.name F.qual F.params body F.scope F.cl pm F.c ctv)) (code : H F.c = some (CodeO F.c F.qual))
    (cells : CellsAt F.cl fr ws s.heap H) (args : Vals vs us) (len : vs.length = ps.length) (bind : bindArgs (PySem.W.kla_fn F.name F.qual F.params body F.scope F.cl pm (.ref F.c) ctv) ⟨us, []⟩ = pure (ps.zip us))
    (rest : Room k (A.deeper (envF F f s.heap.objs.size)) → ∃ t, PE (ncx CX P w K mg base N F f A outer s H E) body t ∧ t (startF N vs ws) H Q) : codeAny (model P w) A (.call (.ref f) ⟨us, []⟩) (CR CX outer P w H s Q E) s := by
  have nolim : s.heap.NoLimit := env.mod.nolimit.keeps fun b o q => (env.bs b o q).1
  refine PySem.W.kla_callFunE room.depth obj rfl S.co S.gen rfl (codeO_at env.hok code) ?_
  rw [bind]
  refine wpAny_pure (wpAny_newFunctionEnv S.nocell (fun ⟨x, _⟩ hx => S.par x (List.of_mem_zip hx).1) (fun g names alone => ⟨nolim.fresh _ alone, ?_⟩) S.kind)
  show codeAny _ _ (.expr body (envF F f s.heap.objs.size)) _ _
  have stays : ∀ b o, s.heap.get? b = some o → g.get? b = some o := fun b o q => alone.extBut b o (Nat.ne_of_lt (Heap.lt_size q)) (Heap.get?_push_of_some _ q)
  obtain ⟨t, pe, q⟩ := rest (room.deeper _)
  have inside : Inv (ncx CX P w K mg base N F f A outer s H E) [] (startF N vs ws) H { s with heap := g, toks := s.toks + (ps.zip us).length } := inv_startN S room.hd env len args cells names stays
  refine PySem.W.kla_codeExpr (wpAny_mono (pe.run [] _ _ H Q inside q) (fun u s' out => ?_) fun e s' out => out)
  obtain ⟨v, H', J, rel, hq⟩ := out
  exact ⟨v, H', J.os, J.bare, J.base, J.hok, rel, hq⟩
end Tk
namespace Tk
open L2 PySem PySem.Spec PyProof.Rows
/-! ways, (cost, how many, (acts)): their order, min of them; min of ints with default=None -/
def iz (l : List Nat) : List Int := l.map Int.ofNat
theorem iz_inj {a b : List Nat} (h : iz a = iz b) : a = b := List.map_inj_right (fun _ _ => Int.ofNat.inj) |>.mp h
theorem lex_less : ∀ a b : List Nat, HT.lexLt (iz a) (iz b) = Pn06.less a b
  | [], [] => rfl
  | [], _ :: _ => rfl
  | _ :: _, [] => rfl
  | x :: r, y :: s => by
    show (if (x : Int) = (y : Int) then HT.lexLt (iz r) (iz s) else decide ((x : Int) < (y : Int))) = (decide (x < y) || (x == y) && Pn06.less r s)
    rw [lex_less r s]
    by_cases e : x = y
    · simp [e]
    · have e' : ¬ ((x : Int) = (y : Int)) := by omega
      simp [e, e']
/-- what stands in the machine's heap for a way -/
def MWay (h : Heap) (a : Addr) (p : Nat × List Nat) : Prop := ∃ (t : Addr) (u1 u2 : Tok) (its : Array Value), h.IsTuple a #[.int (p.1 : Int) u1, .int (p.2.length : Int) u2, .ref t] ∧ h.IsTuple t its ∧ IntsAre its.toList (iz p.2)
theorem MWay.keeps {h h' : Heap} {a : Addr} {p : Nat × List Nat} (x : MWay h a p) (k : ∀ b o, h.get? b = some o → h'.get? b = some o) : MWay h' a p := by
  obtain ⟨t, u1, u2, its, h1, h2, h3⟩ := x
  exact ⟨t, u1, u2, its, h1.at fun o e => k _ _ e, h2.at fun o e => k _ _ e, h3⟩
/-- what stands for it in the abstract heap -/
def WayAt (H : Hp) (a : Addr) (p : Nat × List Nat) : Prop := ∃ t, H a = some (.tup [nv p.1, nv p.2.length, .ref t]) ∧ H t = some (.tup (nvs p.2))
theorem WayAt.same {H H' : Hp} {a : Addr} {p : Nat × List Nat} (x : WayAt H a p) (k : ∀ b xs, H b = some (.tup xs) → H' b = some (.tup xs)) : WayAt H' a p := by
  obtain ⟨t, h1, h2⟩ := x
  exact ⟨t, k _ _ h1, k _ _ h2⟩
theorem vals_nvs {l : List Nat} {its : List Value} (r : Vals (nvs l) its) : IntsAre its (iz l) := by
  have e : nvs l = (iz l).map V.int := by simp only [nvs, iz, List.map_map]; rfl
  exact Vals.ints (e ▸ r)
theorem WayAt.m {X : Cx} {pins : List (Addr × Obj)} {σ : L2.St} {H : Hp} {s : Shared} {a : Addr} {p : Nat × List Nat} (I : Inv X pins σ H s) (x : WayAt H a p) : MWay s.heap a p := by
  obtain ⟨t, h1, h2⟩ := x
  obtain ⟨us, r1, p1, _⟩ := I.tuple (SqT.of h1)
  obtain ⟨vs, r2, p2, _⟩ := I.tuple (SqT.of h2)
  rcases r1 with _ | ⟨⟨u1, rfl⟩, _ | ⟨⟨u2, rfl⟩, _ | ⟨a3, _ | _⟩⟩⟩
  obtain rfl := (show _ = Value.ref t from a3)
  exact ⟨t, u1, u2, vs.toArray, p1, p2, vals_nvs r2⟩
theorem ints_one : ∀ {l : List Value} {a b : List Int}, IntsAre l a → IntsAre l b → a = b
  | _, _, _, .nil, .nil => rfl
  | _, _, _, .cons _ _ r, .cons _ _ r' => by rw [ints_one r r']
theorem all_same (a b : List Nat) : ((List.range (min a.length b.length)).all (fun j => decide ((iz a).getD j 0 = (iz b).getD j 0)) && a.length == b.length) = decide (a = b) := by
  have at_ : ∀ (l : List Nat) (j : Nat) (h : j < l.length), (iz l).getD j 0 = (l[j] : Int) := fun l j h => by simp [iz, h]
  rw [Bool.eq_iff_iff]
  simp only [Bool.and_eq_true, List.all_eq_true, List.mem_range, decide_eq_true_eq, beq_iff_eq]
  constructor
  · rintro ⟨all, len⟩
    refine List.ext_getElem len fun j h1 h2 => ?_
    have e := all j (by omega)
    rw [at_ a j h1, at_ b j h2] at e
    omega
  · rintro rfl
    exact ⟨fun _ _ => rfl, rfl⟩
theorem way_lt {A : Around} {s : Shared} {a b : Addr} {p q : Nat × List Nat} (units : A.units + 2 < cLine) (x : MWay s.heap a p) (y : MWay s.heap b q) : Ob.RcOp .Lt A s (.ref a) (.ref b) (Pn06.better p q) := by
  obtain ⟨t, u1, u2, its, h1, h2, h3⟩ := x
  obtain ⟨t', v1, v2, its2, g1, g2, g3⟩ := y
  have in1 : A.in1.units < cLine := by show A.units + 1 < cLine; omega
  have len1 : its.size = p.2.length := by simpa [iz] using h3.length
  have len2 : its2.size = q.2.length := by simpa [iz] using g3.length
  have eqI : ∀ (A : Around) (m n : Int) (u v : Tok), SeqAt.EqAt A s (.int m u) (.int n v) (decide (m = n)) := fun A m n u v => (SeqAt.EqAt.int_int m u n v : SeqAt.EqAt A s _ _ (m == n))
  have eqT : SeqAt.EqAt A.in1 s (.ref t) (.ref t') (decide (p.2 = q.2)) := by
    by_cases e : t = t'
    · subst e
      obtain ⟨o1, a1, _, n1, a3⟩ := h2
      obtain ⟨o2, b1, _, n2, b3⟩ := g2
      obtain rfl := Option.some.inj (a1.symm.trans b1)
      cases a3.symm.trans b3
      rw [decide_eq_true (iz_inj (ints_one h3 g3))]
      exact SeqAt.EqAt.same _
    · have r := SeqAt.RcAt.tuples (A := A.in1) (s := s) (e := fun j => decide ((iz p.2).getD j 0 = (iz q.2).getD j 0)) h2 g2 in1 fun j k1 k2 => by
        obtain ⟨w1, e1⟩ := PyProof.Rows.IntsAre.int_at h3 j its[j] (by simp [k1])
        obtain ⟨w2, e2⟩ := PyProof.Rows.IntsAre.int_at g3 j its2[j] (by simp [k2])
        rw [e1, e2]
        exact eqI _ _ _ _ _
      rw [len1, len2, all_same] at r
      exact .of_refs e r
  have ltT : Ob.RcOp .Lt A.in1 s (.ref t) (.ref t') (Pn06.less p.2 q.2) := fun prog w E Q h =>
    (HT.lt_tupInts h2 g2 h3 g3 in1 (by rw [lex_less]; exact h) : wpAny (model prog w) A.in1 (compareOp .Lt (.ref t) (.ref t')) Q E s)
  have r := Ob.RcOp.tuples_lt (A := A) (s := s) (e := fun | 0 => decide ((p.1 : Int) = q.1) | 1 => decide ((p.2.length : Int) = q.2.length) | _ => decide (p.2 = q.2))
    (r := fun | 0 => decide ((p.1 : Int) < q.1) | 1 => decide ((p.2.length : Int) < q.2.length) | _ => Pn06.less p.2 q.2) h1 g1 (by omega)
    (fun | 0, _, _ => eqI _ _ _ _ _ | 1, _, _ => eqI _ _ _ _ _ | 2, _, _ => eqT | _ + 3, z, _ => absurd z (by simp))
    (fun | 0, _, _, _ => Ob.RcOp.lt_int _ _ _ _ | 1, _, _, _ => Ob.RcOp.lt_int _ _ _ _ | 2, _, _, _ => ltT | _ + 3, z, _, _ => absurd z (by simp))
  have e : Pn06.better p q = (if decide ((p.1 : Int) = q.1) = true then if decide ((p.2.length : Int) = q.2.length) = true then if decide (p.2 = q.2) = true then decide (3 < 3) else Pn06.less p.2 q.2 else decide ((p.2.length : Int) < q.2.length) else decide ((p.1 : Int) < q.1)) := by
    rw [Bool.eq_iff_iff, better_iff]
    by_cases c1 : (p.1 : Int) = q.1
    · have n1 : p.1 = q.1 := by omega
      by_cases c2 : (p.2.length : Int) = q.2.length
      · have n2 : p.2.length = q.2.length := by omega
        by_cases c3 : p.2 = q.2
        · simp [n1, c3, less_irrefl]
        · simp [n1, n2, c3]
      · have n2 : ¬ p.2.length = q.2.length := by omega
        simp [n1, n2, c2]
    · have n1 : ¬ p.1 = q.1 := by omega
      simp [n1, c1]
  rw [e]
  exact r
def rLtWay : R2 := fun x y H Q => ∃ (a b : Addr) (p q : Nat × List Nat), x = .ref a ∧ y = .ref b ∧ WayAt H a p ∧ WayAt H b q ∧ Q (.bl (Pn06.better p q)) H
theorem op_ltWay {X : Cx} (units : X.A.units + 2 < cLine) : OpR X (compareOp .Lt) rLtWay := by
  rintro pins s σ H x y v u Q inv rx ry ⟨a, b, p, q, rfl, rfl, wa, wb, next⟩
  obtain rfl := (show v = Value.ref a from rx)
  obtain rfl := (show u = Value.ref b from ry)
  exact way_lt units (wa.m inv) (wb.m inv) X.prog X.w X.xe (EP X pins σ Q) ⟨.bl _, H, inv, rfl, next⟩
/-! ### min -/
theorem best_at (p : Nat → Nat × List Nat) : ∀ k, argBest (fun i j => Pn06.better (p i) (p j)) k ≤ k ∧ ∀ j, j ≤ k → Le (p (argBest (fun i j => Pn06.better (p i) (p j)) k)) (p j)
  | 0 => ⟨Nat.le_refl _, fun j hj => by rw [Nat.le_zero.mp hj]; exact Le.refl _⟩
  | k + 1 => by
    obtain ⟨h1, h2⟩ := best_at p k
    unfold argBest
    split
    · next c => exact ⟨Nat.le_refl _, fun j hj => (Nat.lt_or_eq_of_le hj).elim (fun l => Le.trans (better_asymm c) (h2 j (by omega))) fun e => e ▸ Le.refl _⟩
    · next c => exact ⟨by omega, fun j hj => (Nat.lt_or_eq_of_le hj).elim (fun l => h2 j (by omega)) fun e => by rw [e]; exact Bool.eq_false_iff.mpr c⟩
theorem apart {h : Heap} {b : Addr} {o : Obj} (e : h.get? b = some o) : b ∉ [h.objs.size] := fun z => Nat.lt_irrefl _ (List.mem_singleton.mp z ▸ Heap.lt_size e)
/-- behind a walk over a new iterator all is as before -/
theorem moved_back {X : Cx} {pins : List (Addr × Obj)} {σ : L2.St} {H : Hp} {s s' : Shared} {it : Obj} (inv : Inv X pins σ H s) (m : Moved [s.heap.objs.size] (fun a b => b = a) { s with heap := s.heap.push it } s') : Inv X pins σ H s' := by
  obtain ⟨g, gens, drawn, tk, os⟩ := s'
  obtain ⟨stay, rfl, rfl, rfl, _⟩ := m
  exact inv.kept fun b o e => stay b o (apart e) (Heap.get?_push_of_some _ e)
def rMinW (K : PySem.W.Frag) : List V → Hp → VK → Prop := fun vs H Q => ∃ (l : Addr) (as : List Addr) (ps : List (Nat × List Nat)), vs = [V.ref l] ∧ SqL K H l (as.map V.ref) ∧ as.length = ps.length ∧ 0 < ps.length ∧
  (∀ (i : Nat) (a : Addr) (p : Nat × List Nat), as[i]? = some a → ps[i]? = some p → WayAt H a p) ∧ ∀ a p, a ∈ as → p ∈ ps → WayAt H a p → (∀ q ∈ ps, Le p q) → Q (.ref a) H
theorem cr_minW {X : Cx} (calm : X.calm = true) (units : X.A.units + 3 < cLine) : CallR X (.builtin "min") (rMinW X.K) := by
  rintro pins s σ H vs us Q inv rel ⟨l, as, ps, rfl, isL, len, pos, ways, next⟩
  obtain ⟨its, rv, pl, _⟩ := inv.list isL
  have lens : its.length = ps.length := by rw [← rv.length, List.length_map, len]
  have item : ∀ (i : Nat) (v : Value), its.toArray[i]? = some v → ∃ a, v = .ref a ∧ a ∈ as ∧ ps.getD i (0, []) ∈ ps ∧ WayAt H a (ps.getD i (0, [])) := fun i v e => by
    have e : its[i]? = some v := by simpa using e
    have lt : i < its.length := (List.getElem?_eq_some_iff.mp e).1
    have la : as[i]? = some (as[i]'(by omega)) := List.getElem?_eq_getElem (by omega)
    have lp : ps[i]? = some (ps.getD i (0, [])) := by rw [List.getD_eq_getElem?_getD, List.getElem?_eq_getElem (show i < ps.length by omega)]; rfl
    obtain ⟨u, hu, ru⟩ := rv.get (show (as.map V.ref)[i]? = some (.ref (as[i]'(by omega))) by rw [List.getElem?_map, la]; rfl)
    obtain rfl := Option.some.inj (e.symm.trans hu)
    exact ⟨_, ru, List.mem_of_getElem? la, List.mem_of_getElem? lp, ways i _ _ la lp⟩
  rw [Vals.ref1 rel]
  refine call_min_walkH (iter_anyList pl.isList ?_)
  rintro _ rfl st below ne
  refine ⟨_, _, _, _, _, _, _, s.heap, (fun i j => Pn06.better (ps.getD i (0, [])) (ps.getD j (0, []))), rfl, (Walks.list (A := X.A.in1) (inv.ok.hd calm) _ l ne its.toArray).toS, st, below, ?_, fun b o e => apart e, fun b o e => Heap.get?_push_of_some _ e, ?_, ?_⟩
  · simpa [lens] using pos
  · intro i j vi vj s' Q' E' more hi hj q
    obtain ⟨a, rfl, _, _, wa⟩ := item i vi hi
    obtain ⟨b, rfl, _, _, wb⟩ := item j vj hj
    exact way_lt (A := X.A.in1) (by show X.A.units + 1 + 2 < cLine; omega) ((wa.m inv).keeps more) ((wb.m inv).keeps more) X.prog X.w E' Q' q
  · intro v s' at_ m
    obtain ⟨a, rfl, ha, hp, wa⟩ := item _ v at_
    refine ⟨.ref a, H, moved_back inv m, rfl, next a _ ha hp wa fun q hq => ?_⟩
    obtain ⟨j, hj, e⟩ := List.mem_iff_getElem.mp hq
    have z := (best_at (fun i => ps.getD i (0, [])) (its.toArray.size - 1)).2 j (by simp; omega)
    rwa [show ps.getD j (0, []) = q by simp [hj, e]] at z
def rMinD (K : PySem.W.Frag) : List V → List V → Hp → VK → Prop := fun vs zs H Q => ∃ (a : Addr) (ns : List Int), vs = [V.ref a] ∧ zs = [.non] ∧ SqL K H a (ns.map V.int) ∧ (ns = [] → Q .non H) ∧ ∀ m, m ∈ ns → (∀ y, y ∈ ns → m ≤ y) → Q (.int m) H
theorem cr_minD {X : Cx} (calm : X.calm = true) : CallRK X (.builtin "min") [Str.ofString "default"] (rMinD X.K) := by
  rintro pins s σ H vs zs us ws Q inv rel relD ⟨l, ns, rfl, rfl, isL, none_, some_⟩
  obtain rfl : ws = [Value.none] := by rcases relD with _ | ⟨r, _ | _⟩; exact congrArg (· :: []) (show _ = Value.none from r)
  obtain ⟨its, rv, pl, _⟩ := inv.list isL
  have iv : IntsAre its ns := Vals.ints rv
  have lens := iv.length
  have item : ∀ (i : Nat) (v : Value), its.toArray[i]? = some v → ∃ t, v = .int (ns.getD i 0) t := fun i v e => PyProof.Rows.IntsAre.int_at iv i v (by simpa using e)
  rw [Vals.ref1 rel]
  refine call_min_walkD (d := Value.none) (iter_anyList pl.isList ?_)
  rintro _ rfl st below ne
  refine ⟨_, _, _, _, _, _, _, s.heap, (fun i j => decide (ns.getD i 0 < ns.getD j 0)), rfl, (Walks.list (A := X.A.in1) (inv.ok.hd calm) _ l ne its.toArray).toS, st, below, fun b o e => apart e, fun b o e => Heap.get?_push_of_some _ e, fun z s' m => ?_, fun z => ⟨?_, fun v s' at_ m => ?_⟩⟩
  · exact ⟨.non, H, moved_back inv m, rfl, none_ (List.eq_nil_of_length_eq_zero (lens.symm.trans (by simpa using z)))⟩
  · intro i j vi vj s' Q' E' _ hi hj q
    obtain ⟨t, rfl⟩ := item i vi hi
    obtain ⟨t', rfl⟩ := item j vj hj
    exact Ob.RcOp.lt_int _ _ _ _ X.prog X.w E' Q' q
  · obtain ⟨t, rfl⟩ := item _ v at_
    have z : 0 < its.length := by simpa using z
    obtain ⟨b1, b2⟩ := argBest_lt (fun i => ns.getD i 0) (its.toArray.size - 1)
    have size : its.toArray.size = ns.length := by simpa using lens
    rw [size] at b1 b2 ⊢
    refine ⟨.int _, H, moved_back inv m, ⟨t, rfl⟩, some_ _ ?_ fun y hy => ?_⟩
    · rw [List.getD_eq_getElem?_getD, List.getElem?_eq_getElem (Nat.lt_of_le_of_lt b1 (by omega))]
      exact List.getElem_mem _
    · obtain ⟨i, hi, rfl⟩ := List.mem_iff_getElem.mp hy
      have q := b2 i (by omega)
      rwa [show ns.getD i 0 = ns[i] by simp [hi]] at q
end Tk
namespace Tk
open L2 LamX NdefX PySem PySem.Spec PyProof.Rows
/-! min(d, key=lambda x: ..), d a dict with tuple keys that the lambda only reads -/
/-- the walk over the keys of a dict that stands still -/
theorem keys_walk {prog : Program} {w : World} {A : Around} (calm : A.handled = none) {it d : Addr} {o : Obj} {es : Array DictEntry} {ep : Nat} (ne : d ≠ it) (data : o.data = .dict es ep) :
    Walks prog w A it [it, d] [it] es.size (fun i v => i < es.size ∧ v = (es.getD i default).key) (fun i h => h.IsKeyIter it d i es.size ep ∧ h.get? d = some o) where
  sub := by simp
  frame := fun i h h' st same => ⟨st.1.at fun o' e => same it (by simp) o' e, same d (by simp) _ st.2⟩
  item := fun i s Q E lt st next => by
    refine next_key_item st.1 st.2 data rfl (en := es.getD i default) (by simp [lt]) fun g st' same => ?_
    exact next _ g s.toks ⟨lt, rfl⟩ ⟨st', same.extBut d o ne st.2⟩ fun b o' off e => same.extBut b o' (by simpa using off) e
  done := fun s Q E st next => next_key_end calm st.1 st.2 data rfl (Nat.le_refl _) fun g same => next g s.toks fun b o' off e => same b o' (by simpa using off) e
  self := fun i s Q E st q => (turn_keysT (P := prog) (w := w) (K := default) (tg := .Name "" default) (d := d) (kvs := List.replicate es.size ([], .non)) it data).self A i s Q E (by simpa using st.1) q
def tMinKey (T : List (Addr × Str)) (N : List Str) (js : List Nat) (ta : TA) (tb : TE) : TE := fun σ H Q => ta σ H fun xs H1 => ∃ (d : Addr) (kvs : List (List Key × V)) (cost : Nat → Nat), xs = [.ref d] ∧ H1 d = some (.dT kvs) ∧ 0 < kvs.length ∧ Tabs T H1 ∧ ∀ H2, ExtN H1 H2 → Tabs T H2 →
  (∀ (o : Obj) (i : Nat) (k : List Key) (v : V) (q : Addr), kvs[i]? = some (k, v) → H2 q = some (.tup (k.map kV)) → tb (startF N [.ref q] (js.map (slotAt σ))) (upd H2 d (.frz o (.dT kvs))) fun y H' => y = nv (cost i) ∧ H' = upd H2 d (.frz o (.dT kvs))) ∧
  ∀ (i : Nat) (k : List Key) (v : V) (q : Addr), kvs[i]? = some (k, v) → H2 q = some (.tup (k.map kV)) → (∀ j, j < kvs.length → cost i ≤ cost j) → Q (.ref q) H2
theorem upd_back {H : Hp} {d : Addr} {u u' : HO} (h : H d = some u) : upd (upd H d u') d u = H := by
  funext b
  by_cases e : b = d
  · rw [e, upd_same, h]
  · rw [upd_ne e, upd_ne e]
theorem pe_minKey {X : Cx} {T : List (Addr × Str)} {N fr : List Str} {x : Str} {js : List Nat} {c tab : Addr} {k : Nat} {e body : Expr} {ta : TA} {tb : TE} {params : Arguments} {scope : Scope} {p lpos kpos pos : Pos} (calm : X.calm = true) (room : Room (k + 2) X.A)
    (gl : Gl X "min") (blt : X.mg "min" = none) (TB : TabB X.base X.mg c tab) (isCode : X.env.code = .ref c) (tell : (tab, X.env.qual ++ "<lambda>") ∈ T) (only : ∀ t ∈ T, t.1 = tab → t.2 = X.env.qual ++ "<lambda>")
    (S : NScope N [x] fr scope) (caught : ∀ y ∈ scope.names, y.2 = .free → X.env.scope.names.lookup y.1 = some .cell ∨ X.env.scope.names.lookup y.1 = some .free) (isFree : ∀ y ∈ fr, (y, NameKind.free) ∈ scope.names) (slots : js.map (fun j => X.N[j]?) = fr.map some)
    (plain : defaultsOf params X.env = ([], [])) (bind : ∀ (q : Str) (cl : List (Str × Addr)) (pm cv ctv u : Value), bindArgs (PySem.W.kla_fn "<lambda>" q params body scope cl pm cv ctv) ⟨[u], []⟩ = pure [(x, u)]) (dict : PA X [e] ta)
    (inner : ∀ (A : Around) (outer : List Env) (s : Shared) (H : Hp) (f c' : Addr), Room k (A.deeper (envF ⟨"<lambda>", X.env.qual ++ "<lambda>", params, [], scope, cloFrom X.env.cells scope.names [], c'⟩ f s.heap.objs.size)) →
      PE (ncx L2.CX0 X.prog X.w X.K X.mg X.base N ⟨"<lambda>", X.env.qual ++ "<lambda>", params, [], scope, cloFrom X.env.cells scope.names [], c'⟩ f A outer s H L2.E0) body tb)
    (st : backTo pos (starEach [e] X.env) = (false, eval e X.env) :: backTo pos (starEach [] X.env) := by rfl) (pl : (backTo pos (starEach [e] X.env)).any (·.1) = false := by rfl)
    (kwAll : (backToKw pos (keywordEach [⟨some "key", .Lambda params body scope lpos, kpos⟩] X.env)).all (·.1.isSome) = true := by rfl) (kwNone : (backToKw pos (keywordEach [⟨some "key", .Lambda params body scope lpos, kpos⟩] X.env)).any (·.1.isNone) = false := by rfl) :
    PE X (.Call (.Name "min" p) [e] [⟨some "key", .Lambda params body scope lpos, kpos⟩] pos) (tMinKey T N js ta tb) := by
  constructor
  intro pins s σ H Q inv read
  refine wpAny_Call_Name_kw (ld_blt inv gl blt (u := .builtin "min") (by first | rfl | decide +kernel) ?_ (by decide) (by decide))
  refine PyProof.Rows.callWith_kw (thn (dict.run pos pins s σ H _ inv read) ?_) st pl kwAll kwNone
  rintro us s1 ⟨_, H1, inv1, rel, d, kvs, cost, rfl, atD, some_, tabs, next⟩
  obtain rfl : us = [Value.ref d] := Vals.ref1 rel
  show wpAny _ _ (evalAll [(do let v ← eval (.Lambda params body scope lpos) X.env; standAt pos; pure v)]) _ _ s1
  have cells : ∀ y ∈ scope.names, y.2 = .free → ∃ a, X.env.cells.lookup y.1 = some a := fun y hy z => (caught y hy z).elim (fun q => inv1.ok.has _ (.inl q)) fun q => inv1.ok.has _ (.inr q)
  refine wpAny_evalAll_cons (wpAny_bind (lam_make2 inv1 TB isCode tell only tabs plain cells ?_))
  intro f c' pm ctv H2 s2 inv2 ext tabs2 lamAt lamFree lamFr codeAt
  refine wpAny_bind (wpAny_standAt (wpAny_pure (wpAny_evalAll_nil ?_)))
  show wpAny _ _ (call (.builtin "min") [.ref d] [(Str.ofString "key", .ref f)]) _ _ s2
  obtain ⟨asks, tells⟩ := next H2 ext tabs2
  have atD2 : H2 d = some (.dT kvs) := ext d _ atD (by simp)
  have unlocked := inv2.nofrz atD2 trivial
  obtain ⟨o, inv3⟩ := inv2.lock atD2 trivial
  have stands : upd H2 d (.frz o (.dT kvs)) d = some (.frz o (.dT kvs)) := upd_same
  have other : ∀ b, H2 b = none → upd H2 d (.frz o (.dT kvs)) b = none := fun b z => (upd_ne (Ne.symm (ne_of_none atD2 z))).trans z
  have tup3 : ∀ b xs, upd H2 d (.frz o (.dT kvs)) b = some (.tup xs) → H2 b = some (.tup xs) := fun b xs z => by rwa [upd_ne (ne_of z stands (by simp))] at z
  have code3 : upd H2 d (.frz o (.dT kvs)) c' = some (CodeO c' (X.env.qual ++ "<lambda>")) := (upd_ne (ne_of codeAt atD2 (by unfold CodeO; simp))).trans codeAt
  obtain ⟨here, whole⟩ := inv3.hok d _ stands
  obtain ⟨notSys, o', es, ep, here', isD, data, len, all⟩ := entries_of whole
  obtain rfl := Option.some.inj (here.symm.trans here')
  have old : d < s2.heap.objs.size := Heap.lt_size here
  have capt := Caps.made (fr := fr) (js := js) inv3.ok caught isFree slots
  refine call_min_walkK (iter_keys notSys here isD data ?_)
  have iter0 : (s2.heap.push { cls := .type "dict_keyiterator", data := .fields #[.ref d, .int 0 0, .int es.size 0, .int ep 0] }).IsKeyIter s2.heap.objs.size d 0 es.size ep := ⟨_, Heap.get?_push_size _ rfl, rfl, rfl⟩
  have size : (s2.heap.push { cls := .type "dict_keyiterator", data := .fields #[.ref d, .int 0 0, .int es.size 0, .int ep 0] }).objs.size = s2.heap.objs.size + 1 := Heap.size_push ..
  have lamOld : f < s2.heap.objs.size := Heap.lt_size lamAt
  have quiet : ∀ b ∈ [(s2.heap.objs.size + 1 : Nat), s2.heap.objs.size], FpOk X pins (upd H2 d (.frz o (.dT kvs))) b := fun b hb => by
    have le : s2.heap.objs.size ≤ b := by
      rw [List.mem_cons, List.mem_singleton] at hb
      rcases hb with z | z
      · rw [z]; exact Nat.le_succ _
      · rw [z]; exact Nat.le_refl _
    exact inv3.fpOk le (other b (inv2.hok.fresh le))
  refine ⟨s2.heap.objs.size, _, _, _, _, _, _, (fun s' => Inv X pins σ (upd H2 d (.frz o (.dT kvs))) s' ∧ s'.heap.get? f = s2.heap.get? f), (fun i v _ => ∃ t, v = .int (cost i) t), (fun i j => decide ((cost i : Int) < cost j)), rfl,
    (keys_walk (A := X.A.in1) (inv3.ok.hd calm) (Nat.ne_of_lt old) data).toS, ⟨iter0, Heap.get?_push_of_some _ here⟩, ?_, by omega, ?_, ⟨inv3.kept fun b o' e => Heap.get?_push_of_some _ e, (Heap.get?_push_of_some _ lamAt).trans lamAt.symm⟩, ?_⟩
  · intro b hb
    rw [size]
    rw [List.mem_cons, List.mem_singleton] at hb
    rcases hb with z | z
    · rw [z]; exact Nat.lt_succ_self _
    · rw [z]; exact Nat.lt_succ_of_lt old
  · rw [size]
    refine ⟨?_, fun i v s s' z _ => z, ?_, ?_⟩
    · rintro sa ⟨g, gens, drawn, tk, os⟩ ⟨invA, lamA⟩ ⟨stay, rfl, rfl, rfl, _⟩
      have off : ∀ b o', b ∉ [(s2.heap.objs.size + 1 : Nat), s2.heap.objs.size] → sa.heap.get? b = some o' → g.get? b = some o' := stay
      refine ⟨invA.turnedL off quiet, ?_⟩
      rw [lamAt] at lamA ⊢
      refine off f _ (fun z => ?_) lamA
      simp only [List.mem_cons, List.not_mem_nil, or_false] at z
      rcases z with z | z
      · exact absurd (z ▸ lamOld : (s2.heap.objs.size + 1 : Nat) < s2.heap.objs.size) (by omega)
      · exact absurd (z ▸ lamOld) (Nat.lt_irrefl _)
    · rintro i v sa oS Qa Ea lt ⟨_, rfl⟩ ⟨invA, lamA⟩ ⟨iterA, dictA⟩ bestA goOn
      obtain ⟨q, isKey, tup, _⟩ := all i _ _ (List.getElem?_eq_getElem (by omega : i < kvs.length))
      rw [isKey]
      have keep : ∀ {H' : Hp} {g : Heap}, Un (frs X.stack) [] (upd H2 d (.frz o (.dT kvs))) H' sa.heap g → ∀ b o', b ∈ [(s2.heap.objs.size + 1 : Nat), s2.heap.objs.size] → sa.heap.get? b = some o' → g.get? b = some o' := fun {H' g} un b o' hb e => by
        obtain ⟨free, notL, notF, _⟩ := quiet b hb
        exact un.keep b o' e free (fun z => (List.mem_cons.mp (invA.stkSub b z)).elim notL notF) List.not_mem_nil
      have run := lam_call (CX := L2.CX0) (E := L2.E0) (P := X.prog) (w := X.w) (K := X.K) (mg := X.mg) (base := X.base) (F := ⟨"<lambda>", X.env.qual ++ "<lambda>", params, [], scope, cloFrom X.env.cells scope.names [], c'⟩) (Q := fun y H' => y = nv (cost i) ∧ H' = upd H2 d (.frz o (.dT kvs)))
        (us := [.ref q]) (vs := [.ref q]) S room.in1 invA.env0.in1 (lamA.trans lamAt) code3 (cells_of invA capt) (.cons rfl .nil) rfl (bind _ _ _ _ _ _) fun room' => ⟨tb, inner _ _ _ _ _ _ room', asks o i _ _ q (List.getElem?_eq_getElem (by omega)) (tup3 q _ tup)⟩
      refine wpAny_call (codeAny_mono run fun res sb out => ?_)
      match res, out with
      | .ok (.ret u), out =>
        obtain ⟨y, H', invB, relB, rfl, rfl⟩ := invA.after out
        obtain ⟨_, _, _, _, un, held, _, _, hH⟩ := out
        subst hH
        obtain ⟨t, rfl⟩ := relB
        refine goOn _ sb ⟨invB, ?_⟩ ⟨iterA.at fun o' e => keep un _ o' (by simp) e, (held d _ stands).1⟩ (keep un _ _ (by simp) bestA) ⟨t, rfl⟩ fun j k' z => z
        rw [lamAt] at lamA ⊢
        exact un.keep f _ lamA (other f lamFree) lamFr List.not_mem_nil
      | .error e, out => exact (show False from out).elim
    · rintro i j ki kj sa Qa Ea _ ⟨t, rfl⟩ ⟨t', rfl⟩ q
      exact Ob.RcOp.lt_int _ _ _ _ X.prog X.w Ea Qa q
  · rintro v sb ⟨lt, rfl⟩ ⟨invB, _⟩
    generalize best : argBest (fun i j => decide ((cost i : Int) < cost j)) (es.size - 1) = n at lt
    obtain ⟨q, isKey, tup, _⟩ := all n _ _ (List.getElem?_eq_getElem (by omega : n < kvs.length))
    have back := invB.unlock stands unlocked
    rw [upd_back atD2] at back
    obtain ⟨b1, b2⟩ := argBest_lt (fun i => (cost i : Int)) (es.size - 1)
    refine ⟨.ref q, H2, back, isKey, tells n _ _ q (List.getElem?_eq_getElem (by omega)) (tup3 q _ tup) fun j hj => ?_⟩
    have z := b2 j (by omega)
    rw [best] at z
    omega
end Tk
namespace Tk
open L2 LamX PySem PySem.Spec PyProof.Rows
open PySem.W (Codec WData OpenSpec WellAll ReadsW)
/-! The end of a row whose program makes a lambda: one code table, at tb, is tracked from the start. -/
/-- what is tracked ahead of the first call: lists, tuples, an empty table -/
def Only1 (h : Heap) (H : Hp) : Prop := ∀ b u, H b = some u → ∃ o : Obj, h.get? b = some o ∧ ((∃ vs n, o.data = .seq vs n) ∨ o.data = .fields #[])
section
variable {h : Heap} {H : Hp} {b : Addr} {o : Obj}
theorem Only1.shown (x : Only1 h H) (here : h.get? b = some o) (noSeq : ∀ vs n, o.data ≠ .seq vs n) (noTab : o.data ≠ .fields #[]) : (hidT h H).get? b = some o := by
  refine hidT_get here ?_
  match e : H b with
  | none => rfl
  | some u =>
    obtain ⟨o', there, kind⟩ := x b u e
    obtain rfl : o' = o := Option.some.inj (there.symm.trans here)
    exact (kind.elim (fun ⟨vs, n, d⟩ => noSeq vs n d) noTab).elim
theorem Only1.names {m : Str → Option Value} (x : Only1 h H) (n : h.Ns b m) : (hidT h H).Ns b m := by
  obtain ⟨o, es, ep, here, d, more⟩ := n
  exact ⟨o, es, ep, x.shown here (by simp [d]) (by simp [d]), d, more⟩
theorem Only1.table {q : Program} {loose : List Str} {mean : ExcName → Option Value} {mg mb : Str → Option Value} {c tb : Addr} (x : Only1 h H) (T : Top q loose mean mg mb h) (hd : PySem.W.CodeHd h c tb) (empty : h.get? tb = some (PySem.W.tabObj #[])) : TabB (hidT h H) mg c tb := by
  refine ⟨?_, ?_, ?_⟩
  · obtain ⟨oc, vs, f1, f2, f3, f4, f5, f6, f7, here, isCode, d, slot, more⟩ := hd
    refine ⟨oc, vs, f1, f2, f3, f4, f5, f6, f7, x.shown here (by simp [d]) ?_, isCode, d, slot, more⟩
    rw [d]
    rintro ⟨⟩
    cases slot
  · obtain ⟨bm, ob, isB, off, here, isMod, itsDict, plain⟩ := T.bmain
    refine ⟨bm, ob, isB, off, ?_, ?_, x.shown here (by simp [plain]) (by simp [plain]), isMod, itsDict, plain⟩
    · rintro rfl
      obtain ⟨o2, es, ep, there, d, _⟩ := T.g
      rw [Option.some.inj (here.symm.trans there), d] at plain
      cases plain
    · rintro rfl
      rw [Option.some.inj (here.symm.trans empty)] at plain
      cases plain
  · rintro rfl
    obtain ⟨o2, es, ep, there, d, _⟩ := T.g
    rw [← Option.some.inj (empty.symm.trans there)] at d
    cases d
end
/-- what is to be known of the row's def where its top has run -/
def Known1 (r : OpenSpec) (w : World) (K : PySem.W.Frag) (CX : CXT) (k : Nat) (ps : List Str) (mg : Str → Option Value) (fa : Addr) (h : Heap) : Prop :=
  ∃ (fd : FuncData) (c tb : Addr) (sp : Sp), PySem.W.CodeHd h c tb ∧ h.get? tb = some (PySem.W.tabObj #[]) ∧ K.lookup tb = none ∧
    (∀ (s : Shared) (us : List Value), us.length = ps.length → BindsTo s fd ⟨us, []⟩ (ps.zip us)) ∧
    (∀ base : Heap, K.In base → base.Ns mainGlobals mg → TabB base mg c tb → FnOk r.prog w K mg base CX k fa fd ps sp) ∧
    ∀ (H0 : Hp) (xs : List V) (a : Codec.denoteAll r.args), OnlyF H0 → H0 tb = none → Codec.withinAll r.args a = true → Codec.app r.args r.asked a = true → DwAll K H0 xs (Codec.encAll r.args a) →
      sp xs (upd H0 tb (.tbl #[])) (fun v H' => Dw K H' v (r.ret.enc (Codec.app r.args r.f a))) fun _ _ _ => False
theorem walk1 {r : OpenSpec} {k : Nat} {q : Program} {loose : List Str} {XP : (Str → Option Value) → Heap → Prop} {YP : World → Heap → Prop} {d : DefRec} {Kf : Params → PySem.W.Frag} {CX : CXT} {ps : List Str}
    (said : r.wellSaid = true) (arity : r.args.length = ps.length) (room : Room k callerA) (know : ∀ (w : World) (h : Heap), YP w h → (Kf w.params).In h)
    (tell : ∀ (w : World) (mean : ExcName → Option Value) (mg mb : Str → Option Value) (fa : Addr) (h : Heap), Top q (PySem.W.looseW q loose) mean mg mb h → YP w h → (Kf w.params).In h → mg d.name = some (.ref fa) → Known1 r w (Kf w.params) CX k ps mg fa h)
    (quiet : ∀ (H : Hp) (s : Shared) (e : Value) (s' : Shared), CX [] H s (fun _ _ _ => False) e s' → False) : PySem.W.WalkOS q loose XP YP r d [] fun f vs => PySem.call f vs := by
  intro w first s mg mb ground at_ fa _ _ _ _ _ _ _ _ _ _ named noGens args vals _ pre lay _ laid _
  obtain ⟨a, dec, asked⟩ := PySem.W.os_pre_some pre
  obtain ⟨rfl, within⟩ := Codec.encAll_of_decAll r.args args a dec
  have T := ground.T
  have inK := know w s.heap at_
  obtain ⟨fd, c, tb, sp, code, empty, notK, binds, ok, promise⟩ := tell w _ mg mb fa s.heap T at_ inK named
  obtain ⟨area, isArg, argOb⟩ := area_all _ vals laid (pl_encAll r.args a) (layable_weight lay)
  have told := dw_all inK argOb _ vals laid (pl_encAll r.args a) isArg
  have only := argH_only (K := Kf w.params) argOb
  have held := argH_ok (K := Kf w.params) (P := r.prog) (w := w) argOb
  have seqs : ∀ b u, argH (Kf w.params) s.heap area b = some u → (Kf w.params).lookup b = none ∧ ∃ o : Obj, s.heap.get? b = some o ∧ ∃ vs n, o.data = .seq vs n := fun b u e => by
    obtain ⟨off, vs, _, _, p | p⟩ := argH_is argOb e
    · exact ⟨off, _, p.1, _, _, rfl⟩
    · exact ⟨off, _, p.1, _, _, rfl⟩
  generalize argH (Kf w.params) s.heap area = H0 at told only held seqs
  have tbFree : H0 tb = none := by
    match e : H0 tb with
    | none => rfl
    | some u =>
      obtain ⟨_, o, here, vs, n, isSeq⟩ := seqs tb u e
      rw [Option.some.inj (here.symm.trans empty)] at isSeq
      cases isSeq
  have split : ∀ {b u}, upd H0 tb (.tbl #[]) b = some u → (b = tb ∧ u = .tbl #[]) ∨ (b ≠ tb ∧ H0 b = some u) := fun {b u} e => by
    by_cases eb : b = tb
    · rw [eb, upd_same] at e
      exact .inl ⟨eb, (Option.some.inj e).symm⟩
    · rw [upd_ne eb] at e
      exact .inr ⟨eb, e⟩
  have grow : ∀ b u, H0 b = some u → upd H0 tb (.tbl #[]) b = some u := fun b u e => (upd_ne (ne_of_none e tbFree)).trans e
  have lay1 : Only1 s.heap (upd H0 tb (.tbl #[])) := fun b u e => by
    rcases split e with ⟨rfl, _⟩ | ⟨_, e⟩
    · exact ⟨_, empty, .inr rfl⟩
    · obtain ⟨_, o, here, isSeq⟩ := seqs b u e
      exact ⟨o, here, .inl isSeq⟩
  have held1 : HOk r.prog w (upd H0 tb (.tbl #[])) s.heap := fun b u e => by
    rcases split e with ⟨rfl, rfl⟩ | ⟨_, e⟩
    · exact empty
    · exact (held b u e).stay (fun _ _ _ p => p) (fun _ p => grow _ _ p) fun _ _ p => grow _ _ p
  have inBase : (Kf w.params).In (hidT s.heap (upd H0 tb (.tbl #[]))) := fun b o e => hidT_get (inK b o e) (by
    match p : upd H0 tb (.tbl #[]) b with
    | none => rfl
    | some u =>
      rcases split p with ⟨rfl, _⟩ | ⟨_, p⟩
      · cases notK.symm.trans e
      · cases (seqs b u p).1.symm.trans e)
  have start : Env0 r.prog w (Kf w.params) mg (hidT s.heap (upd H0 tb (.tbl #[]))) callerA [] s (upd H0 tb (.tbl #[])) := by
    obtain ⟨mc, lim1, lim2⟩ := T.nolimit
    refine ⟨rfl, ⟨inBase, lay1.names T.g, ⟨mb, lay1.names T.b, T.builtins⟩, mc, lay1.names lim1, lim2⟩, fun b o e => of_hidT e, Nat.le_of_eq (hidT_size _ _), trivial, ?_, held1, .of_eq noGens⟩
    intro b e
    cases e
  have few : vals.length = ps.length := (wellAll_len laid).trans ((encAll_len r.args a).trans arity)
  have run := (ok _ inBase (lay1.names T.g) (lay1.table T code empty)).run callerA [] s _ ⟨vals, []⟩ vals _ _ _ room start (binds s vals few) (vals_toV isArg) (promise H0 _ a only tbFree within asked told)
  refine PySem.W.enter_call (codeAny_mono run fun res s' out => ?_)
  match res, out with
  | .error e, out => exact (quiet _ s e s' out).elim
  | .ok (.ret u), ⟨v, H', os, bare, un, held', rel, ans⟩ =>
    have stays : ∀ b o, b ≠ tb → s.heap.get? b = some o → s'.heap.get? b = some o := fun b o off here => by
      match e : upd H0 tb (.tbl #[]) b with
      | none => exact un.keep b o here e List.not_mem_nil List.not_mem_nil
      | some u =>
        rcases split e with ⟨z, _⟩ | ⟨_, e0⟩
        · exact (off z).elim
        · rcases only b with z | ⟨ob, u2, z⟩
          · cases z.symm.trans e0
          · have z1 := grow b _ z
            have before := (held1 b _ z1).1
            have after := (held' b _ (un.frzs b ob u2 z1)).1
            rw [here] at before
            cases before
            exact after
    obtain ⟨more, grown⟩ := un.tbls tb #[] upd_same
    have after : s'.heap.get? tb = some (PySem.W.tabObj (#[] ++ more)) := held' tb _ grown
    have inK' : (Kf w.params).In s'.heap := fun b o e => stays b o (by rintro rfl; cases notK.symm.trans e) (inK b o e)
    obtain ⟨as', reads⟩ := Dw.reads (R := []) (cl := classAt first.heap) held' inK' _ v u ans rel
    refine ⟨.inl ⟨u, _, as', rfl, fun _ => rfl, reads, (OpenSpec.post_iff said within _ _).mpr rfl, fun z => by cases z⟩, ⟨fun b o here => ?_, fun b o here => ?_⟩, os, bare⟩
    · by_cases eb : b = tb
      · subst eb
        obtain rfl := Option.some.inj (here.symm.trans empty)
        exact .inr (.inl ⟨(code.tab empty).isCodeTable, rfl, #[], more, rfl, after⟩)
      · exact .inl (stays b o eb here)
    · by_cases eb : b = tb
      · subst eb
        exact ⟨_, after⟩
      · exact ⟨o, stays b o eb here⟩
end Tk
namespace Tk
open Pn06

/-- the state behind a row of acts -/
def walk (t : Task) : State → List Nat → Option State
  | u, [] => some u
  | u, k :: l => match t.then_ u k with
    | some v => walk t v l
    | none => none

theorem walk_append (t : Task) : ∀ (l m : List Nat) (u : State), walk t u (l ++ m) = match walk t u l with
    | some v => walk t v m
    | none => none
  | [], _, _ => rfl
  | k :: l, m, u => by
    simp only [List.cons_append, walk]
    cases t.then_ u k with
    | none => rfl
    | some v => exact walk_append t l m v

theorem walk_snoc (t : Task) (l : List Nat) (k : Nat) (u : State) : walk t u (l ++ [k]) = match walk t u l with
    | some v => t.then_ v k
    | none => none := by
  rw [walk_append]
  cases walk t u l with
  | none => rfl
  | some v =>
    show (match t.then_ v k with | some w => some w | none => none) = t.then_ v k
    cases t.then_ v k <;> rfl

theorem sum_from : ∀ (l : List Nat) (a : Nat), l.foldl (fun a b => a + b) a = a + sum l
  | [], a => rfl
  | x :: l, a => by
    show l.foldl (fun a b => a + b) (a + x) = a + l.foldl (fun a b => a + b) (0 + x)
    rw [sum_from l, sum_from l (0 + x)]
    omega
theorem sum_append (l m : List Nat) : sum (l ++ m) = sum l + sum m := by
  show (l ++ m).foldl (fun a b => a + b) 0 = _
  rw [List.foldl_append, sum_from m]
  rfl
theorem price_append (t : Task) (l m : List Nat) : t.price (l ++ m) = t.price l + t.price m := by
  simp only [Task.price, List.map_append, sum_append]
theorem price_one (t : Task) (k : Nat) : t.price [k] = (t.act k).cost := by
  show 0 + (t.act k).cost = _
  omega
theorem price_snoc (t : Task) (l : List Nat) (k : Nat) : t.price (l ++ [k]) = t.price l + (t.act k).cost := by
  rw [price_append, price_one]
theorem price_nil (t : Task) : t.price [] = 0 := rfl

/-- amounts within rooms, as many -/
def OkIn : List Nat → List Nat → Prop
  | [], [] => True
  | r :: rs, x :: xs => x ≤ r ∧ OkIn rs xs
  | _, _ => False
theorem OkIn.len : ∀ {rs xs : List Nat}, OkIn rs xs → xs.length = rs.length
  | [], [], _ => rfl
  | r :: rs, x :: xs, h => by simp [OkIn.len h.2]
  | [], _ :: _, h => h.elim
  | _ :: _, [], h => h.elim
theorem OkIn.snoc : ∀ {rs xs : List Nat} {r x : Nat}, OkIn rs xs → x ≤ r → OkIn (rs ++ [r]) (xs ++ [x])
  | [], [], _, _, _, h => ⟨h, trivial⟩
  | _ :: _, _ :: _, _, _, h, g => ⟨h.1, OkIn.snoc h.2 g⟩
  | [], _ :: _, _, _, h, _ => h.elim
  | _ :: _, [], _, _, h, _ => h.elim
theorem OkIn.unsnoc : ∀ {rs xs : List Nat} {r : Nat}, OkIn (rs ++ [r]) xs → ∃ ys x, xs = ys ++ [x] ∧ OkIn rs ys ∧ x ≤ r
  | [], [x], r, h => ⟨[], x, rfl, trivial, h.1⟩
  | [], [], _, h => h.elim
  | [], _ :: _ :: _, _, h => h.2.elim
  | _ :: _, [], _, h => h.elim
  | a :: rs, x :: xs, r, h => by
    obtain ⟨ys, y, e, o, g⟩ := OkIn.unsnoc h.2
    exact ⟨x :: ys, y, by rw [e]; rfl, ⟨h.1, o⟩, g⟩
theorem OkIn.get : ∀ {rs xs : List Nat} (i : Nat), OkIn rs xs → xs.getD i 0 ≤ rs.getD i 0
  | [], [], _, _ => by simp
  | r :: rs, x :: xs, 0, h => h.1
  | r :: rs, x :: xs, i + 1, h => by simpa using OkIn.get i h.2
  | [], _ :: _, _, h => h.elim
  | _ :: _, [], _, h => h.elim

structure Valid (t : Task) (u : State) : Prop where
  s : u.s < 2 ^ t.facts
  in_ : OkIn t.rooms u.in_

structure Wf (t : Task) : Prop where
  add : ∀ a ∈ t.acts, a.add < 2 ^ t.facts
  cost : ∀ a ∈ t.acts, 1 ≤ a.cost

theorem Wf.cost_pos {t : Task} (W : Wf t) (k : Nat) : 1 ≤ (t.act k).cost := by
  unfold Task.act
  by_cases h : k < t.acts.length
  · rw [List.getD_eq_getElem?_getD, List.getElem?_eq_getElem h]
    exact W.cost _ (List.getElem_mem h)
  · rw [List.getD_eq_getElem?_getD, List.getElem?_eq_none (by omega)]
    decide

theorem part_le {p : Part} {r x y : Nat} (h : p.then_ r x = some y) : y ≤ r := by
  unfold Part.then_ at h
  split at h
  · cases h
  · dsimp only at h
    split at h
    · cases h; assumption
    · split at h
      · cases h; omega
      · cases h

theorem parts_ok : ∀ {rs : List Nat} {ps : List Part} {xs ys : List Nat}, parts rs ps xs = some ys → OkIn rs ys
  | [], _, _, ys, h => by
    simp [parts] at h; subst h; trivial
  | _ :: _, [], xs, ys, h => by simp [parts] at h
  | _ :: _, _ :: _, [], ys, h => by simp [parts] at h
  | r :: rs, p :: ps, x :: xs, ys, h => by
    simp only [parts] at h
    split at h
    · rename_i y zs h1 h2
      cases h
      exact ⟨part_le h1, parts_ok h2⟩
    · cases h

theorem then_lt {t : Task} {u v : State} {k : Nat} (h : t.then_ u k = some v) : k < t.acts.length := by
  unfold Task.then_ at h
  dsimp only at h
  split at h
  · cases h
  · rename_i c; omega

theorem then_valid {t : Task} (W : Wf t) {u v : State} {k : Nat} (hu : u.s < 2 ^ t.facts) (h : t.then_ u k = some v) : Valid t v := by
  have hk := then_lt h
  unfold Task.then_ at h
  dsimp only at h
  split at h
  · cases h
  · cases q : parts t.rooms (t.act k).parts u.in_ with
    | none => rw [q] at h; cases h
    | some y =>
      rw [q] at h
      cases h
      refine ⟨?_, parts_ok q⟩
      refine Nat.or_lt_two_pow ?_ ?_
      · omega
      · apply W.add
        unfold Task.act
        rw [List.getD_eq_getElem?_getD, List.getElem?_eq_getElem hk]
        exact List.getElem_mem hk

theorem walk_valid {t : Task} (W : Wf t) : ∀ {l : List Nat} {u v : State}, Valid t u → walk t u l = some v → Valid t v
  | [], u, v, hu, h => by cases h; exact hu
  | k :: l, u, v, hu, h => by
    simp only [walk] at h
    cases q : t.then_ u k with
    | none => rw [q] at h; cases h
    | some w =>
      rw [q] at h
      exact walk_valid W (then_valid W hu.s q) h

/-! states in numbers -/
def codeOf (rs : List Nat) (s : Nat) (xs : List Nat) : Nat := (rs.zip xs).foldl (fun n x => n * (x.1 + 1) + x.2) s
def manyOf (rs : List Nat) (m : Nat) : Nat := rs.foldl (fun n r => n * (r + 1)) m
theorem codeOf_snoc {rs xs : List Nat} (r s x : Nat) (h : xs.length = rs.length) : codeOf (rs ++ [r]) s (xs ++ [x]) = codeOf rs s xs * (r + 1) + x := by
  unfold codeOf
  rw [List.zip_append h.symm, List.foldl_append]
  rfl
theorem manyOf_snoc (rs : List Nat) (r m : Nat) : manyOf (rs ++ [r]) m = manyOf rs m * (r + 1) := by
  unfold manyOf
  rw [List.foldl_append]
  rfl
theorem decodes_ok : ∀ (rs : List Nat) (n m : Nat), OkIn rs.reverse (decodes rs n).2 ∧ codeOf rs.reverse (decodes rs n).1 (decodes rs n).2 = n ∧ (n < manyOf rs.reverse m → (decodes rs n).1 < m)
  | [], n, m => ⟨trivial, rfl, fun h => h⟩
  | r :: rs, n, m => by
    obtain ⟨h1, h2, h3⟩ := decodes_ok rs (n / (r + 1)) m
    simp only [List.reverse_cons, decodes]
    refine ⟨OkIn.snoc h1 (by have := Nat.mod_lt n (show r + 1 > 0 by omega); omega), ?_, ?_⟩
    · rw [codeOf_snoc _ _ _ h1.len, h2]
      have := Nat.div_add_mod n (r + 1)
      rw [Nat.mul_comm] at this
      exact this
    · intro h
      rw [manyOf_snoc] at h
      exact h3 ((Nat.div_lt_iff_lt_mul (by omega)).mpr h)
theorem code_ok : ∀ (rs : List Nat) (s m : Nat) (xs : List Nat), OkIn rs.reverse xs → decodes rs (codeOf rs.reverse s xs) = (s, xs) ∧ (s < m → codeOf rs.reverse s xs < manyOf rs.reverse m)
  | [], s, m, xs, h => by
    cases xs with
    | nil => exact ⟨rfl, fun h => h⟩
    | cons => exact h.elim
  | r :: rs, s, m, xs, h => by
    simp only [List.reverse_cons] at h ⊢
    obtain ⟨ys, x, rfl, h1, h2⟩ := OkIn.unsnoc h
    obtain ⟨e1, e2⟩ := code_ok rs s m ys h1
    rw [codeOf_snoc _ _ _ h1.len, manyOf_snoc]
    constructor
    · simp only [decodes]
      have d1 : (codeOf rs.reverse s ys * (r + 1) + x) / (r + 1) = codeOf rs.reverse s ys := by
        rw [Nat.mul_comm, Nat.mul_add_div (by omega), Nat.div_eq_of_lt (by omega)]; rfl
      have d2 : (codeOf rs.reverse s ys * (r + 1) + x) % (r + 1) = x := by
        rw [Nat.mul_comm, Nat.mul_add_mod]; exact Nat.mod_eq_of_lt (by omega)
      rw [d1, d2, e1]
    · intro hs
      have := e2 hs
      calc codeOf rs.reverse s ys * (r + 1) + x < codeOf rs.reverse s ys * (r + 1) + (r + 1) := by omega
        _ = (codeOf rs.reverse s ys + 1) * (r + 1) := by rw [Nat.add_mul]; omega
        _ ≤ manyOf rs.reverse m * (r + 1) := Nat.mul_le_mul_right _ this

theorem state_valid {t : Task} {n : Nat} (h : n < t.many) : Valid t (t.state n) := by
  have q := decodes_ok t.rooms.reverse n (2 ^ t.facts)
  rw [List.reverse_reverse] at q
  exact ⟨q.2.2 h, q.1⟩
theorem code_state (t : Task) (n : Nat) : t.code (t.state n) = n := by
  have q := decodes_ok t.rooms.reverse n (2 ^ t.facts)
  rw [List.reverse_reverse] at q
  exact q.2.1
theorem state_code {t : Task} {u : State} (h : Valid t u) : t.state (t.code u) = u := by
  have q := code_ok t.rooms.reverse u.s (2 ^ t.facts) u.in_ (by rw [List.reverse_reverse]; exact h.in_)
  rw [List.reverse_reverse] at q
  have e := q.1
  show State.mk (decodes t.rooms.reverse (codeOf t.rooms u.s u.in_)).1 (decodes t.rooms.reverse (codeOf t.rooms u.s u.in_)).2 = u
  rw [e]
theorem code_lt {t : Task} {u : State} (h : Valid t u) : t.code u < t.many := by
  have q := code_ok t.rooms.reverse u.s (2 ^ t.facts) u.in_ (by rw [List.reverse_reverse]; exact h.in_)
  rw [List.reverse_reverse] at q
  exact q.2 h.s
theorem code_inj {t : Task} {u v : State} (hu : Valid t u) (hv : Valid t v) (e : t.code u = t.code v) : u = v := by
  rw [← state_code hu, ← state_code hv, e]
end Tk
namespace Tk
open Pn06

/-- what is known of n is no worse than e -/
def Dom (d : Array Known) (n : Nat) (e : Nat × List Nat) : Prop := ∃ o, at_ d n = some o ∧ Le o e
theorem Dom.le {d : Array Known} {n : Nat} {e f : Nat × List Nat} (h : Dom d n e) (g : Le e f) : Dom d n f := by
  obtain ⟨o, h1, h2⟩ := h
  exact ⟨o, h1, h2.trans g⟩

def ext (t : Task) (o : Nat × List Nat) (k : Nat) : Nat × List Nat := (o.1 + (t.act k).cost, o.2 ++ [k])
theorem ext_le {t : Task} {a b : Nat × List Nat} (k : Nat) (h : Le a b) : Le (ext t a k) (ext t b k) := h.snoc _ _
/-- a row of acts with its price -/
def paid (t : Task) (l : List Nat) : Nat × List Nat := (t.price l, l)
theorem paid_snoc (t : Task) (l : List Nat) (k : Nat) : paid t (l ++ [k]) = ext t (paid t l) k := by
  unfold paid ext
  rw [price_snoc]

theorem at_set_self {d : Array Known} {n : Nat} {e : Known} (h : n < d.size) : at_ (d.setIfInBounds n e) n = e := by
  simp [at_, Array.getD_eq_getD_getElem?, h]
theorem at_set_ne {d : Array Known} {n m : Nat} {e : Known} (h : n ≠ m) : at_ (d.setIfInBounds m e) n = at_ d n := by
  simp [at_, Array.getD_eq_getD_getElem?, Ne.symm h]
theorem at_lt {d : Array Known} {n : Nat} {o : Nat × List Nat} (h : at_ d n = some o) : n < d.size := by
  by_cases q : n < d.size
  · exact q
  · simp [at_, Array.getD_eq_getD_getElem?, q] at h

/-- one act on from one state -/
def rstep (t : Task) (x : Array Known × List Nat) (p : Nat × Nat) : Array Known × List Nat := match at_ x.1 p.1, t.then_ (t.state p.1) p.2 with
  | some c, some v => let m := t.code v
    let e := (c.1 + (t.act p.2).cost, c.2 ++ [p.2])
    (match at_ x.1 m with
      | none => (x.1.setIfInBounds m (some e), x.2 ++ [m])
      | some o => if better e o = true then (x.1.setIfInBounds m (some e), if x.2.contains m = true then x.2 else x.2 ++ [m]) else x)
  | _, _ => x
theorem round_eq (t : Task) (d : Array Known) (new : List Nat) : t.round d new = (new.flatMap fun n => (List.range t.acts.length).map fun k => (n, k)).foldl (rstep t) (d, []) := rfl

/-- what one such step does -/
theorem rstep_cases (t : Task) (x : Array Known × List Nat) (p : Nat × Nat) :
    (rstep t x p = x ∧ (∀ c v, at_ x.1 p.1 = some c → t.then_ (t.state p.1) p.2 = some v → Dom x.1 (t.code v) (ext t c p.2))) ∨
    (∃ c v, at_ x.1 p.1 = some c ∧ t.then_ (t.state p.1) p.2 = some v ∧ (rstep t x p).1 = x.1.setIfInBounds (t.code v) (some (ext t c p.2)) ∧
      t.code v ∈ (rstep t x p).2 ∧ (∀ n ∈ x.2, n ∈ (rstep t x p).2) ∧ (∀ o, at_ x.1 (t.code v) = some o → better (ext t c p.2) o = true)) := by
  unfold rstep
  cases h1 : at_ x.1 p.1 with
  | none => exact .inl ⟨rfl, fun c v h => by cases h⟩
  | some c =>
    cases h2 : t.then_ (t.state p.1) p.2 with
    | none => exact .inl ⟨rfl, fun c v _ h => by cases h⟩
    | some v =>
      dsimp only
      cases h3 : at_ x.1 (t.code v) with
      | none =>
        refine .inr ⟨c, v, rfl, rfl, rfl, by simp, fun n hn => by simp [hn], fun o h => by rw [h3] at h; cases h⟩
      | some o =>
        dsimp only
        by_cases h4 : better (c.1 + (t.act p.2).cost, c.2 ++ [p.2]) o = true
        · rw [if_pos h4]
          refine .inr ⟨c, v, rfl, rfl, rfl, ?_, ?_, fun o' h => by rw [h3] at h; cases h; exact h4⟩
          · dsimp only
            split
            · rename_i q; simpa using q
            · simp
          · intro n hn
            dsimp only
            split
            · exact hn
            · simp [hn]
        · rw [if_neg h4]
          refine .inl ⟨rfl, fun c' v' e1 e2 => ?_⟩
          cases e1; cases e2
          exact ⟨o, h3, by simpa [Le, ext] using h4⟩

structure Base (t : Task) (u : State) (d : Array Known) : Prop where
  size : d.size = t.many
  real : ∀ n o, at_ d n = some o → o = paid t o.2 ∧ walk t u o.2 = some (t.state n)

structure Inv (t : Task) (u : State) (d0 : Array Known) (todo : List (Nat × Nat)) (x : Array Known × List Nat) : Prop where
  base : Base t u x.1
  mono : ∀ n o, at_ d0 n = some o → Dom x.1 n o
  old : ∀ n o k v, at_ d0 n = some o → t.then_ (t.state n) k = some v → (n, k) ∈ todo ∨ Dom x.1 (t.code v) (ext t o k)
  cur : ∀ n o k v, at_ x.1 n = some o → t.then_ (t.state n) k = some v → n ∈ x.2 ∨ (n, k) ∈ todo ∨ Dom x.1 (t.code v) (ext t o k)

theorem Inv.step {t : Task} (W : Wf t) {u : State} {d0 : Array Known} {p : Nat × Nat} {todo : List (Nat × Nat)} {x : Array Known × List Nat} (I : Inv t u d0 (p :: todo) x) : Inv t u d0 todo (rstep t x p) := by
  rcases rstep_cases t x p with ⟨e, h⟩ | ⟨c, v, h1, h2, e1, h3, h4, h5⟩
  · rw [e]
    refine ⟨I.base, I.mono, fun n o k v h1 h2 => ?_, fun n o k v h1 h2 => ?_⟩
    · rcases I.old n o k v h1 h2 with q | q
      · rcases List.mem_cons.mp q with q | q
        · obtain ⟨rfl, rfl⟩ : n = p.1 ∧ k = p.2 := by rw [← q]; exact ⟨rfl, rfl⟩
          obtain ⟨c, hc, g⟩ := I.mono _ o h1
          exact .inr ((h c v hc h2).le (ext_le _ g))
        · exact .inl q
      · exact .inr q
    · rcases I.cur n o k v h1 h2 with q | q | q
      · exact .inl q
      · rcases List.mem_cons.mp q with q | q
        · obtain ⟨rfl, rfl⟩ : n = p.1 ∧ k = p.2 := by rw [← q]; exact ⟨rfl, rfl⟩
          exact .inr (.inr (h o v h1 h2))
        · exact .inr (.inl q)
      · exact .inr (.inr q)
  · have hn : p.1 < t.many := by rw [← I.base.size]; exact at_lt h1
    have hv : Valid t v := then_valid W (state_valid hn).s h2
    have hm : t.code v < x.1.size := by rw [I.base.size]; exact code_lt hv
    have self : at_ (rstep t x p).1 (t.code v) = some (ext t c p.2) := by rw [e1]; exact at_set_self hm
    have other : ∀ n, n ≠ t.code v → at_ (rstep t x p).1 n = at_ x.1 n := fun n q => by rw [e1]; exact at_set_ne q
    have up : ∀ n o, Dom x.1 n o → Dom (rstep t x p).1 n o := by
      rintro n o ⟨a, ha, hl⟩
      by_cases q : n = t.code v
      · subst q
        exact ⟨_, self, Le.trans (better_asymm (h5 a ha)) hl⟩
      · exact ⟨a, by rw [other n q]; exact ha, hl⟩
    have here : Dom (rstep t x p).1 (t.code v) (ext t c p.2) := ⟨_, self, Le.refl _⟩
    refine ⟨⟨by rw [e1, Array.size_setIfInBounds]; exact I.base.size, ?_⟩, fun n o q => up _ _ (I.mono n o q), fun n o k v' g1 g2 => ?_, fun n o k v' g1 g2 => ?_⟩
    · intro n o q
      by_cases w : n = t.code v
      · subst w
        rw [self] at q
        cases q
        obtain ⟨r1, r2⟩ := I.base.real _ _ h1
        refine ⟨?_, ?_⟩
        · show ext t c p.2 = paid t (c.2 ++ [p.2])
          rw [paid_snoc, ← r1]
        · show walk t u (c.2 ++ [p.2]) = _
          rw [walk_snoc, r2, state_code hv]
          exact h2
      · rw [other n w] at q
        exact I.base.real n o q
    · rcases I.old n o k v' g1 g2 with q | q
      · rcases List.mem_cons.mp q with q | q
        · obtain ⟨rfl, rfl⟩ : n = p.1 ∧ k = p.2 := by rw [← q]; exact ⟨rfl, rfl⟩
          have ev : v = v' := Option.some.inj (h2.symm.trans g2)
          subst ev
          obtain ⟨c', hc', g⟩ := I.mono _ o g1
          have ec : c = c' := Option.some.inj (h1.symm.trans hc')
          subst ec
          exact .inr (here.le (ext_le _ g))
        · exact .inl q
      · exact .inr (up _ _ q)
    · by_cases w : n = t.code v
      · subst w; exact .inl h3
      · rw [other n w] at g1
        rcases I.cur n o k v' g1 g2 with q | q | q
        · exact .inl (h4 n q)
        · rcases List.mem_cons.mp q with q | q
          · obtain ⟨rfl, rfl⟩ : n = p.1 ∧ k = p.2 := by rw [← q]; exact ⟨rfl, rfl⟩
            have ev : v = v' := Option.some.inj (h2.symm.trans g2)
            have ec : c = o := Option.some.inj (h1.symm.trans g1)
            subst ev; subst ec
            exact .inr (.inr here)
          · exact .inr (.inl q)
        · exact .inr (.inr (up _ _ q))

theorem Inv.fold {t : Task} (W : Wf t) {u : State} {d0 : Array Known} : ∀ (todo : List (Nat × Nat)) (x : Array Known × List Nat), Inv t u d0 todo x → Inv t u d0 [] (todo.foldl (rstep t) x)
  | [], _, I => I
  | _ :: todo, _, I => Inv.fold W todo _ (I.step W)

/-- what holds behind j rounds -/
structure Sett (t : Task) (u : State) (j : Nat) (d : Array Known) (new : List Nat) : Prop where
  base : Base t u d
  short : ∀ l v, l.length ≤ j → walk t u l = some v → Dom d (t.code v) (paid t l)
  rel : ∀ n o k v, at_ d n = some o → t.then_ (t.state n) k = some v → n ∈ new ∨ Dom d (t.code v) (ext t o k)

theorem Sett.round {t : Task} (W : Wf t) {u : State} (hu : Valid t u) {j : Nat} {d : Array Known} {new : List Nat} (S : Sett t u j d new) : Sett t u (j + 1) (t.round d new).1 (t.round d new).2 := by
  have I0 : Inv t u d (new.flatMap fun n => (List.range t.acts.length).map fun k => (n, k)) (d, []) := by
    refine ⟨S.base, fun n o h => ⟨o, h, Le.refl _⟩, fun n o k v h1 h2 => ?_, fun n o k v h1 h2 => .inr ?_⟩ <;>
    · rcases S.rel n o k v h1 h2 with q | q
      · exact .inl (List.mem_flatMap.mpr ⟨n, q, List.mem_map.mpr ⟨k, List.mem_range.mpr (then_lt h2), rfl⟩⟩)
      · exact .inr q
  have I := Inv.fold W _ _ I0
  rw [← round_eq] at I
  refine ⟨I.base, fun l v hl hw => ?_, fun n o k v h1 h2 => ?_⟩
  · by_cases q : l.length ≤ j
    · obtain ⟨o, h1, h2⟩ := S.short l v q hw
      exact (I.mono _ _ h1).le h2
    · obtain ⟨m, k, rfl⟩ : ∃ m k, l = m ++ [k] := by
        refine ⟨l.dropLast, l.getLast (by intro e; subst e; simp at q), ?_⟩
        rw [List.dropLast_concat_getLast]
      rw [walk_snoc] at hw
      cases g : walk t u m with
      | none => rw [g] at hw; cases hw
      | some z =>
        rw [g] at hw
        have hz := walk_valid W hu g
        obtain ⟨o, h1, h2⟩ := S.short m z (by simp at hl; omega) g
        rcases I.old _ o k v h1 (by rw [state_code hz]; exact hw) with q | q
        · cases q
        · rw [paid_snoc]
          exact q.le (ext_le _ h2)
  · rcases I.cur n o k v h1 h2 with q | q | q
    · exact .inl q
    · cases q
    · exact .inr q

/-- all is settled -/
structure Done (t : Task) (u : State) (d : Array Known) : Prop where
  base : Base t u d
  all : ∀ l v, walk t u l = some v → Dom d (t.code v) (paid t l)

theorem snoc_ind {α : Type} {P : List α → Prop} (h0 : P []) (h1 : ∀ l a, P l → P (l ++ [a])) (l : List α) : P l := by
  have h : ∀ n (l : List α), l.length = n → P l := by
    intro n
    induction n with
    | zero => intro l e; rw [List.length_eq_zero_iff] at e; subst e; exact h0
    | succ n ih =>
      intro l e
      have q : l ≠ [] := by intro z; subst z; simp at e
      rw [← List.dropLast_concat_getLast q]
      exact h1 _ _ (ih _ (by simp [e]))
  exact h _ l rfl

theorem Sett.empty {t : Task} (W : Wf t) {u : State} (hu : Valid t u) {j : Nat} {d : Array Known} (S : Sett t u j d []) : Done t u d := by
  refine ⟨S.base, fun l => ?_⟩
  induction l using snoc_ind with
  | h0 => intro v h; exact S.short [] v (Nat.zero_le _) h
  | h1 l k ih =>
    intro v h
    rw [walk_snoc] at h
    cases g : walk t u l with
    | none => rw [g] at h; cases h
    | some z =>
      rw [g] at h
      have hz := walk_valid W hu g
      obtain ⟨o, h1, h2⟩ := ih z g
      rcases S.rel _ o k v h1 (by rw [state_code hz]; exact h) with q | q
      · cases q
      · rw [paid_snoc]
        exact q.le (ext_le _ h2)

/-- two of more than N numbers below N are alike -/
theorem pigeon : ∀ (N : Nat) (f : Nat → Nat), (∀ i, i ≤ N → f i < N) → ∃ i j, i < j ∧ j ≤ N ∧ f i = f j
  | 0, f, h => absurd (h 0 (Nat.le_refl _)) (Nat.not_lt_zero _)
  | N + 1, f, h => by
    by_cases q : ∃ i, i ≤ N ∧ f i = f (N + 1)
    · obtain ⟨i, hi, e⟩ := q
      exact ⟨i, N + 1, by omega, Nat.le_refl _, e⟩
    · have q' : ∀ i, i ≤ N → f i ≠ f (N + 1) := fun i hi e => q ⟨i, hi, e⟩
      obtain ⟨i, j, h1, h2, h3⟩ := pigeon N (fun i => if f i = N then f (N + 1) else f i) (fun i hi => by
        have a := h i (by omega)
        have b := h (N + 1) (Nat.le_refl _)
        have c := q' i hi
        split <;> omega)
      refine ⟨i, j, h1, by omega, ?_⟩
      have ci := q' i (by omega)
      have cj := q' j h2
      split at h3 <;> split at h3 <;> omega

theorem shorten {t : Task} (W : Wf t) {u : State} (hu : Valid t u) : ∀ (n : Nat) (l : List Nat) (v : State), l.length = n → walk t u l = some v → ∃ m, walk t u m = some v ∧ m.length ≤ t.many ∧ Le (paid t m) (paid t l) := by
  intro n
  induction n using Nat.strongRecOn with
  | ind n ih =>
    intro l v hn h
    by_cases q : l.length ≤ t.many
    · exact ⟨l, h, q, Le.refl _⟩
    · have pre : ∀ i, ∃ w, walk t u (l.take i) = some w ∧ Valid t w ∧ walk t w (l.drop i) = some v := by
        intro i
        have e : walk t u (l.take i ++ l.drop i) = some v := by rw [List.take_append_drop]; exact h
        rw [walk_append] at e
        cases g : walk t u (l.take i) with
        | none => rw [g] at e; cases e
        | some w => rw [g] at e; exact ⟨w, rfl, walk_valid W hu g, e⟩
      obtain ⟨i, j, h1, h2, h3⟩ := pigeon t.many (fun i => match walk t u (l.take i) with | some w => t.code w | none => 0) (fun i _ => by
        obtain ⟨w, e, hw, _⟩ := pre i
        simp only [e]
        exact code_lt hw)
      obtain ⟨wi, ei, vi, _⟩ := pre i
      obtain ⟨wj, ej, vj, gj⟩ := pre j
      simp only [ei, ej] at h3
      have ew := code_inj vi vj h3
      subst ew
      have hm : walk t u (l.take i ++ l.drop j) = some v := by rw [walk_append, ei]; exact gj
      have hlen : (l.take i ++ l.drop j).length < n := by
        rw [List.length_append, List.length_take, List.length_drop]; omega
      obtain ⟨m, m1, m2, m3⟩ := ih _ hlen _ v rfl hm
      refine ⟨m, m1, m2, m3.trans (le_of_cost ?_)⟩
      show t.price (l.take i ++ l.drop j) < t.price l
      have e : l = l.take i ++ ((l.drop i).take (j - i) ++ l.drop j) := by
        have e1 : l.drop j = (l.drop i).drop (j - i) := by rw [List.drop_drop]; congr 1; omega
        rw [e1, List.take_append_drop, List.take_append_drop]
      have pos : 1 ≤ t.price ((l.drop i).take (j - i)) := by
        cases g : (l.drop i).take (j - i) with
        | nil =>
          have := congrArg List.length g
          rw [List.length_take, List.length_drop] at this
          simp at this
          omega
        | cons a r =>
          have : t.price (a :: r) = (t.act a).cost + t.price r := by
            show t.price ([a] ++ r) = _
            rw [price_append, price_one]
          have := W.cost_pos a
          omega
      have pl : t.price l = t.price (l.take i) + (t.price ((l.drop i).take (j - i)) + t.price (l.drop j)) := by
        rw [← price_append, ← price_append, ← e]
      rw [price_append]
      omega

theorem settle_done {t : Task} (W : Wf t) {u : State} (hu : Valid t u) : ∀ (f j : Nat) (x : Array Known × List Nat), Sett t u j x.1 x.2 → t.many ≤ f + j → Done t u (t.settle f x)
  | 0, j, x, S, hj => by
    refine ⟨S.base, fun l v h => ?_⟩
    obtain ⟨m, m1, m2, m3⟩ := shorten W hu _ l v rfl h
    exact (S.short m v (by omega) m1).le m3
  | f + 1, j, x, S, hj => by
    show Done t u (if x.2.isEmpty = true then x.1 else t.settle f (t.round x.1 x.2))
    by_cases q : x.2.isEmpty = true
    · rw [if_pos q]
      have e : x.2 = [] := by simpa using q
      rw [e] at S
      exact S.empty W hu
    · rw [if_neg q]
      exact settle_done W hu f (j + 1) _ (S.round W hu) (by omega)

theorem known_done {t : Task} (W : Wf t) {u : State} (hu : Valid t u) : Done t u (t.known u) := by
  have hlt := code_lt hu
  have sz : (Array.replicate t.many (none : Known)).size = t.many := by simp
  have none_at : ∀ n, at_ (Array.replicate t.many (none : Known)) n = none := by
    intro n
    simp [at_, Array.getD_eq_getD_getElem?]
    by_cases q : n < t.many <;> simp [q]
  have self : at_ ((Array.replicate t.many (none : Known)).setIfInBounds (t.code u) (some (0, []))) (t.code u) = some (0, []) := at_set_self (by rw [sz]; exact hlt)
  have only : ∀ n o, at_ ((Array.replicate t.many (none : Known)).setIfInBounds (t.code u) (some (0, []))) n = some o → n = t.code u ∧ o = (0, []) := by
    intro n o h
    by_cases q : n = t.code u
    · subst q
      rw [self] at h
      cases h
      exact ⟨rfl, rfl⟩
    · rw [at_set_ne q, none_at] at h
      cases h
  refine settle_done W hu (t.many + 1) 0 (_, [t.code u]) ⟨⟨by simp, ?_⟩, ?_, ?_⟩ (by omega)
  · intro n o h
    obtain ⟨rfl, rfl⟩ := only n o h
    exact ⟨rfl, by rw [state_code hu]; rfl⟩
  · intro l v hl h
    have e : l = [] := List.length_eq_zero_iff.mp (by omega)
    subst e
    cases h
    exact ⟨_, self, Le.refl _⟩
  · intro n o k v h _
    obtain ⟨rfl, rfl⟩ := only n o h
    exact .inl (by simp)
end Tk
namespace Tk
open Pn06

/-- the best row of acts to a state of P -/
def Best (t : Task) (u : State) (P : State → Bool) : Option (Nat × List Nat) → Prop
  | none => ∀ l v, walk t u l = some v → P v = false
  | some e => e = paid t e.2 ∧ (∃ v, walk t u e.2 = some v ∧ P v = true) ∧ ∀ l v, walk t u l = some v → P v = true → Le e (paid t l)
theorem Best.uniq {t : Task} {u : State} {P : State → Bool} {a b : Option (Nat × List Nat)} (ha : Best t u P a) (hb : Best t u P b) : a = b := by
  cases a with
  | none =>
    cases b with
    | none => rfl
    | some e =>
      obtain ⟨_, ⟨v, h1, h2⟩, _⟩ := hb
      rw [ha _ v h1] at h2
      cases h2
  | some d =>
    obtain ⟨d1, ⟨v, d2, d3⟩, d4⟩ := ha
    cases b with
    | none =>
      rw [hb _ v d2] at d3
      cases d3
    | some e =>
      obtain ⟨e1, ⟨w, e2, e3⟩, e4⟩ := hb
      have h1 := d4 e.2 w e2 e3
      have h2 := e4 d.2 v d2 d3
      rw [← e1] at h1
      rw [← d1] at h2
      rw [h1.antisymm h2]

theorem bestOf_from : ∀ (l : List (Nat × List Nat)) (a : Nat × List Nat), ∃ e, l.foldl (fun (a : Option (Nat × List Nat)) x => match a with
  | none => some x
  | some y => if better x y = true then some x else some y) (some a) = some e ∧ e ∈ a :: l ∧ ∀ x ∈ a :: l, Le e x
  | [], a => ⟨a, rfl, by simp, fun x h => by simp at h; subst h; exact Le.refl _⟩
  | b :: l, a => by
    simp only [List.foldl_cons]
    by_cases q : better b a = true
    · rw [if_pos q]
      obtain ⟨e, h1, h2, h3⟩ := bestOf_from l b
      refine ⟨e, h1, List.mem_cons_of_mem _ h2, fun x hx => ?_⟩
      rcases List.mem_cons.mp hx with rfl | hx
      · exact (h3 b (by simp)).trans (better_asymm q)
      · exact h3 x hx
    · rw [if_neg q]
      obtain ⟨e, h1, h2, h3⟩ := bestOf_from l a
      have q' : Le a b := by simpa [Le] using q
      refine ⟨e, h1, ?_, fun x hx => ?_⟩
      · rcases List.mem_cons.mp h2 with h2 | h2
        · simp [h2]
        · simp [h2]
      · rcases List.mem_cons.mp hx with rfl | hx
        · exact h3 _ (by simp)
        · rcases List.mem_cons.mp hx with rfl | hx
          · exact (h3 a (by simp)).trans q'
          · exact h3 x (by simp [hx])
theorem bestOf_none {l : List (Nat × List Nat)} (h : bestOf l = none) : l = [] := by
  cases l with
  | nil => rfl
  | cons a l =>
    obtain ⟨e, h1, _⟩ := bestOf_from l a
    have : bestOf (a :: l) = some e := h1
    rw [h] at this
    cases this
theorem bestOf_some {l : List (Nat × List Nat)} {e : Nat × List Nat} (h : bestOf l = some e) : e ∈ l ∧ ∀ x ∈ l, Le e x := by
  cases l with
  | nil => cases h
  | cons a l =>
    obtain ⟨e', h1, h2, h3⟩ := bestOf_from l a
    have q : bestOf (a :: l) = some e' := h1
    rw [h] at q
    cases q
    exact ⟨h2, h3⟩

theorem Done.at_some {t : Task} {u : State} {d : Array Known} (D : Done t u d) {n : Nat} {o : Nat × List Nat} (h : at_ d n = some o) : n < t.many ∧ o = paid t o.2 ∧ walk t u o.2 = some (t.state n) ∧ ∀ l, walk t u l = some (t.state n) → Le o (paid t l) := by
  refine ⟨by rw [← D.base.size]; exact at_lt h, (D.base.real n o h).1, (D.base.real n o h).2, fun l hl => ?_⟩
  obtain ⟨o', h1, h2⟩ := D.all l _ hl
  rw [code_state, h] at h1
  cases h1
  exact h2
theorem Done.at_walk {t : Task} {u : State} {d : Array Known} (D : Done t u d) {l : List Nat} {v : State} (h : walk t u l = some v) : ∃ o, at_ d (t.code v) = some o ∧ Le o (paid t l) := D.all l v h

theorem plan_best {t : Task} (W : Wf t) {u : State} (hu : Valid t u) (w : Wish) : Best t u w.done (t.plan u w) := by
  have D := known_done W hu
  have e : t.plan u w = bestOf ((List.range t.many).filterMap fun n => if w.done (t.state n) = true then at_ (t.known u) n else none) := rfl
  rw [e]
  have mem : ∀ {l v}, walk t u l = some v → w.done v = true → ∃ o, o ∈ ((List.range t.many).filterMap fun n => if w.done (t.state n) = true then at_ (t.known u) n else none) ∧ Le o (paid t l) := by
    intro l v h hv
    obtain ⟨o, h1, h2⟩ := D.all l v h
    have hv' := walk_valid W hu h
    exact ⟨o, List.mem_filterMap.mpr ⟨t.code v, List.mem_range.mpr (code_lt hv'), by rw [state_code hv', if_pos hv]; exact h1⟩, h2⟩
  cases q : bestOf ((List.range t.many).filterMap fun n => if w.done (t.state n) = true then at_ (t.known u) n else none) with
  | none =>
    intro l v h
    cases g : w.done v with
    | false => rfl
    | true =>
      obtain ⟨o, h1, _⟩ := mem h g
      rw [bestOf_none q] at h1
      cases h1
  | some b =>
    obtain ⟨h1, h2⟩ := bestOf_some q
    obtain ⟨n, hn, hb⟩ := List.mem_filterMap.mp h1
    by_cases g : w.done (t.state n) = true
    · rw [if_pos g] at hb
      obtain ⟨_, r1, r2, _⟩ := D.at_some hb
      refine ⟨r1, ⟨_, r2, g⟩, fun l v h hv => ?_⟩
      obtain ⟨o, o1, o2⟩ := mem h hv
      exact (h2 o o1).trans o2
    · rw [if_neg g] at hb
      cases hb

/-- the least price of a row of acts to a state of P -/
def Least (t : Task) (u : State) (P : State → Bool) : Option Nat → Prop
  | none => ∀ l v, walk t u l = some v → P v = false
  | some c => (∃ l v, walk t u l = some v ∧ P v = true ∧ t.price l = c) ∧ ∀ l v, walk t u l = some v → P v = true → c ≤ t.price l
theorem Least.uniq {t : Task} {u : State} {P : State → Bool} {a b : Option Nat} (ha : Least t u P a) (hb : Least t u P b) : a = b := by
  cases a with
  | none =>
    cases b with
    | none => rfl
    | some e =>
      obtain ⟨⟨l, v, h1, h2, _⟩, _⟩ := hb
      rw [ha _ v h1] at h2
      cases h2
  | some d =>
    obtain ⟨⟨l, v, d2, d3, d4⟩, d5⟩ := ha
    cases b with
    | none =>
      rw [hb _ v d2] at d3
      cases d3
    | some e =>
      obtain ⟨⟨m, w, e2, e3, e4⟩, e5⟩ := hb
      have h1 := d5 m w e2 e3
      have h2 := e5 l v d2 d3
      have : d = e := by omega
      rw [this]
theorem minOf_from : ∀ (l : List Nat) (a : Nat), ∃ e, l.foldl (fun (a : Option Nat) c => match a with
      | none => some c
      | some b => some (min b c)) (some a) = some e ∧ e ∈ a :: l ∧ ∀ x ∈ a :: l, e ≤ x
  | [], a => ⟨a, rfl, by simp, fun x h => by simp at h; omega⟩
  | b :: l, a => by
    simp only [List.foldl_cons]
    obtain ⟨e, h1, h2, h3⟩ := minOf_from l (min a b)
    refine ⟨e, h1, ?_, fun x hx => ?_⟩
    · rcases List.mem_cons.mp h2 with h2 | h2
      · rcases Nat.le_total a b with q | q
        · rw [Nat.min_eq_left q] at h2; simp [h2]
        · rw [Nat.min_eq_right q] at h2; simp [h2]
      · simp [h2]
    · have h4 := h3 (min a b) (by simp)
      rcases List.mem_cons.mp hx with rfl | hx
      · omega
      · rcases List.mem_cons.mp hx with rfl | hx
        · omega
        · exact h3 x (by simp [hx])
def minOf (l : List Nat) : Option Nat := l.foldl (fun (a : Option Nat) c => match a with
      | none => some c
      | some b => some (min b c)) none
theorem minOf_none {l : List Nat} (h : minOf l = none) : l = [] := by
  cases l with
  | nil => rfl
  | cons a l =>
    obtain ⟨e, h1, _⟩ := minOf_from l a
    have : minOf (a :: l) = some e := h1
    rw [h] at this
    cases this
theorem minOf_some {l : List Nat} {e : Nat} (h : minOf l = some e) : e ∈ l ∧ ∀ x ∈ l, e ≤ x := by
  cases l with
  | nil => cases h
  | cons a l =>
    obtain ⟨e', h1, h2, h3⟩ := minOf_from l a
    have q : minOf (a :: l) = some e' := h1
    rw [h] at q
    cases q
    exact ⟨h2, h3⟩

/-- as wished, and at least x in the store i -/
def enough (w : Wish) (i x : Nat) (v : State) : Bool := w.done v && decide (x ≤ v.in_.getD i 0)
/-- the specification's least price for x in the store i -/
def leastS (t : Task) (u : State) (w : Wish) (i x : Nat) : Option Nat := minOf ((List.range t.many).filterMap fun n => let v := t.state n
    if w.done v = true ∧ x ≤ v.in_.getD i 0 then (at_ (t.known u) n).map fun e => e.1 else none)
theorem front_eq (t : Task) (u : State) (w : Wish) (i : Nat) : t.front u w i = (List.range (t.rooms.getD i 0 + 1)).filterMap fun x => match leastS t u w i x with
    | some c => if (x < t.rooms.getD i 0 ∧ leastS t u w i (x + 1) = some c) then none else some (x, c)
    | none => none := rfl
theorem enough_iff {w : Wish} {i x : Nat} {v : State} : enough w i x v = true ↔ (w.done v = true ∧ x ≤ v.in_.getD i 0) := by
  simp [enough]
theorem leastS_ok {t : Task} (W : Wf t) {u : State} (hu : Valid t u) (w : Wish) (i x : Nat) : Least t u (enough w i x) (leastS t u w i x) := by
  have D := known_done W hu
  have mem : ∀ {l v}, walk t u l = some v → enough w i x v = true → ∃ o, o ∈ ((List.range t.many).filterMap fun n => let v := t.state n
    if w.done v = true ∧ x ≤ v.in_.getD i 0 then (at_ (t.known u) n).map fun e => e.1 else none) ∧ o ≤ t.price l := by
    intro l v h hv
    obtain ⟨o, h1, h2⟩ := D.all l v h
    have hv' := walk_valid W hu h
    refine ⟨o.1, List.mem_filterMap.mpr ⟨t.code v, List.mem_range.mpr (code_lt hv'), ?_⟩, h2.cost⟩
    show (if w.done (t.state (t.code v)) = true ∧ x ≤ (t.state (t.code v)).in_.getD i 0 then (at_ (t.known u) (t.code v)).map fun e => e.1 else none) = some o.1
    rw [state_code hv', if_pos (enough_iff.mp hv), h1]
    rfl
  show Least t u (enough w i x) (minOf _)
  cases q : minOf ((List.range t.many).filterMap fun n => let v := t.state n
    if w.done v = true ∧ x ≤ v.in_.getD i 0 then (at_ (t.known u) n).map fun e => e.1 else none) with
  | none =>
    intro l v h
    cases g : enough w i x v with
    | false => rfl
    | true =>
      obtain ⟨o, h1, _⟩ := mem h g
      rw [minOf_none q] at h1
      cases h1
  | some b =>
    obtain ⟨h1, h2⟩ := minOf_some q
    obtain ⟨n, hn, hb⟩ := List.mem_filterMap.mp h1
    dsimp only at hb
    by_cases g : w.done (t.state n) = true ∧ x ≤ (t.state n).in_.getD i 0
    · rw [if_pos g] at hb
      cases k : at_ (t.known u) n with
      | none => rw [k] at hb; cases hb
      | some o =>
        rw [k] at hb
        cases hb
        obtain ⟨_, r1, r2, _⟩ := D.at_some k
        refine ⟨⟨_, _, r2, enough_iff.mpr g, ?_⟩, fun l v h hv => ?_⟩
        · exact (congrArg Prod.fst r1).symm
        · obtain ⟨o', o1, o2⟩ := mem h hv
          exact Nat.le_trans (h2 o' o1) o2
    · rw [if_neg g] at hb
      cases hb

/-- how many states can be come to -/
theorem reach_count {t : Task} (W : Wf t) {u : State} (hu : Valid t u) {L : List State} (nd : L.Nodup) (h : ∀ v, v ∈ L ↔ ∃ l, walk t u l = some v) :
    ((List.range t.many).filter fun n => (at_ (t.known u) n).isSome).length = L.length := by
  have D := known_done W hu
  have val : ∀ v ∈ L, Valid t v := fun v hv => by
    obtain ⟨l, hl⟩ := (h v).mp hv
    exact walk_valid W hu hl
  have n1 : ((List.range t.many).filter fun n => (at_ (t.known u) n).isSome).Nodup := List.Pairwise.filter _ List.nodup_range
  have n2 : (L.map t.code).Nodup := by
    show List.Pairwise _ _
    rw [List.pairwise_map]
    have aux : ∀ M : List State, (∀ v ∈ M, Valid t v) → M.Nodup → List.Pairwise (fun a b => t.code a ≠ t.code b) M := by
      intro M
      induction M with
      | nil => intro _ _; exact List.Pairwise.nil
      | cons a M ih =>
        intro hv hn
        obtain ⟨h1, h2⟩ := List.nodup_cons.mp hn
        refine List.Pairwise.cons (fun b hb e => ?_) (ih (fun v hvm => hv v (by simp [hvm])) h2)
        exact h1 (by rw [code_inj (hv a (by simp)) (hv b (by simp [hb])) e]; exact hb)
    exact aux L val nd
  have p := (List.perm_ext_iff_of_nodup n1 n2).mpr (fun n => by
    rw [List.mem_filter, List.mem_range, List.mem_map]
    constructor
    · rintro ⟨hn, hs⟩
      obtain ⟨o, ho⟩ := Option.isSome_iff_exists.mp hs
      obtain ⟨_, _, r, _⟩ := D.at_some ho
      exact ⟨t.state n, (h _).mpr ⟨_, r⟩, code_state t n⟩
    · rintro ⟨v, hv, rfl⟩
      obtain ⟨l, hl⟩ := (h v).mp hv
      obtain ⟨o, ho, _⟩ := D.all l v hl
      exact ⟨code_lt (val v hv), by rw [ho]; rfl⟩)
  rw [p.length_eq, List.length_map]
end Tk
/-! the specification's looks at what is told, as the program asks them -/
namespace Tk
open Pn06
def rowOf (p : Part) : List Nat := [p.need, p.take, p.bring, if p.spill = true then 1 else 0]
def roomOk (r : Nat) : Bool := decide (1 ≤ r) && decide (r ≤ 7)
def amOk (p : Nat × Nat) : Bool := decide (p.2 ≤ p.1)
def factOk (n x : Nat) : Bool := decide (x < 2 ^ n)
def numOk (n : Nat) (ns : List Nat) : Bool := ns.length == 5 && ((ns.take 4).all (factOk n) && (decide (1 ≤ ns.getD 4 0) && decide (ns.getD 4 0 ≤ 1000)))
def leR (r x : Nat) : Bool := decide (x ≤ r)
def storeOk (p : List Nat × Nat) : Bool := p.1.length == 4 && ((p.1.take 3).all (leR p.2) && decide (p.1.getD 3 0 ≤ 1))
def storesOk (ss : List (List Nat)) (rs : List Nat) : Bool := ss.length == rs.length && (ss.zip rs).all storeOk

theorem begins_no {n : Nat} {rs : List Nat} : (n = 0 ∨ FACTS < n ∨ STORES < rs.length ∨ (rs.any fun r => r == 0 || decide (ROOM < r)) = true) ↔ ((decide (1 ≤ n) && decide (n ≤ 3)) && (decide (rs.length ≤ 2) && rs.all roomOk)) = false := by
  have e : (rs.any fun r => r == 0 || decide (ROOM < r)) = !rs.all roomOk := by
    induction rs with
    | nil => rfl
    | cons a l ih =>
      simp only [List.any_cons, List.all_cons, ih, Bool.not_and]
      congr 1
      by_cases h1 : a = 0
      · subst h1; rfl
      · by_cases h2 : 7 < a
        · have q : ¬ a ≤ 7 := by omega
          simp [roomOk, ROOM, h2, q]
        · have q1 : a ≤ 7 := by omega
          have q2 : 1 ≤ a := by omega
          simp [roomOk, ROOM, h1, h2, q1, q2]
  rw [e]
  simp only [FACTS, STORES]
  cases rs.all roomOk
  · simp
  · simp; omega

theorem part_iff (r : Nat) (x : List Nat) : (part? r x).isSome = storeOk (x, r) := by
  match x with
  | [] => rfl
  | [_] => rfl
  | [_, _] => rfl
  | [_, _, _] => rfl
  | [n, t, b, s] =>
    simp only [part?, storeOk]
    by_cases h : n ≤ r ∧ t ≤ r ∧ b ≤ r ∧ s ≤ 1
    · rw [if_pos h]
      obtain ⟨h1, h2, h3, h4⟩ := h
      simp [leR, h1, h2, h3, h4]
    · rw [if_neg h]
      by_cases h1 : n ≤ r <;> by_cases h2 : t ≤ r <;> by_cases h3 : b ≤ r <;> by_cases h4 : s ≤ 1 <;> simp_all [leR]
  | _ :: _ :: _ :: _ :: _ :: _ => simp [part?, storeOk]
theorem part_some {r : Nat} {x : List Nat} {p : Part} (h : part? r x = some p) : rowOf p = x ∧ p.need ≤ r ∧ p.take ≤ r ∧ p.bring ≤ r := by
  match x, h with
  | [n, t, b, s], h =>
    simp only [part?] at h
    by_cases c : n ≤ r ∧ t ≤ r ∧ b ≤ r ∧ s ≤ 1
    · rw [if_pos c] at h
      cases h
      refine ⟨?_, c.1, c.2.1, c.2.2.1⟩
      simp only [rowOf]
      by_cases q : s = 1
      · simp [q]
      · have : s = 0 := by omega
        simp [this]
    · rw [if_neg c] at h; cases h
theorem parts_iff : ∀ (rs : List Nat) (ss : List (List Nat)), (parts? rs ss).isSome = storesOk ss rs
  | [], [] => rfl
  | [], _ :: _ => rfl
  | _ :: _, [] => rfl
  | r :: rs, x :: ss => by
    have h1 := part_iff r x
    have h2 := parts_iff rs ss
    simp only [parts?]
    have e : storesOk (x :: ss) (r :: rs) = (storeOk (x, r) && storesOk ss rs) := by
      simp only [storesOk, List.length_cons, List.zip_cons_cons, List.all_cons]
      have : (ss.length + 1 == rs.length + 1) = (ss.length == rs.length) := by
        by_cases q : ss.length = rs.length <;> simp [q]
      rw [this]
      cases (ss.length == rs.length) <;> cases storeOk (x, r) <;> rfl
    rw [e, ← h1, ← h2]
    cases part? r x <;> cases parts? rs ss <;> rfl
theorem parts_some : ∀ {rs : List Nat} {ss : List (List Nat)} {l : List Part}, parts? rs ss = some l → l.map rowOf = ss ∧ l.length = rs.length
  | [], [], l, h => by cases h; exact ⟨rfl, rfl⟩
  | [], _ :: _, l, h => by cases h
  | _ :: _, [], l, h => by cases h
  | r :: rs, x :: ss, l, h => by
    simp only [parts?] at h
    cases h1 : part? r x with
    | none => rw [h1] at h; cases h
    | some p =>
      cases h2 : parts? rs ss with
      | none => rw [h1, h2] at h; cases h
      | some m =>
        rw [h1, h2] at h
        cases h
        obtain ⟨e1, e2⟩ := parts_some h2
        exact ⟨by rw [List.map_cons, (part_some h1).1, e1], by simp [e2]⟩
theorem act_some {t : Task} {row : List Nat} {ps : List (List Nat)} {a : Act} (h : act? t row ps = some a) : row = [a.pre, a.no, a.add, a.del, a.cost] ∧ a.parts.map rowOf = ps ∧ a.parts.length = t.rooms.length ∧ a.pre < 2 ^ t.facts ∧ a.no < 2 ^ t.facts ∧ a.add < 2 ^ t.facts ∧ a.del < 2 ^ t.facts ∧ 1 ≤ a.cost ∧ a.cost ≤ 1000 := by
  unfold act? at h
  split at h
  · rename_i p q b d c l hl
    by_cases g : ([p, q, b, d].all fun x => decide (x < 2 ^ t.facts)) = true ∧ 1 ≤ c ∧ c ≤ COST
    · rw [if_pos g] at h
      cases h
      obtain ⟨e1, e2⟩ := parts_some hl
      simp at g
      exact ⟨rfl, e1, e2, g.1.1, g.1.2.1, g.1.2.2.1, g.1.2.2.2, g.2.1, g.2.2⟩
    · rw [if_neg g] at h; cases h
  · cases h
theorem act_iff (t : Task) (row : List Nat) (ps : List (List Nat)) : (act? t row ps).isSome = (numOk t.facts row && storesOk ps t.rooms) := by
  rw [← parts_iff]
  match row with
  | [] => rfl
  | [_] => rfl
  | [_, _] => rfl
  | [_, _, _] => rfl
  | [_, _, _, _] => rfl
  | [p, q, b, d, c] =>
    unfold act?
    cases h : parts? t.rooms ps with
    | none => simp
    | some l =>
      have e0 : numOk t.facts [p, q, b, d, c] = (([p, q, b, d].all fun x => decide (x < 2 ^ t.facts)) && (decide (1 ≤ c) && decide (c ≤ COST))) := rfl
      rw [e0]
      dsimp only
      by_cases g : ([p, q, b, d].all fun x => decide (x < 2 ^ t.facts)) = true ∧ 1 ≤ c ∧ c ≤ COST
      · rw [if_pos g]
        obtain ⟨g1, g2, g3⟩ := g
        rw [g1, decide_eq_true g2, decide_eq_true g3]
        rfl
      · rw [if_neg g]
        cases g1 : ([p, q, b, d].all fun x => decide (x < 2 ^ t.facts)) with
        | false => rfl
        | true =>
          rw [g1] at g
          have g2 : ¬ (1 ≤ c ∧ c ≤ COST) := fun z => g ⟨rfl, z⟩
          by_cases q1 : 1 ≤ c
          · rw [decide_eq_false (fun z => g2 ⟨q1, z⟩)]
            cases decide (1 ≤ c) <;> rfl
          · rw [decide_eq_false q1]
            rfl
  | _ :: _ :: _ :: _ :: _ :: _ :: _ => simp [act?, numOk]
theorem act_none {t : Task} {row : List Nat} {ps : List (List Nat)} (h : (numOk t.facts row && storesOk ps t.rooms) = false) : act? t row ps = none := by
  rw [← act_iff] at h
  cases e : act? t row ps with
  | none => rfl
  | some a => rw [e] at h; cases h
theorem act_yes {t : Task} {row : List Nat} {ps : List (List Nat)} (h1 : numOk t.facts row = true) (h2 : storesOk ps t.rooms = true) : ∃ a, act? t row ps = some a := by
  have := act_iff t row ps
  rw [h1, h2] at this
  exact Option.isSome_iff_exists.mp this
theorem fits_eq (t : Task) (s : Nat) (l : List Nat) : fits t s l = (decide (s < 2 ^ t.facts) && (l.length == t.rooms.length && (t.rooms.zip l).all amOk)) := rfl
end Tk
/-! what holds of every house that calls lead to -/
namespace Tk
open Pn06
structure ActOk (t : Task) (a : Act) : Prop where
  parts : a.parts.length = t.rooms.length
  pre : a.pre < 2 ^ t.facts
  no : a.no < 2 ^ t.facts
  add : a.add < 2 ^ t.facts
  del : a.del < 2 ^ t.facts
  cost1 : 1 ≤ a.cost
  cost2 : a.cost ≤ 1000
structure HouseOk (h : House) : Prop where
  f1 : 1 ≤ h.task.facts
  f2 : h.task.facts ≤ 3
  r1 : h.task.rooms.length ≤ 2
  r2 : ∀ r ∈ h.task.rooms, 1 ≤ r ∧ r ≤ 7
  a1 : h.task.acts.length ≤ 8
  a2 : ∀ a ∈ h.task.acts, ActOk h.task a
  s1 : Valid h.task h.start
  w1 : h.wish.s < 2 ^ h.task.facts
  w2 : OkIn h.task.rooms h.wish.least
theorem HouseOk.wf {h : House} (H : HouseOk h) : Wf h.task := ⟨fun a ha => (H.a2 a ha).add, fun a ha => (H.a2 a ha).cost1⟩
theorem okIn_of : ∀ {rs l : List Nat}, (l.length == rs.length && (rs.zip l).all amOk) = true → OkIn rs l
  | [], [], _ => trivial
  | [], _ :: _, h => by simp at h
  | _ :: _, [], h => by simp at h
  | r :: rs, x :: l, h => by
    simp only [List.length_cons, List.zip_cons_cons, List.all_cons, Bool.and_eq_true, beq_iff_eq, Nat.add_right_cancel_iff] at h
    refine ⟨by simpa [amOk] using h.2.1, okIn_of ?_⟩
    rw [Bool.and_eq_true, beq_iff_eq]
    exact ⟨h.1, h.2.2⟩
theorem okIn_zero : ∀ (rs : List Nat), OkIn rs (rs.map fun _ => 0)
  | [] => trivial
  | _ :: rs => ⟨Nat.zero_le _, okIn_zero rs⟩
theorem fits_ok {t : Task} {s : Nat} {l : List Nat} (h : fits t s l = true) : s < 2 ^ t.facts ∧ OkIn t.rooms l := by
  rw [fits_eq, Bool.and_eq_true] at h
  exact ⟨by simpa using h.1, okIn_of h.2⟩
theorem init_ok : HouseOk init := by
  refine ⟨by decide, by decide, by decide, fun r h => ?_, by decide, fun a h => ?_, ⟨by decide, trivial⟩, by decide, trivial⟩
  · cases h
  · cases h
theorem step_ok {h : House} (H : HouseOk h) (c : Call) : HouseOk (step h c).1 := by
  cases c with
  | begins n l =>
    simp only [step]
    split
    · exact H
    · rename_i q
      have q' : ((decide (1 ≤ n) && decide (n ≤ 3)) && (decide (l.length ≤ 2) && l.all roomOk)) = true := by
        cases e : ((decide (1 ≤ n) && decide (n ≤ 3)) && (decide (l.length ≤ 2) && l.all roomOk))
        · exact absurd (begins_no.mpr e) q
        · rfl
      simp only [Bool.and_eq_true, decide_eq_true_eq, List.all_eq_true] at q'
      obtain ⟨⟨h1, h2⟩, h3, h4⟩ := q'
      refine ⟨h1, h2, h3, fun r hr => ?_, Nat.zero_le _, fun a ha => (by cases ha), ⟨Nat.two_pow_pos _, okIn_zero l⟩, Nat.two_pow_pos _, okIn_zero l⟩
      have := h4 r hr
      simpa [roomOk] using this
  | act r ps =>
    simp only [step]
    split
    · exact H
    · rename_i q
      split
      · exact H
      · rename_i a ha
        obtain ⟨_, _, e1, e2, e3, e4, e5, e6, e7⟩ := act_some ha
        have n8 : h.task.acts.length ≠ 8 := q
        refine ⟨H.f1, H.f2, H.r1, H.r2, ?_, ?_, ⟨H.s1.s, H.s1.in_⟩, H.w1, H.w2⟩
        · have := H.a1
          show (h.task.acts ++ [a]).length ≤ 8
          simp; omega
        · intro b hb
          rcases List.mem_append.mp hb with hb | hb
          · have := H.a2 b hb
            exact ⟨this.parts, this.pre, this.no, this.add, this.del, this.cost1, this.cost2⟩
          · rw [List.mem_singleton.mp hb]
            exact ⟨e1, e2, e3, e4, e5, e6, e7⟩
  | start s l =>
    simp only [step]
    split
    · exact H
    · rename_i q
      obtain ⟨h1, h2⟩ := fits_ok (by simpa using q)
      exact ⟨H.f1, H.f2, H.r1, H.r2, H.a1, H.a2, ⟨h1, h2⟩, H.w1, H.w2⟩
  | wish s l =>
    simp only [step]
    split
    · exact H
    · rename_i q
      obtain ⟨h1, h2⟩ := fits_ok (by simpa using q)
      exact ⟨H.f1, H.f2, H.r1, H.r2, H.a1, H.a2, H.s1, h1, h2⟩
  | plan => exact H
  | front i =>
    simp only [step]
    split
    · exact H
    · exact H
  | check l => exact H
  | reach => exact H
end Tk
/-! the calls read off the flat list, in natural numbers -/
namespace Tk
open Pn06
/-- a call as it lies in the list: its number, its whole numbers, its lists -/
def wire : Call → Nat × List Nat × List (List Nat)
  | .begins n l => (0, [n], [l])
  | .act r ps => (1, [], r :: ps)
  | .start s l => (2, [s], [l])
  | .wish s l => (3, [s], [l])
  | .plan => (4, [], [])
  | .front i => (5, [i], [])
  | .check l => (6, [], [l])
  | .reach => (7, [], [])
def putNs : List (List Nat) → List Nat
  | [] => []
  | x :: r => x.length :: (x ++ putNs r)
def putN (n : Nat) (ws : List Nat) (rows : List (List Nat)) : List Nat := n :: (ws.length :: (ws ++ (rows.length :: putNs rows)))
def enc (x : Call) : List Nat := putN (wire x).1 (wire x).2.1 (wire x).2.2
/-- what is due from a house on -/
def run : House → List Call → List Int
  | _, [] => []
  | h, x :: r => ((Pn06Neutral.out (step h x).2).length : Int) :: (Pn06Neutral.out (step h x).2 ++ run (step h x).1 r)
def small : Call → Prop
  | .begins _ l => l.length ≤ 40
  | .act r ps => r.length ≤ 40 ∧ ps.length ≤ 4
  | .start _ l => l.length ≤ 40
  | .wish _ l => l.length ≤ 40
  | .check l => l.length ≤ 40
  | _ => True
theorem toNat_id {l : List Int} (h : ∀ z ∈ l, 0 ≤ z) : (l.map Int.toNat).map (fun n : Nat => (n : Int)) = l := by
  induction l with
  | nil => rfl
  | cons a l ih =>
    simp only [List.map_cons]
    rw [ih (fun z hz => h z (by simp [hz])), Int.toNat_of_nonneg (h a (by simp))]
theorem putRows_nat : ∀ (xs : List (List Int)), (PyFlat.putRows xs).map Int.toNat = putNs (xs.map Pn06Neutral.nats)
  | [] => rfl
  | x :: xs => by
    simp only [PyFlat.putRows, PyFlat.putRow, List.map_append, List.map_cons, putNs, putRows_nat xs, Int.toNat_natCast, Pn06Neutral.nats, List.length_map, List.cons_append]
theorem put1_nat (p : Int) (ns : List Int) (xs : List (List Int)) : (PyWide.put1 ((p :: ns) :: xs)).map Int.toNat = putN p.toNat (Pn06Neutral.nats ns) (xs.map Pn06Neutral.nats) := by
  simp only [PyWide.put1, PyFlat.putRow, List.map_cons, List.map_append, putRows_nat, putN, Int.toNat_natCast, Pn06Neutral.nats, List.length_map, List.cons_append]
theorem asked_call {c : List (List Int)} (h : Pn06Neutral.asked1 c = true) : ∃ x, Pn06Neutral.callOf c = some x ∧ (PyWide.put1 c).map Int.toNat = enc x ∧ small x := by
  unfold Pn06Neutral.asked1 at h
  split at h
  · rename_i n l
    refine ⟨_, rfl, put1_nat _ _ _, ?_⟩
    simp [Pn06Neutral.row32] at h
    simpa [small, Pn06Neutral.nats] using h.2.1
  · rename_i r ps
    refine ⟨_, rfl, ?_, ?_⟩
    · rw [put1_nat]; rfl
    · simp [Pn06Neutral.row32] at h
      simp only [small, Pn06Neutral.nats, List.length_map]
      exact ⟨h.1.1, h.2.1⟩
  · rename_i n l
    refine ⟨_, rfl, put1_nat _ _ _, ?_⟩
    simp [Pn06Neutral.row32] at h
    simpa [small, Pn06Neutral.nats] using h.2.1
  · rename_i n l
    refine ⟨_, rfl, put1_nat _ _ _, ?_⟩
    simp [Pn06Neutral.row32] at h
    simpa [small, Pn06Neutral.nats] using h.2.1
  · exact ⟨_, rfl, put1_nat _ _ _, trivial⟩
  · exact ⟨_, rfl, put1_nat _ _ _, trivial⟩
  · rename_i l
    refine ⟨_, rfl, put1_nat _ _ _, ?_⟩
    simp [Pn06Neutral.row32] at h
    simpa [small, Pn06Neutral.nats] using h.1
  · exact ⟨_, rfl, put1_nat _ _ _, trivial⟩
  · cases h
theorem asked_calls : ∀ (cs : List (List (List Int))) (h : House), (cs.all Pn06Neutral.asked1) = true → ∃ xs, (PyWide.put cs).map Int.toNat = xs.flatMap enc ∧ (∀ x ∈ xs, small x) ∧ PyFlat.told (PyFlat.played Pn06Neutral.step h cs) = run h xs ∧ xs.length = cs.length ∧ (run h xs).length = Pn06Neutral.many h cs + cs.length
  | [], _, _ => ⟨[], rfl, by simp, rfl, rfl, rfl⟩
  | c :: cs, h, g => by
    rw [List.all_cons, Bool.and_eq_true] at g
    obtain ⟨x, e1, e2, e3⟩ := asked_call g.1
    have es : Pn06Neutral.step h c = ((step h x).1, Pn06Neutral.out (step h x).2) := by
      unfold Pn06Neutral.step
      rw [e1]
    obtain ⟨xs, f1, f2, f3, f4, f5⟩ := asked_calls cs (step h x).1 g.2
    refine ⟨x :: xs, ?_, ?_, ?_, by simp [f4], ?_⟩
    · simp only [PyWide.put, List.map_append, List.flatMap_cons, e2, f1]
    · intro y hy
      rcases List.mem_cons.mp hy with rfl | hy
      · exact e3
      · exact f2 y hy
    · simp only [PyFlat.played, PyFlat.told, List.flatMap_cons, run, es]
      rw [← f3]
      rfl
    · simp only [run, Pn06Neutral.many, es, List.length_cons, List.length_append, f5]
      omega
theorem decode {l : List Int} (h : PyPn06.answers_asked l = true) (hz : ∀ z ∈ l, 0 ≤ z) : ∃ xs : List Call, l = (xs.flatMap enc).map (fun n : Nat => (n : Int)) ∧ (∀ x ∈ xs, small x) ∧ PyPn06.answers l = run Pn06.init xs ∧ (run Pn06.init xs).length ≤ 1000060 := by
  unfold PyPn06.answers_asked at h
  unfold PyPn06.answers
  cases e : PyPn06.calls l with
  | none => rw [e] at h; cases h
  | some cs =>
    rw [e] at h
    simp only [Bool.and_eq_true] at h
    obtain ⟨⟨⟨⟨h1, h2⟩, h3⟩, h4⟩, h5⟩ := h
    simp only [Pn06Neutral.asked, Bool.and_eq_true, decide_eq_true_eq] at h4
    obtain ⟨g1, g2, ⟨g3, g4⟩, g5⟩ := h4
    obtain ⟨p1, _⟩ := PyWide.put_calls _ _ _ e
    obtain ⟨xs, f1, f2, f3, f4, f5⟩ := asked_calls cs Pn06Neutral.start g1
    refine ⟨xs, ?_, f2, f3, ?_⟩
    · rw [← f1, ← p1]; exact (toNat_id hz).symm
    · have : (run Pn06Neutral.start xs).length ≤ 1000060 := by omega
      exact this
end Tk
namespace Tk
open Pn06
/-! the search of ways.py: states that wait, states that are settled -/
/-- a state with its way -/
abbrev Ent := State × (Nat × List Nat)
/-- what holds of the states that wait (W) and those that are settled (S); what is still to be offered from the one settled last: acts from k on -/
structure Search (t : Task) (u0 : State) (W S : Ent → Prop) (todo : Ent → Nat → Prop) : Prop where
  real : ∀ e, W e ∨ S e → e.2 = paid t e.2.2 ∧ walk t u0 e.2.2 = some e.1
  best : ∀ e, S e → ∀ l, walk t u0 l = some e.1 → Le e.2 (paid t l)
  near : ∀ e, S e → ∀ k v, t.then_ e.1 k = some v → todo e k ∨ (∃ q, S (v, q)) ∨ ∃ q, W (v, q) ∧ Le q (ext t e.2 k)
  start : (∃ q, S (u0, q)) ∨ W (u0, (0, []))
  once : ∀ u p q, W (u, p) → W (u, q) → p = q
  apart : ∀ u p q, W (u, p) → S (u, q) → False
/-- where a row of acts leads: it is settled, or someone nearer waits -/
theorem Search.leads {t : Task} (wf : Wf t) {u0 : State} {W S : Ent → Prop} (D : Search t u0 W S fun _ _ => False) (l : List Nat) : ∀ v, walk t u0 l = some v → (∃ p, S (v, p)) ∨ ∃ x q, W (x, q) ∧ ((x = v ∧ Le q (paid t l)) ∨ q.1 < t.price l) := by
  induction l using snoc_ind with
  | h0 =>
    intro v hv
    cases hv
    rcases D.start with h | h
    · exact .inl h
    · exact .inr ⟨u0, _, h, .inl ⟨rfl, Le.refl _⟩⟩
  | h1 l k ih =>
    intro v hv
    rw [walk_snoc] at hv
    cases e : walk t u0 l with
    | none => rw [e] at hv; cases hv
    | some x =>
      rw [e] at hv
      have more : t.price l < t.price (l ++ [k]) := by
        rw [price_snoc]
        have := wf.cost_pos k
        omega
      rcases ih x e with ⟨p, hp⟩ | ⟨y, q, hq, h⟩
      · rcases D.near _ hp k v hv with h | h | ⟨q, hq, le⟩
        · exact h.elim
        · exact .inl h
        · refine .inr ⟨v, q, hq, .inl ⟨rfl, ?_⟩⟩
          rw [paid_snoc]
          exact le.trans (ext_le k (D.best _ hp l e))
      · refine .inr ⟨y, q, hq, .inr ?_⟩
        rcases h with ⟨_, h⟩ | h
        · have := h.cost
          simp only [paid] at this
          omega
        · omega
/-- the cheapest one that waits has its best way -/
theorem Search.cheapest {t : Task} (wf : Wf t) {u0 : State} {W S : Ent → Prop} (D : Search t u0 W S fun _ _ => False) {e : Ent} (we : W e) (least : ∀ x, W x → e.2.1 ≤ x.2.1) : ∀ l, walk t u0 l = some e.1 → Le e.2 (paid t l) := by
  intro l hl
  rcases D.leads wf l e.1 hl with ⟨p, hp⟩ | ⟨x, q, hq, h⟩
  · exact (D.apart e.1 e.2 p we hp).elim
  · rcases h with ⟨rfl, h⟩ | h
    · rw [D.once e.1 e.2 q we hq]
      exact h
    · have lq : e.2.1 ≤ q.1 := least _ hq
      exact le_of_cost (show e.2.1 < t.price l by omega)
/-- it is settled -/
theorem Search.settle {t : Task} (wf : Wf t) {u0 : State} {W S : Ent → Prop} (D : Search t u0 W S fun _ _ => False) {e : Ent} (we : W e) (least : ∀ x, W x → e.2.1 ≤ x.2.1) :
    Search t u0 (fun x => W x ∧ x.1 ≠ e.1) (fun x => x = e ∨ S x) fun x _ => x = e where
  real := fun x h => h.elim (fun h => D.real x (.inl h.1)) fun h => h.elim (fun h => h ▸ D.real e (.inl we)) fun h => D.real x (.inr h)
  best := fun x h => h.elim (fun h => h ▸ D.cheapest wf we least) fun h => D.best x h
  near := fun x h k v hv => h.elim .inl fun h => by
    rcases D.near x h k v hv with z | ⟨q, z⟩ | ⟨q, z, le⟩
    · exact z.elim
    · exact .inr (.inl ⟨q, .inr z⟩)
    · by_cases c : v = e.1
      · exact .inr (.inl ⟨e.2, .inl (by rw [c])⟩)
      · exact .inr (.inr ⟨q, ⟨z, c⟩, le⟩)
  start := by
    rcases D.start with ⟨q, h⟩ | h
    · exact .inl ⟨q, .inr h⟩
    · by_cases c : u0 = e.1
      · exact .inl ⟨e.2, .inl (by rw [c])⟩
      · exact .inr ⟨h, c⟩
  once := fun u p q h g => D.once u p q h.1 g.1
  apart := fun u p q h g => g.elim (fun g => h.2 (by rw [← g])) fun g => D.apart u p q h.1 g
/-- an act from it leads nowhere, or to one that is settled, or to one that waits with no worse a way -/
theorem Search.pass {t : Task} {u0 : State} {W S : Ent → Prop} {e : Ent} {i : Nat} (D : Search t u0 W S fun x k => x = e ∧ i ≤ k)
    (h : ∀ v, t.then_ e.1 i = some v → (∃ q, S (v, q)) ∨ ∃ q, W (v, q) ∧ Le q (ext t e.2 i)) : Search t u0 W S fun x k => x = e ∧ i + 1 ≤ k :=
  { D with
    near := fun x sx k v hv => by
      rcases D.near x sx k v hv with ⟨rfl, z⟩ | z
      · by_cases c : i = k
        · subst c
          exact .inr (h v hv)
        · exact .inl ⟨rfl, by omega⟩
      · exact .inr z }
/-- .. or the way on to it is the better one, and is offered -/
theorem Search.offer {t : Task} {u0 : State} {W W' S : Ent → Prop} {e : Ent} {i : Nat} {v : State} (D : Search t u0 W S fun x k => x = e ∧ i ≤ k) (se : S e) (hv : t.then_ e.1 i = some v) (out : ∀ q, ¬ S (v, q)) (worse : ∀ q, W (v, q) → Le (ext t e.2 i) q)
    (is : ∀ x, W' x ↔ x = (v, ext t e.2 i) ∨ (W x ∧ x.1 ≠ v)) : Search t u0 W' S fun x k => x = e ∧ i + 1 ≤ k where
  real := fun x h => by
    rcases h with h | h
    · rcases (is x).mp h with rfl | ⟨h, _⟩
      · obtain ⟨p, w⟩ := D.real e (.inr se)
        refine ⟨?_, ?_⟩
        · show ext t e.2 i = paid t (e.2.2 ++ [i])
          rw [paid_snoc, ← p]
        · show walk t u0 (e.2.2 ++ [i]) = some v
          rw [walk_snoc, w]
          exact hv
      · exact D.real x (.inl h)
    · exact D.real x (.inr h)
  best := D.best
  near := fun x sx k y hy => by
    have new : W' (v, ext t e.2 i) := (is _).mpr (.inl rfl)
    rcases D.near x sx k y hy with ⟨rfl, z⟩ | z | ⟨q, z, le⟩
    · by_cases c : i = k
      · subst c
        rw [hv] at hy
        cases hy
        exact .inr (.inr ⟨_, new, Le.refl _⟩)
      · exact .inl ⟨rfl, by omega⟩
    · exact .inr (.inl z)
    · by_cases c : y = v
      · subst c
        exact .inr (.inr ⟨_, new, (worse q z).trans le⟩)
      · exact .inr (.inr ⟨q, (is _).mpr (.inr ⟨z, c⟩), le⟩)
  start := by
    rcases D.start with h | h
    · exact .inl h
    · by_cases c : u0 = v
      · have le : better (0, []) (ext t e.2 i) = false := worse _ (c ▸ h)
        have lt : better (0, []) (ext t e.2 i) = true := better_iff.mpr (by
          have long : 0 < (e.2.2 ++ [i]).length := by simp
          by_cases z : (ext t e.2 i).1 = 0
          · exact .inr ⟨z.symm, .inl long⟩
          · exact .inl (Nat.pos_of_ne_zero z))
        rw [le] at lt
        cases lt
      · exact .inr ((is _).mpr (.inr ⟨h, c⟩))
  once := fun u p q h g => by
    rcases (is _).mp h with h | ⟨h, n⟩ <;> rcases (is _).mp g with g | ⟨g, m⟩
    · exact congrArg Prod.snd (h.trans g.symm)
    · exact absurd (congrArg Prod.fst h) m
    · exact absurd (congrArg Prod.fst g) n
    · exact D.once u p q h g
  apart := fun u p q h g => by
    rcases (is _).mp h with h | ⟨h, _⟩
    · have z : u = v := congrArg Prod.fst h
      exact out q (z ▸ g)
    · exact D.apart u p q h g
/-- all acts are through -/
theorem Search.rest {t : Task} {u0 : State} {W S : Ent → Prop} {e : Ent} (D : Search t u0 W S fun x k => x = e ∧ t.acts.length ≤ k) : Search t u0 W S fun _ _ => False :=
  { D with
    near := fun x sx k v hv => by
      rcases D.near x sx k v hv with ⟨_, z⟩ | z
      · have := then_lt hv
        omega
      · exact .inr z }
theorem Search.begin {t : Task} {u0 : State} {W S : Ent → Prop} (noS : ∀ e, ¬ S e) (isW : ∀ e, W e ↔ e = (u0, (0, []))) : Search t u0 W S fun _ _ => False where
  real := fun e h => h.elim (fun h => by rw [(isW e).mp h]; exact ⟨rfl, rfl⟩) fun h => (noS e h).elim
  best := fun e h => (noS e h).elim
  near := fun e h => (noS e h).elim
  start := .inr ((isW _).mpr rfl)
  once := fun u p q h g => congrArg Prod.snd (((isW _).mp h).trans ((isW _).mp g).symm)
  apart := fun u p q _ h => (noS _ h).elim
/-- nothing waits: each state that can be come to is settled, with its best way -/
structure Settled (t : Task) (u0 : State) (S : Ent → Prop) : Prop where
  real : ∀ e, S e → e.2 = paid t e.2.2 ∧ walk t u0 e.2.2 = some e.1
  all : ∀ l v, walk t u0 l = some v → ∃ p, S (v, p) ∧ Le p (paid t l)
theorem Search.done {t : Task} (wf : Wf t) {u0 : State} {W S : Ent → Prop} (D : Search t u0 W S fun _ _ => False) (no : ∀ e, ¬ W e) : Settled t u0 S where
  real := fun e h => D.real e (.inr h)
  all := fun l v hv => by
    rcases D.leads wf l v hv with ⟨p, hp⟩ | ⟨x, q, hq, _⟩
    · exact ⟨p, hp, D.best _ hp l hv⟩
    · exact (no _ hq).elim
/-- the best of those that are as wished -/
theorem Settled.plan {t : Task} {u0 : State} {S : Ent → Prop} (D : Settled t u0 S) {P : State → Bool} {e : Ent} (se : S e) (pe : P e.1 = true) (least : ∀ x, S x → P x.1 = true → Le e.2 x.2) : Best t u0 P (some e.2) := by
  obtain ⟨p, w⟩ := D.real e se
  refine ⟨p, ⟨e.1, w, pe⟩, fun l v hv pv => ?_⟩
  obtain ⟨q, sq, le⟩ := D.all l v hv
  exact (least _ sq pv).trans le
theorem Settled.none_ {t : Task} {u0 : State} {S : Ent → Prop} (D : Settled t u0 S) {P : State → Bool} (no : ∀ x, S x → P x.1 = false) : Best t u0 P none := by
  intro l v hv
  obtain ⟨q, sq, _⟩ := D.all l v hv
  exact no _ sq
theorem Settled.least {t : Task} {u0 : State} {S : Ent → Prop} (D : Settled t u0 S) {P : State → Bool} {e : Ent} (se : S e) (pe : P e.1 = true) (least : ∀ x, S x → P x.1 = true → e.2.1 ≤ x.2.1) : Least t u0 P (some e.2.1) := by
  obtain ⟨p, w⟩ := D.real e se
  refine ⟨⟨e.2.2, e.1, w, pe, (congrArg Prod.fst p).symm⟩, fun l v hv pv => ?_⟩
  obtain ⟨q, sq, le⟩ := D.all l v hv
  exact Nat.le_trans (least _ sq pv) le.cost
theorem Settled.noLeast {t : Task} {u0 : State} {S : Ent → Prop} (D : Settled t u0 S) {P : State → Bool} (no : ∀ x, S x → P x.1 = false) : Least t u0 P none := by
  intro l v hv
  obtain ⟨q, sq, _⟩ := D.all l v hv
  exact no _ sq
end Tk
namespace Tk
open L2 PySem PySem.Spec PyProof.Rows
def top (i : Nat) : Stmt := PySem.Challenge.pw_tankplans_s01_answers.main.body.getD i (.Pass ⟨0, 0, 0, 0⟩)
abbrev sFCF : Stmt := top 13
abbrev sRF : Stmt := top 14
abbrev sFF : Stmt := top 15
abbrev sAF : Stmt := top 16
abbrev sANF : Stmt := top 17
abbrev sASF : Stmt := top 18
abbrev sASsF : Stmt := top 19
structure TxF (mg : Str → Option Value) : Prop where
  mostFacts : GI mg "MOST_FACTS" 3
  mostStores : GI mg "MOST_STORES" 2
  mostRoom : GI mg "MOST_ROOM" 7
  mostCost : GI mg "MOST_COST" 1000
  actNumbers : GI mg "ACT_NUMBERS" 5
  storeNumbers : GI mg "STORE_NUMBERS" 4
  len : mg "len" = none
  zip : mg "zip" = none
section
variable {P : Program} {w : World} {K : PySem.W.Frag} {mg : Str → Option Value} {base : Heap}
def spFCF : Sp := fun vs H Q _ => ∃ n : Nat, vs = [nv n] ∧ Q (.bl (decide (1 ≤ n) && decide (n ≤ 3))) H
theorem scFCF : FnScope ["fact_count"] ["fact_count"] (defScope sFCF) := ⟨rfl, rfl, rfl, by decide +kernel, rfl, by decide +kernel, by decide +kernel⟩
theorem ok_FCF {f : Addr} {fd : FuncData} (F : Fun K "fact_count_fits" "fact_count_fits" sFCF f fd) (T : TxF mg) : FnOk P w K mg base CX0 1 f fd ["fact_count"] spFCF := by
  refine F.ok scFCF (fun vs H Q E h => ?_) (fun cdv A outer s H vs Q E hr h => ?_)
  · obtain ⟨n, rfl, _⟩ := h
    rfl
  · obtain ⟨n, rfl, k⟩ := h
    refine ⟨_, pss_one (ps_ret (pe_and (pe_cmp (pc_le pe_int (pv 0))) (pe_one (pe_cmp (pc_le (pv 0) (pe_gint rfl T.mostFacts)))))), ?_⟩
    refine ⟨_, rfl, _, _, rfl, rfl, _, rfl, ?_⟩
    refine ifd (fun c => ?_) (fun c => ?_)
    · rw [decide_eq_true (show 1 ≤ n by omega)] at k
      refine ⟨_, rfl, _, _, rfl, rfl, ?_⟩
      have e : decide ((n : Int) ≤ 3) = decide (n ≤ 3) := by simp; omega
      simpa [e] using k
    · rw [decide_eq_false (show ¬ 1 ≤ n by omega)] at k
      exact k

def spRF (K : PySem.W.Frag) : Sp := fun vs H Q _ => ∃ (a : Addr) (rs : List Nat), vs = [.ref a] ∧ SqL K H a (nvs rs) ∧ Q (.bl (decide (rs.length ≤ 2) && rs.all roomOk)) H
theorem scRF : FnScope ["rooms", "room"] ["rooms"] (defScope sRF) := ⟨rfl, rfl, rfl, by decide +kernel, rfl, by decide +kernel, by decide +kernel⟩
theorem ok_RF {f : Addr} {fd : FuncData} (F : Fun K "rooms_fit" "rooms_fit" sRF f fd) (T : TxF mg) : FnOk P w K mg base CX0 1 f fd ["rooms"] (spRF K) := by
  refine F.ok scRF (fun vs H Q E h => ?_) (fun cdv A outer s H vs Q E hr h => ?_)
  · obtain ⟨a, rs, rfl, _⟩ := h
    rfl
  · obtain ⟨a, rs, rfl, hS, k⟩ := h
    refine ⟨_, pss_cons (ps_if (pt_cmpR op_gt (pe_callB call_len_seq (by rfl) T.len PySem.boot_len (pa_cons (pv 0) pa_nil)) (pe_gint rfl T.mostStores) (nomark _)) (pss_one (ps_ret pe_bl)) pss_nil)
      (pss_cons (ps_for PassesOwn.never rfl (pi_list (pv 0)) (pg_name (i := 1) scRF.nd rfl (Or.inl rfl))
        (pss_one (ps_if (PW.pt (pw_or (pt_cmpR op_lt (pv 1) pe_int (nomark _)) (pw_or1 (pt_cmpR op_gt (pv 1) (pe_gint rfl T.mostRoom) (nomark _))))) (pss_one (ps_ret pe_bl)) pss_nil)))
      (pss_one (ps_ret pe_bl))), ?_⟩
    refine ⟨_, rfl, a, _, rfl, .inl hS, _, _, rfl, rfl, _, rfl, ?_⟩
    rw [List.length_map]
    refine ifd (fun c => ?_) (fun c => ?_)
    · rw [decide_eq_false (show ¬ rs.length ≤ 2 by omega)] at k
      exact k
    · rw [decide_eq_true (show rs.length ≤ 2 by omega)] at k
      refine ⟨_, rfl, a, rfl, ⟨_, hS⟩, for_list (K := K) (a := a) (xs := nvs rs) (fun i σ H' => H' = H ∧ (∃ v, σ = [some (.ref a), v]) ∧ (rs.take i).all roomOk = true) ⟨rfl, ⟨_, rfl⟩, rfl⟩ (fun i σ H' _ h => h.1 ▸ hS) ?_ ?_⟩
      · rintro i y σ H' hi ⟨rfl, ⟨v, rfl⟩, ha⟩
        obtain ⟨z, hz, rfl⟩ := map_at hi
        refine ⟨_, rfl, _, _, rfl, rfl, _, rfl, ?_⟩
        refine ifd (fun c => ?_) (fun c => ?_)
        · refine iteT ?_
          rw [all_false_at hz (by simp [roomOk]; omega)] at k
          exact k
        · refine ⟨_, rfl, _, _, rfl, rfl, _, rfl, ?_⟩
          refine ifd (fun c' => ?_) (fun c' => ?_)
          · rw [all_false_at hz (by simp [roomOk]; omega)] at k
            exact k
          · exact ⟨rfl, ⟨_, rfl⟩, all_take_more hz ha (by simp [roomOk]; omega)⟩
      · rintro σ H' ⟨rfl, ⟨v, rfl⟩, ha⟩
        rw [List.length_map, List.take_length] at ha
        rw [ha] at k
        exact k

def spFF : Sp := fun vs H Q _ => ∃ (s n : Nat), vs = [nv s, nv n] ∧ Q (.bl (decide (s < 2 ^ n))) H
theorem scFF : FnScope ["facts", "fact_count"] ["facts", "fact_count"] (defScope sFF) := ⟨rfl, rfl, rfl, by decide +kernel, rfl, by decide +kernel, by decide +kernel⟩
theorem shr_zero (s n : Nat) : ((s : Int) / 2 ^ ((n : Int).toNat) = 0) ↔ s < 2 ^ n := by
  have e : (s : Int) / 2 ^ ((n : Int).toNat) = ((s / 2 ^ n : Nat) : Int) := by
    rw [Int.toNat_natCast]
    simp
  rw [e]
  have p : 0 < 2 ^ n := Nat.two_pow_pos n
  constructor
  · intro h
    have h' : s / 2 ^ n = 0 := by omega
    exact (Nat.div_eq_zero_iff_lt p).mp h'
  · intro h
    rw [(Nat.div_eq_zero_iff_lt p).mpr h]
    rfl
theorem ok_FF {f : Addr} {fd : FuncData} (F : Fun K "facts_fit" "facts_fit" sFF f fd) : FnOk P w K mg base CX0 1 f fd ["facts", "fact_count"] spFF := by
  refine F.ok scFF (fun vs H Q E h => ?_) (fun cdv A outer s H vs Q E hr h => ?_)
  · obtain ⟨s, n, rfl, _⟩ := h
    rfl
  · obtain ⟨x, n, rfl, k⟩ := h
    refine ⟨_, pss_one (ps_ret (pe_cmp (pc_eqI (pe_op op_shr (pv 0) (pv 1)) pe_int))), ?_⟩
    refine ⟨_, rfl, _, rfl, _, _, rfl, rfl, ?_, _, _, rfl, rfl, ?_⟩
    · exact Int.natCast_nonneg n
    · have e : decide ((x : Int) / 2 ^ ((n : Int).toNat) = 0) = decide (x < 2 ^ n) := by
        exact decide_eq_decide.mpr (shr_zero x n)
      show Q (.bl (decide ((x : Int) / 2 ^ ((n : Int).toNat) = 0))) H
      rw [e]
      exact k

def spAF (K : PySem.W.Frag) : Sp := fun vs H Q _ => ∃ (a b : Addr) (xs rs : List Nat), vs = [.ref a, .ref b] ∧ SqL K H a (nvs xs) ∧ SqL K H b (nvs rs) ∧ ∀ H', Same H H' → Q (.bl (xs.length == rs.length && (rs.zip xs).all amOk)) H'
theorem scAF : FnScope ["amounts", "rooms", "amount", "room"] ["amounts", "rooms"] (defScope sAF) := ⟨rfl, rfl, rfl, by decide +kernel, rfl, by decide +kernel, by decide +kernel⟩
theorem ok_AF {f : Addr} {fd : FuncData} (F : Fun K "amounts_fit" "amounts_fit" sAF f fd) (T : TxF mg) : FnOk P w K mg base CX0 1 f fd ["amounts", "rooms"] (spAF K) := by
  refine F.ok scAF (fun vs H Q E h => ?_) (fun cdv A outer s H vs Q E hr h => ?_)
  · obtain ⟨a, b, xs, rs, rfl, _⟩ := h
    rfl
  · obtain ⟨a, b, xs, rs, rfl, hA, hB, k⟩ := h
    refine ⟨_, pss_cons (ps_if (pt_cmp (pc_neI (pe_callB call_len_seq (by rfl) T.len PySem.boot_len (pa_cons (pv 0) pa_nil)) (pe_callB call_len_seq (by rfl) T.len PySem.boot_len (pa_cons (pv 1) pa_nil)))) (pss_one (ps_ret pe_bl)) pss_nil)
      (pss_cons (ps_for PassesOwn.never rfl (pi_zip (by rfl) T.zip (pa_cons (pv 0) (pa_cons (pv 1) pa_nil))) (pg_tup rfl (pgs_cons (pg_name (i := 2) scAF.nd rfl (Or.inl rfl)) (pgs_cons (pg_name (i := 3) scAF.nd rfl (Or.inl rfl)) pgs_nil)))
        (pss_one (ps_if (pt_cmp (pc_gt (pv 2) (pv 3))) (pss_one (ps_ret pe_bl)) pss_nil)))
      (pss_one (ps_ret pe_bl))), ?_⟩
    refine ⟨_, rfl, a, _, rfl, .inl hA, _, rfl, b, _, rfl, .inl hB, _, _, rfl, rfl, _, rfl, ?_⟩
    rw [List.length_map, List.length_map]
    refine ifnd (fun c => ?_) (fun c => ?_)
    · have e : (xs.length == rs.length) = false := by simp; omega
      rw [e] at k
      exact k H (Same.refl H)
    · have el : xs.length = rs.length := by omega
      have e : (xs.length == rs.length) = true := by simp [el]
      rw [e] at k
      refine ⟨_, rfl, _, rfl, a, b, _, _, rfl, hA, hB, RZ.for_zipL (K := K) (a := a) (b := b) (xs := nvs xs) (ys := nvs rs) (by simp [el]) (fun i σ H' => Same H H' ∧ (∃ v w, σ = [some (.ref a), some (.ref b), v, w]) ∧ ((rs.zip xs).take i).all amOk = true) ⟨Same.refl H, ⟨_, _, rfl⟩, rfl⟩ (fun i σ H' h => ⟨h.1.seq hA, h.1.seq hB⟩) ?_ ?_⟩
      · rintro i x y T0 σ H' hx hy ⟨sm, ⟨v, w', rfl⟩, ha⟩ hT
        obtain ⟨x, hx', rfl⟩ := map_at hx
        obtain ⟨y, hy', rfl⟩ := map_at hy
        have sm' := sm.trans (Same.upd (o := .tup [nv x, nv y]) hT)
        have hz : (rs.zip xs)[i]? = some (y, x) := by
          rw [List.getElem?_zip_eq_some]; exact ⟨hy', hx'⟩
        refine ⟨T0, _, rfl, SqT.of upd_same, rfl, _, _, rfl, _, _, rfl, rfl, ?_⟩
        refine ⟨_, rfl, _, rfl, _, _, rfl, rfl, _, rfl, ?_⟩
        refine ifd (fun c => ?_) (fun c => ?_)
        · rw [all_false_at hz (by simp [amOk]; omega)] at k
          exact k _ sm'
        · exact ⟨sm', ⟨_, _, rfl⟩, all_take_more hz ha (by simp [amOk]; omega)⟩
      · rintro σ H' ⟨sm, ⟨v, w', rfl⟩, ha⟩
        have hl : (nvs xs).length = (rs.zip xs).length := by simp [el]
        rw [hl, List.take_length] at ha
        rw [ha] at k
        exact k _ sm

def spANF (K : PySem.W.Frag) : Sp := fun vs H Q _ => ∃ (a : Addr) (ns : List Nat) (n : Nat), vs = [.ref a, nv n] ∧ SqL K H a (nvs ns) ∧ ∀ H', Same H H' → Q (.bl (numOk n ns)) H'
theorem scANF : FnScope ["numbers", "fact_count", "facts", "cost"] ["numbers", "fact_count"] (defScope sANF) := ⟨rfl, rfl, rfl, by decide +kernel, rfl, by decide +kernel, by decide +kernel⟩
theorem ok_ANF {f fF : Addr} {fd fdF : FuncData} (F : Fun K "act_numbers_fit" "act_numbers_fit" sANF f fd) (T : TxF mg) (FF : Fun K "facts_fit" "facts_fit" sFF fF fdF) (bF : Binds K fdF ["facts", "fact_count"] []) (gF : mg "facts_fit" = some (.ref fF)) : FnOk P w K mg base CX0 2 f fd ["numbers", "fact_count"] (spANF K) := by
  have GF : FnOk P w K mg base CX0 1 fF fdF ["facts", "fact_count"] spFF := ok_FF FF
  refine F.ok scANF (fun vs H Q E h => ?_) (fun cdv A outer s H vs Q E hr h => ?_)
  · obtain ⟨a, ns, n, rfl, _⟩ := h
    rfl
  · obtain ⟨a, ns, n, rfl, hA, k⟩ := h
    refine ⟨_, pss_cons (ps_if (pt_cmp (pc_neI (pe_callB call_len_seq (by rfl) T.len PySem.boot_len (pa_cons (pv 0) pa_nil)) (pe_gint rfl T.actNumbers))) (pss_one (ps_ret pe_bl)) pss_nil)
      (pss_cons (ps_for PassesOwn.never rfl (pi_list (pe_slice sl_list (pv 0) po_none (po_some pe_int))) (pg_name (i := 2) scANF.nd rfl (Or.inl rfl))
        (pss_one (ps_if (pt_not (pt_val (pe_call GF hr rfl gF FF.kp bF .nil pass0 (pa_cons (pv 2) (pa_cons (pv 1) pa_nil))))) (pss_one (ps_ret pe_bl)) pss_nil)))
      (pss_cons (ps_set (i := 3) scANF.nd rfl (Or.inl rfl) (pe_ix ix_list (pv 0) pe_int (fun _ _ => rfl)))
      (pss_one (ps_ret (pe_and (pe_cmp (pc_le pe_int (pv 3))) (pe_one (pe_cmp (pc_le (pv 3) (pe_gint rfl T.mostCost))))))))), ?_⟩
    refine ⟨_, rfl, a, _, rfl, .inl hA, _, _, rfl, rfl, _, rfl, ?_⟩
    rw [List.length_map]
    refine ifnd (fun c => ?_) (fun c => ?_)
    · have e : numOk n ns = false := by
        have : (ns.length == 5) = false := by simp; omega
        simp only [numOk, this, Bool.false_and]
      rw [e] at k
      exact k H (Same.refl H)
    · have el : ns.length = 5 := by omega
      have e : numOk n ns = ((ns.take 4).all (factOk n) && (decide (1 ≤ ns.getD 4 0) && decide (ns.getD 4 0 ≤ 1000))) := by
        simp only [numOk, el, beq_self_eq_true, Bool.true_and]
      rw [e] at k
      refine ⟨_, rfl, _, rfl, a, _, rfl, hA, fun p hp => ?_⟩
      have cut : cutV (nvs ns) none (some 4) = nvs (ns.take 4) := by
        rw [← take_nvs]; exact cut_to _ 4
      rw [cut]
      have s1 : Same H (upd H p (.lst (nvs (ns.take 4)))) := Same.upd hp
      refine ⟨p, rfl, ⟨_, SqL.of upd_same⟩, for_list (K := K) (a := p) (xs := nvs (ns.take 4)) (fun i σ H' => H' = upd H p (.lst (nvs (ns.take 4))) ∧ (∃ v, σ = [some (.ref a), some (nv n), v, none]) ∧ ((ns.take 4).take i).all (factOk n) = true) ⟨rfl, ⟨_, rfl⟩, rfl⟩ (fun i σ H' _ h => h.1 ▸ SqL.of upd_same) ?_ ?_⟩
      · rintro i y σ H' hi ⟨rfl, ⟨v, rfl⟩, ha⟩
        obtain ⟨z, hz, rfl⟩ := map_at hi
        refine ⟨_, rfl, _, rfl, z, n, rfl, _, rfl, ?_⟩
        refine ifnd (fun c => ?_) (fun c => ?_)
        · rw [all_false_at hz (by simp [factOk]; omega)] at k
          exact k _ s1
        · exact ⟨rfl, ⟨_, rfl⟩, all_take_more hz ha (by simp [factOk]; omega)⟩
      · rintro σ H' ⟨rfl, ⟨v, rfl⟩, ha⟩
        rw [List.length_map, List.take_length] at ha
        rw [ha] at k
        refine ⟨_, rfl, a, _, _, _, rfl, rfl, s1.seq hA, at_of (j := 4) (v := nv (ns.getD 4 0)) rfl ?_, ?_⟩
        · rw [List.getElem?_map, List.getD_eq_getElem?_getD, List.getElem?_eq_getElem (by omega)]; rfl
        · refine ⟨_, rfl, _, _, rfl, rfl, _, rfl, ?_⟩
          refine ifd (fun c => ?_) (fun c => ?_)
          · rw [decide_eq_true (show 1 ≤ ns.getD 4 0 by omega)] at k
            refine ⟨_, rfl, _, _, rfl, rfl, ?_⟩
            have e : decide (((ns.getD 4 0 : Nat) : Int) ≤ 1000) = decide (ns.getD 4 0 ≤ 1000) := decide_eq_decide.mpr (by omega)
            have k' := k _ s1
            rw [Bool.true_and, Bool.true_and, ← e] at k'
            exact k'
          · rw [decide_eq_false (show ¬ 1 ≤ ns.getD 4 0 by omega)] at k
            exact k _ s1

def spASF (K : PySem.W.Frag) : Sp := fun vs H Q _ => ∃ (a : Addr) (ns : List Nat) (r : Nat), vs = [.ref a, nv r] ∧ SqL K H a (nvs ns) ∧ ∀ H', Same H H' → Q (.bl (storeOk (ns, r))) H'
theorem scASF : FnScope ["store", "room", "amount"] ["store", "room"] (defScope sASF) := ⟨rfl, rfl, rfl, by decide +kernel, rfl, by decide +kernel, by decide +kernel⟩
theorem ok_ASF {f : Addr} {fd : FuncData} (F : Fun K "act_store_fits" "act_store_fits" sASF f fd) (T : TxF mg) : FnOk P w K mg base CX0 1 f fd ["store", "room"] (spASF K) := by
  refine F.ok scASF (fun vs H Q E h => ?_) (fun cdv A outer s H vs Q E hr h => ?_)
  · obtain ⟨a, ns, n, rfl, _⟩ := h
    rfl
  · obtain ⟨a, ns, r, rfl, hA, k⟩ := h
    refine ⟨_, pss_cons (ps_if (pt_cmp (pc_neI (pe_callB call_len_seq (by rfl) T.len PySem.boot_len (pa_cons (pv 0) pa_nil)) (pe_gint rfl T.storeNumbers))) (pss_one (ps_ret pe_bl)) pss_nil)
      (pss_cons (ps_for PassesOwn.never rfl (pi_list (pe_slice sl_list (pv 0) po_none (po_some pe_int))) (pg_name (i := 2) scASF.nd rfl (Or.inl rfl))
        (pss_one (ps_if (pt_cmp (pc_gt (pv 2) (pv 1))) (pss_one (ps_ret pe_bl)) pss_nil)))
      (pss_one (ps_ret (pe_cmp (pc_le (pe_ix ix_list (pv 0) pe_int (fun _ _ => rfl)) pe_int))))), ?_⟩
    refine ⟨_, rfl, a, _, rfl, .inl hA, _, _, rfl, rfl, _, rfl, ?_⟩
    rw [List.length_map]
    refine ifnd (fun c => ?_) (fun c => ?_)
    · have e : storeOk (ns, r) = false := by
        have : (ns.length == 4) = false := by simp; omega
        simp only [storeOk, this, Bool.false_and]
      rw [e] at k
      exact k H (Same.refl H)
    · have el : ns.length = 4 := by omega
      have e : storeOk (ns, r) = ((ns.take 3).all (leR r) && decide (ns.getD 3 0 ≤ 1)) := by
        simp only [storeOk, el, beq_self_eq_true, Bool.true_and]
      rw [e] at k
      refine ⟨_, rfl, _, rfl, a, _, rfl, hA, fun p hp => ?_⟩
      have cut : cutV (nvs ns) none (some 3) = nvs (ns.take 3) := by
        rw [← take_nvs]; exact cut_to _ 3
      rw [cut]
      have s1 : Same H (upd H p (.lst (nvs (ns.take 3)))) := Same.upd hp
      refine ⟨p, rfl, ⟨_, SqL.of upd_same⟩, for_list (K := K) (a := p) (xs := nvs (ns.take 3)) (fun i σ H' => H' = upd H p (.lst (nvs (ns.take 3))) ∧ (∃ v, σ = [some (.ref a), some (nv r), v]) ∧ ((ns.take 3).take i).all (leR r) = true) ⟨rfl, ⟨_, rfl⟩, rfl⟩ (fun i σ H' _ h => h.1 ▸ SqL.of upd_same) ?_ ?_⟩
      · rintro i y σ H' hi ⟨rfl, ⟨v, rfl⟩, ha⟩
        obtain ⟨z, hz, rfl⟩ := map_at hi
        refine ⟨_, rfl, _, rfl, _, _, rfl, rfl, _, rfl, ?_⟩
        refine ifd (fun c => ?_) (fun c => ?_)
        · rw [all_false_at hz (by simp [leR]; omega)] at k
          exact k _ s1
        · exact ⟨rfl, ⟨_, rfl⟩, all_take_more hz ha (by simp [leR]; omega)⟩
      · rintro σ H' ⟨rfl, ⟨v, rfl⟩, ha⟩
        rw [List.length_map, List.take_length] at ha
        rw [ha] at k
        refine ⟨_, rfl, a, _, _, _, rfl, rfl, s1.seq hA, at_of (j := 3) (v := nv (ns.getD 3 0)) rfl (nv_at (by omega)), _, _, rfl, rfl, ?_⟩
        have e : decide (((ns.getD 3 0 : Nat) : Int) ≤ 1) = decide (ns.getD 3 0 ≤ 1) := decide_eq_decide.mpr (by omega)
        have k' := k _ s1
        rw [Bool.true_and, ← e] at k'
        exact k'

def spASsF (K : PySem.W.Frag) : Sp := fun vs H Q _ => ∃ (a b : Addr) (as : List Addr) (ss : List (List Nat)) (rs : List Nat), vs = [.ref a, .ref b] ∧ SqL K H a (as.map V.ref) ∧ RowsAt H as ss ∧ SqL K H b (nvs rs) ∧ ∀ H', Same H H' → Q (.bl (storesOk ss rs)) H'
theorem scASsF : FnScope ["stores", "rooms", "store", "room"] ["stores", "rooms"] (defScope sASsF) := ⟨rfl, rfl, rfl, by decide +kernel, rfl, by decide +kernel, by decide +kernel⟩
theorem ok_ASsF {f fF : Addr} {fd fdF : FuncData} (F : Fun K "act_stores_fit" "act_stores_fit" sASsF f fd) (T : TxF mg) (FF : Fun K "act_store_fits" "act_store_fits" sASF fF fdF) (bF : Binds K fdF ["store", "room"] []) (gF : mg "act_store_fits" = some (.ref fF)) : FnOk P w K mg base CX0 2 f fd ["stores", "rooms"] (spASsF K) := by
  have GF : FnOk P w K mg base CX0 1 fF fdF ["store", "room"] (spASF K) := ok_ASF FF T
  refine F.ok scASsF (fun vs H Q E h => ?_) (fun cdv A outer s H vs Q E hr h => ?_)
  · obtain ⟨a, b, as, ss, rs, rfl, _⟩ := h
    rfl
  · obtain ⟨a, b, as, ss, rs, rfl, hA, hR, hB, k⟩ := h
    refine ⟨_, pss_cons (ps_if (pt_cmp (pc_neI (pe_callB call_len_seq (by rfl) T.len PySem.boot_len (pa_cons (pv 0) pa_nil)) (pe_callB call_len_seq (by rfl) T.len PySem.boot_len (pa_cons (pv 1) pa_nil)))) (pss_one (ps_ret pe_bl)) pss_nil)
      (pss_cons (ps_for PassesOwn.never rfl (pi_zip (by rfl) T.zip (pa_cons (pv 0) (pa_cons (pv 1) pa_nil))) (pg_tup rfl (pgs_cons (pg_name (i := 2) scASsF.nd rfl (Or.inl rfl)) (pgs_cons (pg_name (i := 3) scASsF.nd rfl (Or.inl rfl)) pgs_nil)))
        (pss_one (ps_if (pt_not (pt_val (pe_call GF hr rfl gF FF.kp bF .nil pass0 (pa_cons (pv 2) (pa_cons (pv 3) pa_nil))))) (pss_one (ps_ret pe_bl)) pss_nil)))
      (pss_one (ps_ret pe_bl))), ?_⟩
    refine ⟨_, rfl, a, _, rfl, .inl hA, _, rfl, b, _, rfl, .inl hB, _, _, rfl, rfl, _, rfl, ?_⟩
    rw [List.length_map, List.length_map]
    have hl := hR.len
    unfold storesOk at k
    refine ifnd (fun c => ?_) (fun c => ?_)
    · have e : (ss.length == rs.length) = false := by simp; omega
      rw [e] at k
      exact k H (Same.refl H)
    · have el : ss.length = rs.length := by omega
      have e : (ss.length == rs.length) = true := by simp [el]
      rw [e] at k
      refine ⟨_, rfl, _, rfl, a, b, _, _, rfl, hA, hB, RZ.for_zipL (K := K) (a := a) (b := b) (xs := as.map V.ref) (ys := nvs rs) (by simp [el, hl]) (fun i σ H' => Same H H' ∧ (∃ v w, σ = [some (.ref a), some (.ref b), v, w]) ∧ ((ss.zip rs).take i).all storeOk = true) ⟨Same.refl H, ⟨_, _, rfl⟩, rfl⟩ (fun i σ H' h => ⟨h.1.seq hA, h.1.seq hB⟩) ?_ ?_⟩
      · rintro i x y T0 σ H' hx hy ⟨sm, ⟨v, w', rfl⟩, ha⟩ hT
        obtain ⟨x, hx', rfl⟩ := map_at hx
        obtain ⟨y, hy', rfl⟩ := map_at hy
        obtain ⟨row, hrow⟩ : ∃ row, ss[i]? = some row := ⟨_, List.getElem?_eq_getElem (by have := (List.getElem?_eq_some_iff.mp hx').1; omega)⟩
        have sm' := sm.trans (Same.upd (o := .tup [.ref x, nv y]) hT)
        have hz : (ss.zip rs)[i]? = some (row, y) := by
          rw [List.getElem?_zip_eq_some]; exact ⟨hrow, hy'⟩
        refine ⟨T0, _, rfl, SqT.of upd_same, rfl, _, _, rfl, _, _, rfl, rfl, ?_⟩
        refine ⟨_, rfl, _, rfl, x, row, y, rfl, SqL.of (sm' _ _ (hR.row i x row hx' hrow)), fun H2 s2 => ⟨_, rfl, ?_⟩⟩
        refine ifnb (fun c => ?_) (fun c => ?_)
        · rw [all_false_at hz c] at k
          exact k _ (sm'.trans s2)
        · exact ⟨sm'.trans s2, ⟨_, _, rfl⟩, all_take_more hz ha c⟩
      · rintro σ H' ⟨sm, ⟨v, w', rfl⟩, ha⟩
        have hl : (as.map V.ref).length = (ss.zip rs).length := by simp [el, hl]
        rw [hl, List.take_length] at ha
        rw [ha] at k
        exact k _ sm
end
end Tk
namespace Tk
open L2 PySem PySem.Spec PyProof.Rows
abbrev sCI : Stmt := inClass (top 24) 0
abbrev sRI : Stmt := inClass (top 25) 0
abbrev sRM : Stmt := inClass (top 25) 1
abbrev sRN : Stmt := inClass (top 25) 2
abbrev sRL : Stmt := inClass (top 25) 3
abbrev sRLs : Stmt := inClass (top 25) 4
abbrev sRC : Stmt := inClass (top 25) 5
/-! what is left of a list -/
theorem drop_cons {l : List Nat} {p n : Nat} {r : List Nat} (h : l.drop p = n :: r) : l[p]? = some n ∧ l.drop (p + 1) = r ∧ p < l.length := by
  have hp : p < l.length := by
    by_cases q : p < l.length
    · exact q
    · rw [List.drop_of_length_le (by omega)] at h; cases h
  rw [List.drop_eq_getElem_cons hp] at h
  cases h
  exact ⟨List.getElem?_eq_getElem hp, rfl, hp⟩
theorem drop_app {l : List Nat} {p : Nat} {x r : List Nat} (h : l.drop p = x ++ r) : (l.drop p).take x.length = x ∧ l.drop (p + x.length) = r ∧ (x = [] ∨ p + x.length ≤ l.length) := by
  refine ⟨by rw [h]; simp, ?_, ?_⟩
  · rw [← List.drop_drop, h]; simp
  · by_cases q : p + x.length ≤ l.length
    · exact .inr q
    · left
      have := congrArg List.length h
      rw [List.length_drop, List.length_append] at this
      exact List.length_eq_zero_iff.mp (by omega)
/-! the reader in the heap -/
def rdF (a : Addr) (p : Nat) : List (Str × V) := [("numbers", .ref a), ("place", nv p)]
def RdAt (C : Addr) (H : Hp) (r a : Addr) (p : Nat) : Prop := ∃ dx, H r = some (.ins C dx (rdF a p))
structure TxR (K : PySem.W.Frag) (mg : Str → Option Value) (C CC : Addr) : Prop where
  cl : Cls K C
  nN : NoAttr K C "numbers"
  nP : NoAttr K C "place"
  gC : mg "Reader" = some (.ref C)
  ccl : Cls K CC
  cN : NoAttr K CC "number"
  cW : NoAttr K CC "wholes"
  cL : NoAttr K CC "lists"
  gCC : mg "Call" = some (.ref CC)
  len : mg "len" = none
section
variable {P : Program} {w : World} {K : PySem.W.Frag} {mg : Str → Option Value} {base : Heap} {C CC : Addr}
def spRI (C : Addr) : Sp := fun vs H Q _ => ∃ (p dx a : Addr), vs = [.ref p, .ref a] ∧ H p = some (.ins C dx []) ∧ ∀ H' : Hp, RdAt C H' p a 0 → Kept p H H' → Q .non H'
theorem scRI : FnScope ["self", "numbers"] ["self", "numbers"] (defScope sRI) := ⟨rfl, rfl, rfl, by decide +kernel, rfl, by decide +kernel, by decide +kernel⟩
theorem ok_RI {f : Addr} {fd : FuncData} (F : Fun K "__init__" "Reader.__init__" sRI f fd) (T : TxR K mg C CC) : FnOk P w K mg base CX0 1 f fd ["self", "numbers"] (spRI C) := by
  refine F.ok scRI (fun vs H Q E h => ?_) (fun cdv A outer s H vs Q E hr h => ?_)
  · obtain ⟨p, dx, a, rfl, _⟩ := h
    rfl
  · obtain ⟨p, dx, a, rfl, hp, k⟩ := h
    refine ⟨_, pss_cons (ps_fld (pv 0) (pv 1) rfl) (pss_one (ps_fld (pv 0) pe_int rfl)), ?_⟩
    refine ⟨_, rfl, _, rfl, p, C, dx, [], rfl, hp, T.cl, T.nN, (by show 0 < 1000; decide), ?_⟩
    refine ⟨_, rfl, p, C, dx, _, rfl, upd_same, T.cl, T.nP, (by show 1 < 1000; decide), ?_⟩
    exact k _ ⟨dx, upd_same⟩ (kept_upd.trans kept_upd)

def spRM (K : PySem.W.Frag) (C : Addr) : Sp := fun vs H Q _ => ∃ (r a : Addr) (l : List Nat) (p : Nat), vs = [.ref r] ∧ RdAt C H r a p ∧ SqL K H a (nvs l) ∧ Q (.bl (decide (p < l.length))) H
theorem scRM : FnScope ["self"] ["self"] (defScope sRM) := ⟨rfl, rfl, rfl, by decide +kernel, rfl, by decide +kernel, by decide +kernel⟩
theorem ok_RM {f : Addr} {fd : FuncData} (F : Fun K "has_more" "Reader.has_more" sRM f fd) (T : TxR K mg C CC) : FnOk P w K mg base CX0 1 f fd ["self"] (spRM K C) := by
  refine F.ok scRM (fun vs H Q E h => ?_) (fun cdv A outer s H vs Q E hr h => ?_)
  · obtain ⟨r, a, l, p, rfl, _⟩ := h
    rfl
  · obtain ⟨r, a, l, p, rfl, ⟨dx, hp⟩, hA, k⟩ := h
    refine ⟨_, pss_one (ps_ret (pe_cmp (pc_lt (pe_fld (pv 0) rfl) (pe_callB call_len_seq (by rfl) T.len PySem.boot_len (pa_cons (pe_fld (pv 0) rfl) pa_nil))))), ?_⟩
    refine ⟨_, rfl, r, C, dx, _, _, rfl, hp, T.cl, T.nP, rfl, _, rfl, r, C, dx, _, _, rfl, hp, T.cl, T.nN, rfl, a, _, rfl, .inl hA, _, _, rfl, rfl, ?_⟩
    have e : decide ((p : Int) < ((nvs l).length : Int)) = decide (p < l.length) := decide_eq_decide.mpr (by rw [List.length_map]; omega)
    show Q (.bl (decide ((p : Int) < ((nvs l).length : Int)))) H
    rw [e]
    exact k

def spRN (K : PySem.W.Frag) (C : Addr) : Sp := fun vs H Q _ => ∃ (r a : Addr) (l : List Nat) (p n : Nat) (rest : List Nat), vs = [.ref r] ∧ RdAt C H r a p ∧ SqL K H a (nvs l) ∧ l.drop p = n :: rest ∧
  ∀ H' : Hp, RdAt C H' r a (p + 1) → Kept r H H' → Q (nv n) H'
theorem scRN : FnScope ["self", "number"] ["self"] (defScope sRN) := ⟨rfl, rfl, rfl, by decide +kernel, rfl, by decide +kernel, by decide +kernel⟩
theorem ok_RN {f : Addr} {fd : FuncData} (F : Fun K "read_number" "Reader.read_number" sRN f fd) (T : TxR K mg C CC) : FnOk P w K mg base CX0 1 f fd ["self"] (spRN K C) := by
  refine F.ok scRN (fun vs H Q E h => ?_) (fun cdv A outer s H vs Q E hr h => ?_)
  · obtain ⟨r, a, l, p, n, rest, rfl, _⟩ := h
    rfl
  · obtain ⟨r, a, l, p, n, rest, rfl, ⟨dx, hp⟩, hA, hd, k⟩ := h
    obtain ⟨d1, d2, d3⟩ := drop_cons hd
    refine ⟨_, pss_cons (ps_set (i := 1) scRN.nd rfl (Or.inl rfl) (pe_ix ix_list (pe_fld (pv 0) rfl) (pe_fld (pv 0) rfl) (fun _ _ => rfl)))
      (pss_cons (ps_fld (pv 0) (pe_op op_add (pe_fld (pv 0) rfl) pe_int) rfl) (pss_one (ps_ret (pv 1)))), ?_⟩
    refine ⟨_, rfl, r, C, dx, _, _, rfl, hp, T.cl, T.nN, rfl, _, rfl, r, C, dx, _, _, rfl, hp, T.cl, T.nP, rfl, a, _, _, _, rfl, rfl, hA, at_of (j := p) (v := nv n) rfl (by rw [List.getElem?_map, d1]; rfl), ?_⟩
    refine ⟨_, rfl, r, C, dx, _, _, rfl, hp, T.cl, T.nP, rfl, _, _, rfl, rfl, _, rfl, r, C, dx, _, rfl, hp, T.cl, T.nP, (by show 2 < 1000; decide), ?_⟩
    exact ⟨_, rfl, k _ ⟨dx, upd_same⟩ kept_upd⟩

def spRL (K : PySem.W.Frag) (C : Addr) : Sp := fun vs H Q _ => ∃ (r a : Addr) (l : List Nat) (p : Nat) (x rest : List Nat), vs = [.ref r] ∧ RdAt C H r a p ∧ SqL K H a (nvs l) ∧ l.drop p = x.length :: (x ++ rest) ∧
  ∀ (H' : Hp) (q : Addr) (p' : Nat), RdAt C H' r a p' → l.drop p' = rest → Kept r H H' → H q = none → H' q = some (.lst (nvs x)) → Q (.ref q) H'
theorem scRL : FnScope ["self", "length", "first"] ["self"] (defScope sRL) := ⟨rfl, rfl, rfl, by decide +kernel, rfl, by decide +kernel, by decide +kernel⟩
theorem ok_RL {f fN : Addr} {fd fdN : FuncData} (F : Fun K "read_list" "Reader.read_list" sRL f fd) (T : TxR K mg C CC) (FN : Fun K "read_number" "Reader.read_number" sRN fN fdN) (bN : Binds K fdN ["self"] []) (mN : Meth K C "read_number" fN) : FnOk P w K mg base CX0 2 f fd ["self"] (spRL K C) := by
  have GN : FnOk P w K mg base CX0 1 fN fdN ["self"] (spRN K C) := ok_RN FN T
  refine F.ok scRL (fun vs H Q E h => ?_) (fun cdv A outer s H vs Q E hr h => ?_)
  · obtain ⟨r, a, l, p, x, rest, rfl, _⟩ := h
    rfl
  · obtain ⟨r, a, l, p, x, rest, rfl, ⟨dx, hp⟩, hA, hd, k⟩ := h
    obtain ⟨d1, d2, d3⟩ := drop_cons hd
    obtain ⟨c1, c2, c3⟩ := drop_app d2
    refine ⟨_, pss_cons (ps_set (i := 1) scRL.nd rfl (Or.inl rfl) (pe_meth0 (pv 0) T.cl mN GN hr bN .nil pass0))
      (pss_cons (ps_set (i := 2) scRL.nd rfl (Or.inl rfl) (pe_fld (pv 0) rfl))
      (pss_cons (ps_fld (pv 0) (pe_op op_add (pv 2) (pv 1)) rfl)
      (pss_one (ps_ret (pe_slice sl_list (pe_fld (pv 0) rfl) (po_some (pv 2)) (po_some (pe_fld (pv 0) rfl))))))), ?_⟩
    refine ⟨_, rfl, r, dx, _, rfl, hp, rfl, r, a, l, p, x.length, _, rfl, ⟨dx, hp⟩, hA, hd, fun H1 ⟨dx1, h1⟩ k1 => ?_⟩
    refine ⟨_, rfl, r, C, dx1, _, _, rfl, h1, T.cl, T.nP, rfl, ?_⟩
    refine ⟨_, rfl, _, rfl, _, _, rfl, rfl, _, rfl, r, C, dx1, _, rfl, h1, T.cl, T.nP, (by show 2 < 1000; decide), ?_⟩
    refine ⟨_, rfl, r, C, dx1, _, _, rfl, upd_same, T.cl, T.nN, rfl, ?_⟩
    have hlen : p + 1 + x.length ≤ l.length := by
      rcases c3 with rfl | c3
      · show p + 1 + 0 ≤ l.length; omega
      · exact c3
    refine ⟨_, rfl, _, rfl, _, rfl, r, C, dx1, _, _, rfl, upd_same, T.cl, T.nP, rfl, _, rfl, a, _, rfl, sq_ins hA hp (k1.trans kept_upd), fun q hq => ?_⟩
    have e : cutV (nvs l) (some ((p + 1 : Nat) : Int)) (some (((p + 1 : Nat) : Int) + (x.length : Int))) = nvs x := by
      rw [cut_mid _ _ _ (by rw [List.length_map]; exact hlen), ← List.map_drop, take_nvs, c1]
    rw [e]
    have kk : Kept r H (upd H1 r (.ins C dx1 (rdF a (p + 1 + x.length)))) := k1.trans kept_upd
    have hqr : q ≠ r := fun z => by rw [z] at hq; exact absurd (hq.symm.trans upd_same) (by simp)
    refine k _ q (p + 1 + x.length) ⟨dx1, ?_⟩ c2 (fun b o hb hn => ?_) (kk.free hq hqr) upd_same
    · rw [upd_ne (Ne.symm hqr)]; exact upd_same
    · have hb' := kk b o hb hn
      rw [upd_ne (fun z => by rw [z] at hb'; exact absurd (hq.symm.trans hb') (by simp))]
      exact hb'

/-- rows newly made -/
def spRLs (K : PySem.W.Frag) (C : Addr) : Sp := fun vs H Q _ => ∃ (r a : Addr) (l : List Nat) (p : Nat) (xs : List (List Nat)) (rest : List Nat), vs = [.ref r] ∧ RdAt C H r a p ∧ SqL K H a (nvs l) ∧ xs.length ≤ 1000 ∧ l.drop p = xs.length :: (putNs xs ++ rest) ∧
  ∀ (H' : Hp) (q : Addr) (as : List Addr) (p' : Nat), RdAt C H' r a p' → l.drop p' = rest → Kept r H H' → H q = none → H' q = some (.lst (as.map V.ref)) → (∀ b ∈ as, H b = none) → RowsAt H' as xs → Q (.ref q) H'
theorem scRLs : FnScope ["self", "how_many", "lists"] ["self"] (defScope sRLs) := ⟨rfl, rfl, rfl, by decide +kernel, rfl, by decide +kernel, by decide +kernel⟩
theorem ok_RLs {f fN fL : Addr} {fd fdN fdL : FuncData} (F : Fun K "read_lists" "Reader.read_lists" sRLs f fd) (T : TxR K mg C CC) (FN : Fun K "read_number" "Reader.read_number" sRN fN fdN) (bN : Binds K fdN ["self"] []) (mN : Meth K C "read_number" fN)
    (FL : Fun K "read_list" "Reader.read_list" sRL fL fdL) (bL : Binds K fdL ["self"] []) (mL : Meth K C "read_list" fL) : FnOk P w K mg base CX0 3 f fd ["self"] (spRLs K C) := by
  have GN : FnOk P w K mg base CX0 1 fN fdN ["self"] (spRN K C) := ok_RN FN T
  have GL : FnOk P w K mg base CX0 2 fL fdL ["self"] (spRL K C) := ok_RL FL T FN bN mN
  refine F.ok scRLs (fun vs H Q E h => ?_) (fun cdv A outer s H vs Q E hr h => ?_)
  · obtain ⟨r, a, l, p, xs, rest, rfl, _⟩ := h
    rfl
  · obtain ⟨r, a, l, p, xs, rest, rfl, ⟨dx, hp⟩, hA, hxs, hd, k⟩ := h
    obtain ⟨d1, d2, d3⟩ := drop_cons hd
    refine ⟨_, pss_cons (ps_set (i := 1) scRLs.nd rfl (Or.inl rfl) (pe_meth0 (pv 0) T.cl mN GN (hr.mono (by decide)) bN .nil pass0))
      (pss_cons (ps_set (i := 2) scRLs.nd rfl (Or.inl rfl) (pe_lst pa_nil))
      (pss_cons (ps_while PassesOwn.never (pt_cmp (pc_lt (pe_callB call_len_seq (by rfl) T.len PySem.boot_len (pa_cons (pv 2) pa_nil)) (pv 1)))
        (pss_one (ps_expr (pe_bm PySem.F.plainAttrs_list PySem.F.slot_list_append PySem.F.type_list_append mt_append (pv 2) (pa_cons (pe_meth0 (pv 0) T.cl mL GL hr bL .nil pass0) pa_nil)))))
      (pss_one (ps_ret (pv 2))))), ?_⟩
    refine ⟨_, rfl, r, dx, _, rfl, hp, rfl, r, a, l, p, xs.length, _, rfl, ⟨dx, hp⟩, hA, hd, fun H1 ⟨dx1, h1⟩ k1 => ?_⟩
    refine ⟨Nat.zero_le _, fun q hq => ?_⟩
    have hqr : q ≠ r := fun z => by rw [z, h1] at hq; cases hq
    have hq0 : H q = none := k1.free hq hqr
    refine while_by (fun σ H' => ∃ (i p' : Nat) (as : List Addr), σ = [some (.ref r), some (nv xs.length), some (.ref q)] ∧ i ≤ xs.length ∧ RdAt C H' r a p' ∧ l.drop p' = putNs (xs.drop i) ++ rest ∧ Kept r H H' ∧ H' q = some (.lst (as.map V.ref)) ∧ (∀ b ∈ as, H b = none) ∧ q ∉ as ∧ RowsAt H' as (xs.take i))
      (fun σ H' => xs.length - (match H' q with | some (.lst ys) => ys.length | _ => 0)) ?_ ?_ ?_
    · refine ⟨0, p + 1, [], rfl, Nat.zero_le _, ⟨dx1, ?_⟩, d2, ?_, upd_same, by simp, by simp, ⟨by simp, by simp⟩⟩
      · rw [upd_ne (Ne.symm hqr)]; exact h1
      · exact k1.trans (Same.kept (Same.upd hq))
    · rintro σ H2 ⟨i, p', as, rfl, hi, ⟨dx2, h2⟩, hdp, hk, hq2, hnew, hqa, hR⟩
      have hal : as.length = i := by rw [hR.len, List.length_take]; omega
      refine ⟨_, rfl, q, _, rfl, .inl (SqL.of hq2), _, rfl, _, _, rfl, rfl, _, rfl, ?_⟩
      rw [List.length_map, hal]
      refine ifd (fun c => ?_) (fun c => ?_)
      · have hi' : i < xs.length := by omega
        rw [List.drop_eq_getElem_cons hi'] at hdp
        have hdp' : l.drop p' = (xs[i]).length :: (xs[i] ++ (putNs (xs.drop (i + 1)) ++ rest)) := by
          rw [hdp]; simp [putNs]
        refine ⟨_, rfl, .inl ⟨rfl, _, SqL.of hq2⟩, _, rfl, r, dx2, _, rfl, h2, rfl, r, a, l, p', xs[i], _, rfl, ⟨dx2, h2⟩, sq_ins hA hp hk, hdp', fun H3 b p3 h3 hd3 hk3 hb0 hb3 => ?_⟩
        have hq3 : H3 q = some (.lst (as.map V.ref)) := hk3 _ _ hq2 hqr
        have hbq : b ≠ q := fun z => by rw [z, hq2] at hb0; cases hb0
        obtain ⟨dx3, h3⟩ := h3
        have hbr : b ≠ r := fun z => by rw [z, h2] at hb0; cases hb0
        have hb0' : H b = none := hk.free hb0 hbr
        refine ⟨q, _, _, rfl, rfl, hq3, ?_, ?_⟩
        · rw [List.length_map]; exact small1000 (by omega)
        refine ⟨⟨i + 1, p3, as ++ [b], rfl, hi', ⟨dx3, ?_⟩, hd3, ?_, ?_, ?_, ?_, ?_⟩, ?_⟩
        · rw [upd_ne (Ne.symm hqr)]; exact h3
        · intro c o hc hn
          have hcq : c ≠ q := fun z => by rw [z, hq0] at hc; cases hc
          rw [upd_ne hcq]
          exact hk3 _ _ (hk _ _ hc hn) hn
        · rw [upd_same, List.map_append]; rfl
        · intro c hc
          rcases List.mem_append.mp hc with hc | hc
          · exact hnew c hc
          · rw [List.mem_singleton.mp hc]; exact hb0'
        · intro hc
          rcases List.mem_append.mp hc with hc | hc
          · exact hqa hc
          · exact hbq (List.mem_singleton.mp hc).symm
        · rw [List.take_succ_eq_append_getElem hi']
          refine RowsAt.snoc (hR.mono fun c hc o ho => ?_) ?_
          · have hcr : c ≠ r := fun z => by rw [z] at hc; rw [hnew r hc] at hp; cases hp
            have hcq : c ≠ q := fun z => hqa (z ▸ hc)
            rw [upd_ne hcq]
            exact hk3 _ _ ho hcr
          · rw [upd_ne hbq]; exact hb3
        · show xs.length - (match upd H3 q (.lst (as.map V.ref ++ [V.ref b])) q with | some (.lst ys) => ys.length | _ => 0) < xs.length - (match H2 q with | some (.lst ys) => ys.length | _ => 0)
          rw [upd_same, hq2]
          simp only [List.length_append, List.length_map, List.length_singleton]
          omega
      · have ei : i = xs.length := by omega
        subst ei
        rw [List.drop_length] at hdp
        rw [List.take_length] at hR
        exact ⟨_, rfl, k H2 q as p' ⟨dx2, h2⟩ hdp hk hq0 hq2 hnew hR⟩
    · rintro σ H2 Q1 Q2 hm ⟨v, hv, p1, ys, e, h, v2, hv2, i, j, e1, e2, c, ec, hq⟩
      exact ⟨v, hv, p1, ys, e, h, v2, hv2, i, j, e1, e2, c, ec, hm _ _ hq⟩

def caF (n : Nat) (wa la : Addr) : List (Str × V) := [("number", nv n), ("wholes", .ref wa), ("lists", .ref la)]
def spCI (CC : Addr) : Sp := fun vs H Q _ => ∃ (p dx wa la : Addr) (n : Nat), vs = [.ref p, nv n, .ref wa, .ref la] ∧ H p = some (.ins CC dx []) ∧ ∀ H' : Hp, H' p = some (.ins CC dx (caF n wa la)) → Kept p H H' → Q .non H'
theorem scCI : FnScope ["self", "number", "wholes", "lists"] ["self", "number", "wholes", "lists"] (defScope sCI) := ⟨rfl, rfl, rfl, by decide +kernel, rfl, by decide +kernel, by decide +kernel⟩
theorem ok_CI {f : Addr} {fd : FuncData} (F : Fun K "__init__" "Call.__init__" sCI f fd) (T : TxR K mg C CC) : FnOk P w K mg base CX0 1 f fd ["self", "number", "wholes", "lists"] (spCI CC) := by
  refine F.ok scCI (fun vs H Q E h => ?_) (fun cdv A outer s H vs Q E hr h => ?_)
  · obtain ⟨p, dx, wa, la, n, rfl, _⟩ := h
    rfl
  · obtain ⟨p, dx, wa, la, n, rfl, hp, k⟩ := h
    refine ⟨_, pss_cons (ps_fld (pv 0) (pv 1) rfl) (pss_cons (ps_fld (pv 0) (pv 2) rfl) (pss_one (ps_fld (pv 0) (pv 3) rfl))), ?_⟩
    refine ⟨_, rfl, _, rfl, p, CC, dx, [], rfl, hp, T.ccl, T.cN, (by show 0 < 1000; decide), ?_⟩
    refine ⟨_, rfl, _, rfl, p, CC, dx, _, rfl, upd_same, T.ccl, T.cW, (by show 1 < 1000; decide), ?_⟩
    refine ⟨_, rfl, _, rfl, p, CC, dx, _, rfl, upd_same, T.ccl, T.cL, (by show 2 < 1000; decide), ?_⟩
    exact k _ upd_same ((kept_upd.trans kept_upd).trans kept_upd)

/-- a call's parts in the heap -/
structure CallAt (CC : Addr) (H : Hp) (c wa la : Addr) (as : List Addr) (n : Nat) (ws : List Nat) (rows : List (List Nat)) : Prop where
  obj : ∃ dx, H c = some (.ins CC dx (caF n wa la))
  wh : H wa = some (.lst (nvs ws))
  ls : H la = some (.lst (as.map V.ref))
  rows : RowsAt H as rows
def spRC (K : PySem.W.Frag) (C CC : Addr) : Sp := fun vs H Q _ => ∃ (r a : Addr) (l : List Nat) (p n : Nat) (ws : List Nat) (xs : List (List Nat)) (rest : List Nat), vs = [.ref r] ∧ RdAt C H r a p ∧ SqL K H a (nvs l) ∧ xs.length ≤ 1000 ∧ l.drop p = putN n ws xs ++ rest ∧
  ∀ (H' : Hp) (c wa la : Addr) (as : List Addr) (p' : Nat), RdAt C H' r a p' → l.drop p' = rest → Kept r H H' → CallAt CC H' c wa la as n ws xs → H wa = none → H la = none → (∀ b ∈ as, H b = none) → Q (.ref c) H'
theorem scRC : FnScope ["self", "number", "wholes", "lists"] ["self"] (defScope sRC) := ⟨rfl, rfl, rfl, by decide +kernel, rfl, by decide +kernel, by decide +kernel⟩
theorem ok_RC {f fN fL fM fI : Addr} {fd fdN fdL fdM fdI : FuncData} (F : Fun K "read_call" "Reader.read_call" sRC f fd) (T : TxR K mg C CC) (FN : Fun K "read_number" "Reader.read_number" sRN fN fdN) (bN : Binds K fdN ["self"] []) (mN : Meth K C "read_number" fN)
    (FL : Fun K "read_list" "Reader.read_list" sRL fL fdL) (bL : Binds K fdL ["self"] []) (mL : Meth K C "read_list" fL) (FM : Fun K "read_lists" "Reader.read_lists" sRLs fM fdM) (bM : Binds K fdM ["self"] []) (mM : Meth K C "read_lists" fM)
    (M : Mk K CC fI) (FI : Fun K "__init__" "Call.__init__" sCI fI fdI) (bI : Binds K fdI ["self", "number", "wholes", "lists"] []) : FnOk P w K mg base CX0 4 f fd ["self"] (spRC K C CC) := by
  have GN : FnOk P w K mg base CX0 1 fN fdN ["self"] (spRN K C) := ok_RN FN T
  have GL : FnOk P w K mg base CX0 2 fL fdL ["self"] (spRL K C) := ok_RL FL T FN bN mN
  have GM : FnOk P w K mg base CX0 3 fM fdM ["self"] (spRLs K C) := ok_RLs FM T FN bN mN FL bL mL
  have GI : FnOk P w K mg base CX0 1 fI fdI ["self", "number", "wholes", "lists"] (spCI CC) := ok_CI FI T
  refine F.ok scRC (fun vs H Q E h => ?_) (fun cdv A outer s H vs Q E hr h => ?_)
  · obtain ⟨r, a, l, p, n, ws, xs, rest, rfl, _⟩ := h
    rfl
  · obtain ⟨r, a, l, p, n, ws, xs, rest, rfl, ⟨dx, hp⟩, hA, hxs, hd, k⟩ := h
    have hd' : l.drop p = n :: (ws.length :: (ws ++ (xs.length :: (putNs xs ++ rest)))) := by
      rw [hd]; simp [putN]
    obtain ⟨d1, d2, d3⟩ := drop_cons hd'
    refine ⟨_, pss_cons (ps_set (i := 1) scRC.nd rfl (Or.inl rfl) (pe_meth0 (pv 0) T.cl mN GN (hr.mono (by decide)) bN .nil pass0))
      (pss_cons (ps_set (i := 2) scRC.nd rfl (Or.inl rfl) (pe_meth0 (pv 0) T.cl mL GL (hr.mono (by decide)) bL .nil pass0))
      (pss_cons (ps_set (i := 3) scRC.nd rfl (Or.inl rfl) (pe_meth0 (pv 0) T.cl mM GM hr bM .nil pass0))
      (pss_one (ps_ret (pe_make M GI (hr.mono (by decide)) rfl T.gCC bI .nil pass0 (pa_cons (pv 1) (pa_cons (pv 2) (pa_cons (pv 3) pa_nil)))))))), ?_⟩
    refine ⟨_, rfl, r, dx, _, rfl, hp, rfl, r, a, l, p, n, _, rfl, ⟨dx, hp⟩, hA, hd', fun H1 ⟨dx1, h1⟩ k1 => ?_⟩
    refine ⟨_, rfl, r, dx1, _, rfl, h1, rfl, r, a, l, p + 1, ws, _, rfl, ⟨dx1, h1⟩, sq_ins hA hp k1, d2, fun H2 wa p2 ⟨dx2, h2⟩ e2 k2 w1 w2 => ?_⟩
    refine ⟨_, rfl, r, dx2, _, rfl, h2, rfl, r, a, l, p2, xs, _, rfl, ⟨dx2, h2⟩, sq_ins hA hp (k1.trans k2), hxs, e2, fun H3 la as p3 ⟨dx3, h3⟩ e3 k3 l1 l2 l3 l4 => ?_⟩
    refine ⟨_, rfl, _, rfl, _, rfl, fun c dc nc ndc nec => ?_⟩
    refine ⟨c, dc, wa, la, n, rfl, upd_same, fun H4 h4 k4 => ⟨rfl, ?_⟩⟩
    have hwr : wa ≠ r := fun z => by rw [z, h1] at w1; cases w1
    have hlr : la ≠ r := fun z => by rw [z, h2] at l1; cases l1
    have s34 : Same H3 H4 := Same.made nc ndc k4
    have w0 : H wa = none := k1.free w1 hwr
    have l0 : H la = none := (k1.trans k2).free l1 hlr
    have a0 : ∀ b ∈ as, H b = none := fun b hb => (k1.trans k2).free (l3 b hb) (fun z => by have q := l3 b hb; rw [z, h2] at q; cases q)
    refine k H4 c wa la as p3 ⟨dx3, s34 _ _ h3⟩ e3 (((k1.trans k2).trans k3).trans (Same.kept s34)) ⟨⟨dc, h4⟩, s34 _ _ (k3 _ _ w2 hwr), s34 _ _ l2, Same.rows s34 l4⟩ w0 l0 a0
end
end Tk
namespace Tk
open L2 PySem PySem.Spec PyProof.Rows
abbrev sAI : Stmt := inClass (top 1) 0
abbrev sHI : Stmt := inClass (top 49) 0
abbrev sHL : Stmt := inClass (top 49) 1
abbrev sHB : Stmt := inClass (top 49) 2
abbrev sHA : Stmt := inClass (top 49) 3
abbrev sHF : Stmt := inClass (top 49) 4
abbrev sHS : Stmt := inClass (top 49) 5
abbrev sHW : Stmt := inClass (top 49) 6
/-! acts in the heap -/
def acF (n0 n1 n2 n3 n4 : Nat) (sl : Addr) : List (Str × V) := [("needed", nv n0), ("barred", nv n1), ("brought", nv n2), ("taken", nv n3), ("cost", nv n4), ("stores", .ref sl)]
structure ActAt (CA : Addr) (H : Hp) (x sl : Addr) (bs : List Addr) (a : Pn06.Act) : Prop where
  obj : ∃ dx, H x = some (.ins CA dx (acF a.pre a.no a.add a.del a.cost sl))
  hsl : H sl = some (.lst (bs.map V.ref))
  rows : RowsAt H bs (a.parts.map rowOf)
/-- an act, none of whose lists is the one at ac or at g -/
structure ActOff (CA ac g : Addr) (H : Hp) (x sl : Addr) (bs : List Addr) (a : Pn06.Act) : Prop where
  act : ActAt CA H x sl bs a
  sac : sl ≠ ac
  sg : sl ≠ g
  bac : ac ∉ bs
  bg : g ∉ bs
def hoF (n : Nat) (rl ac : Addr) (s : Nat) (am : Addr) (ws : Nat) (wa : Addr) : List (Str × V) :=
  [("fact_count", nv n), ("rooms", .ref rl), ("acts", .ref ac), ("so", nv s), ("amounts", .ref am), ("wished_facts", nv ws), ("wished_amounts", .ref wa)]
structure HouseIn (C CA : Addr) (H : Hp) (x ac g dx rl am wa : Addr) (xs : List Addr) (h : Pn06.House) : Prop where
  obj : H x = some (.ins C dx (hoF h.task.facts rl ac h.start.s am h.wish.s wa))
  hrl : H rl = some (.lst (nvs h.task.rooms))
  ham : H am = some (.lst (nvs h.start.in_))
  hwa : H wa = some (.lst (nvs h.wish.least))
  hac : H ac = some (.lst (xs.map V.ref))
  rac : rl ≠ ac
  rg : rl ≠ g
  amac : am ≠ ac
  amg : am ≠ g
  waac : wa ≠ ac
  wag : wa ≠ g
  acg : ac ≠ g
  len : xs.length = h.task.acts.length
  acts : ∀ (i : Nat) y a, xs[i]? = some y → h.task.acts[i]? = some a → ∃ sl bs, ActOff CA ac g H y sl bs a
/-- a house in the heap; ac: where its list of acts stands; g: a place apart -/
def HouseAt (C CA : Addr) (H : Hp) (x ac g : Addr) (h : Pn06.House) : Prop := ∃ dx rl am wa xs, HouseIn C CA H x ac g dx rl am wa xs h
/-- all but what stands at x and at ac stays -/
def Kept2 (x ac : Addr) (H H' : Hp) : Prop := ∀ b o, H b = some o → b ≠ x → b ≠ ac → H' b = some o
theorem Kept2.refl (x ac : Addr) (H : Hp) : Kept2 x ac H H := fun _ _ h _ _ => h
theorem Kept2.trans {x ac : Addr} {H H1 H2 : Hp} (a : Kept2 x ac H H1) (b : Kept2 x ac H1 H2) : Kept2 x ac H H2 := fun c o h n m => b c o (a c o h n m) n m
theorem Kept.kept2 {x ac : Addr} {H H' : Hp} (a : Kept x H H') : Kept2 x ac H H' := fun c o h n _ => a c o h n
theorem Kept.kept2r {x ac : Addr} {H H' : Hp} (a : Kept ac H H') : Kept2 x ac H H' := fun c o h _ n => a c o h n
theorem Same.kept2 {x ac : Addr} {H H' : Hp} (a : Same H H') : Kept2 x ac H H' := fun c o h _ _ => a c o h
theorem ActOff.mono {CA ac g r : Addr} {H H' : Hp} {x sl : Addr} {bs : List Addr} {a : Pn06.Act} (h : ActOff CA ac g H x sl bs a) (k : Kept r H H') (h1 : x ≠ r) (h2 : sl ≠ r) (h3 : r ∉ bs) : ActOff CA ac g H' x sl bs a := by
  obtain ⟨⟨⟨dx, q1⟩, q2, q3⟩, n1, n2, n3, n4⟩ := h
  exact ⟨⟨⟨dx, k _ _ q1 h1⟩, k _ _ q2 h2, q3.off k h3⟩, n1, n2, n3, n4⟩
theorem ActOff.same {CA ac g : Addr} {H H' : Hp} {x sl : Addr} {bs : List Addr} {a : Pn06.Act} (h : ActOff CA ac g H x sl bs a) (k : Same H H') : ActOff CA ac g H' x sl bs a := by
  obtain ⟨⟨⟨dx, q1⟩, q2, q3⟩, n1, n2, n3, n4⟩ := h
  exact ⟨⟨⟨dx, k _ _ q1⟩, k _ _ q2, Same.rows k q3⟩, n1, n2, n3, n4⟩
/-- another instance, of another number of attributes, may change -/
theorem ActOff.ins {C CA ac g : Addr} {H H' : Hp} {r dr y sl : Addr} {fs : List (Str × V)} {bs : List Addr} {a : Pn06.Act} (h : ActOff CA ac g H y sl bs a) (hr : H r = some (.ins C dr fs)) (hl : fs.length ≠ 6) (k : Kept r H H') : ActOff CA ac g H' y sl bs a := by
  obtain ⟨⟨⟨dx, q1⟩, q2, q3⟩, n1, n2, n3, n4⟩ := h
  refine ⟨⟨⟨dx, k _ _ q1 fun z => ?_⟩, k _ _ q2 (ins_ne hr q2), rows_ins q3 hr k⟩, n1, n2, n3, n4⟩
  rw [z, hr] at q1
  injection q1 with q1
  injection q1 with _ _ q1
  rw [q1] at hl
  exact hl rfl
theorem HouseAt.same {C CA : Addr} {H H' : Hp} {x ac g : Addr} {h : Pn06.House} (A : HouseAt C CA H x ac g h) (k : Same H H') : HouseAt C CA H' x ac g h := by
  obtain ⟨dx, rl, am, wa, xs, A⟩ := A
  exact ⟨dx, rl, am, wa, xs, k _ _ A.obj, k _ _ A.hrl, k _ _ A.ham, k _ _ A.hwa, k _ _ A.hac, A.rac, A.rg, A.amac, A.amg, A.waac, A.wag, A.acg, A.len, fun i y a hy ha => by
    obtain ⟨sl, bs, q⟩ := A.acts i y a hy ha
    exact ⟨sl, bs, q.same k⟩⟩
theorem HouseAt.ins {C C' CA : Addr} {H H' : Hp} {x ac g r dr : Addr} {fs : List (Str × V)} {h : Pn06.House} (A : HouseAt C CA H x ac g h) (hr : H r = some (.ins C' dr fs)) (h6 : fs.length ≠ 6) (h7 : fs.length ≠ 7) (k : Kept r H H') : HouseAt C CA H' x ac g h := by
  obtain ⟨dx, rl, am, wa, xs, A⟩ := A
  refine ⟨dx, rl, am, wa, xs, k _ _ A.obj ?_, k _ _ A.hrl (ins_ne hr A.hrl), k _ _ A.ham (ins_ne hr A.ham), k _ _ A.hwa (ins_ne hr A.hwa), k _ _ A.hac (ins_ne hr A.hac), A.rac, A.rg, A.amac, A.amg, A.waac, A.wag, A.acg, A.len, fun i y a hy ha => by
    obtain ⟨sl, bs, q⟩ := A.acts i y a hy ha
    exact ⟨sl, bs, q.ins hr h6 k⟩⟩
  intro z
  have q := A.obj
  rw [z, hr] at q
  injection q with q
  injection q with _ _ q
  rw [q] at h7
  exact h7 rfl
/-- the place apart may change -/
theorem HouseAt.apart {C CA : Addr} {H H' : Hp} {x ac g : Addr} {ys : List V} {h : Pn06.House} (A : HouseAt C CA H x ac g h) (hg : H g = some (.lst ys)) (k : Kept g H H') : HouseAt C CA H' x ac g h := by
  obtain ⟨dx, rl, am, wa, xs, A⟩ := A
  refine ⟨dx, rl, am, wa, xs, k _ _ A.obj (Ne.symm (ins_ne A.obj hg)), k _ _ A.hrl A.rg, k _ _ A.ham A.amg, k _ _ A.hwa A.wag, k _ _ A.hac A.acg, A.rac, A.rg, A.amac, A.amg, A.waac, A.wag, A.acg, A.len, fun i y a hy ha => ?_⟩
  obtain ⟨sl, bs, q⟩ := A.acts i y a hy ha
  obtain ⟨dy, qy⟩ := q.act.obj
  exact ⟨sl, bs, q.mono k (Ne.symm (ins_ne qy hg)) q.sg q.bg⟩
/-- a new place may be the one apart -/
theorem HouseAt.regard {C CA : Addr} {H : Hp} {x ac g g' : Addr} {h : Pn06.House} (A : HouseAt C CA H x ac g h) (hg : H g' = none) : HouseAt C CA H x ac g' h := by
  obtain ⟨dx, rl, am, wa, xs, A⟩ := A
  refine ⟨dx, rl, am, wa, xs, A.obj, A.hrl, A.ham, A.hwa, A.hac, A.rac, ne_of_none A.hrl hg, A.amac, ne_of_none A.ham hg, A.waac, ne_of_none A.hwa hg, ne_of_none A.hac hg, A.len, fun i y a hy ha => ?_⟩
  obtain ⟨sl, bs, q⟩ := A.acts i y a hy ha
  refine ⟨sl, bs, q.act, q.sac, ne_of_none q.act.hsl hg, q.bac, fun z => ?_⟩
  obtain ⟨s, e⟩ := q.act.rows.mem z
  rw [hg] at e
  cases e
structure TxH (K : PySem.W.Frag) (mg : Str → Option Value) (C CA : Addr) : Prop where
  cl : Cls K C
  n1 : NoAttr K C "fact_count"
  n2 : NoAttr K C "rooms"
  n3 : NoAttr K C "acts"
  n4 : NoAttr K C "so"
  n5 : NoAttr K C "amounts"
  n6 : NoAttr K C "wished_facts"
  n7 : NoAttr K C "wished_amounts"
  gC : mg "House" = some (.ref C)
  acl : Cls K CA
  a1 : NoAttr K CA "needed"
  a2 : NoAttr K CA "barred"
  a3 : NoAttr K CA "brought"
  a4 : NoAttr K CA "taken"
  a5 : NoAttr K CA "cost"
  a6 : NoAttr K CA "stores"
  gCA : mg "Act" = some (.ref CA)
  done : GI mg "DONE" 0
  wrong : GI mg "WRONG" (-1)
  full : GI mg "FULL" (-7)
  mostActs : GI mg "MOST_ACTS" 8
  len : mg "len" = none
section
variable {P : Program} {w : World} {K : PySem.W.Frag} {mg : Str → Option Value} {base : Heap} {C CA : Addr}
def spAI (CA : Addr) : Sp := fun vs H Q _ => ∃ (p dx na sl : Addr) (n0 n1 n2 n3 n4 : Nat), vs = [.ref p, .ref na, .ref sl] ∧ H p = some (.ins CA dx []) ∧ H na = some (.lst (nvs [n0, n1, n2, n3, n4])) ∧
  ∀ H' : Hp, H' p = some (.ins CA dx (acF n0 n1 n2 n3 n4 sl)) → Kept p H H' → Q .non H'
theorem scAI : FnScope ["self", "numbers", "stores"] ["self", "numbers", "stores"] (defScope sAI) := ⟨rfl, rfl, rfl, by decide +kernel, rfl, by decide +kernel, by decide +kernel⟩
theorem ok_AI {f : Addr} {fd : FuncData} (F : Fun K "__init__" "Act.__init__" sAI f fd) (T : TxH K mg C CA) : FnOk P w K mg base CX0 1 f fd ["self", "numbers", "stores"] (spAI CA) := by
  refine F.ok scAI (fun vs H Q E h => ?_) (fun cdv A outer s H vs Q E hr h => ?_)
  · obtain ⟨p, dx, na, sl, n0, n1, n2, n3, n4, rfl, _⟩ := h
    rfl
  · obtain ⟨p, dx, na, sl, n0, n1, n2, n3, n4, rfl, hp, hN', k⟩ := h
    have hne : na ≠ p := fun z => by rw [z, hp] at hN'; cases hN'
    have hN : SqL K H na (nvs [n0, n1, n2, n3, n4]) := SqL.of hN'
    refine ⟨_, pss_cons (ps_fld (pv 0) (pe_ix ix_list (pv 1) pe_int (fun _ _ => rfl)) rfl) (pss_cons (ps_fld (pv 0) (pe_ix ix_list (pv 1) pe_int (fun _ _ => rfl)) rfl) (pss_cons (ps_fld (pv 0) (pe_ix ix_list (pv 1) pe_int (fun _ _ => rfl)) rfl)
      (pss_cons (ps_fld (pv 0) (pe_ix ix_list (pv 1) pe_int (fun _ _ => rfl)) rfl) (pss_cons (ps_fld (pv 0) (pe_ix ix_list (pv 1) pe_int (fun _ _ => rfl)) rfl) (pss_one (ps_fld (pv 0) (pv 2) rfl)))))), ?_⟩
    refine ⟨_, rfl, na, _, _, _, rfl, rfl, hN, at_of (j := 0) (v := nv n0) rfl rfl, _, rfl, p, CA, dx, [], rfl, hp, T.acl, T.a1, (by show 0 < 1000; decide), ?_⟩
    refine ⟨_, rfl, na, _, _, _, rfl, rfl, (Kept.seq (kept_upd (r := p)) hN hne), at_of (j := 1) (v := nv n1) rfl rfl, _, rfl, p, CA, dx, _, rfl, upd_same, T.acl, T.a2, (by show 1 < 1000; decide), ?_⟩
    refine ⟨_, rfl, na, _, _, _, rfl, rfl, Kept.seq ((kept_upd (r := p)).trans kept_upd) hN hne, at_of (j := 2) (v := nv n2) rfl rfl, _, rfl, p, CA, dx, _, rfl, upd_same, T.acl, T.a3, (by show 2 < 1000; decide), ?_⟩
    refine ⟨_, rfl, na, _, _, _, rfl, rfl, Kept.seq (((kept_upd (r := p)).trans kept_upd).trans kept_upd) hN hne, at_of (j := 3) (v := nv n3) rfl rfl, _, rfl, p, CA, dx, _, rfl, upd_same, T.acl, T.a4, (by show 3 < 1000; decide), ?_⟩
    refine ⟨_, rfl, na, _, _, _, rfl, rfl, Kept.seq ((((kept_upd (r := p)).trans kept_upd).trans kept_upd).trans kept_upd) hN hne, at_of (j := 4) (v := nv n4) rfl rfl, _, rfl, p, CA, dx, _, rfl, upd_same, T.acl, T.a5, (by show 4 < 1000; decide), ?_⟩
    refine ⟨_, rfl, _, rfl, p, CA, dx, _, rfl, upd_same, T.acl, T.a6, (by show 5 < 1000; decide), ?_⟩
    exact k _ upd_same (((((kept_upd.trans kept_upd).trans kept_upd).trans kept_upd).trans kept_upd).trans kept_upd)

/-- a house laid anew -/
def anew (n : Nat) (rs : List Nat) : Pn06.House := ⟨⟨n, rs, []⟩, ⟨0, rs.map fun _ => 0⟩, ⟨0, rs.map fun _ => 0⟩⟩
/-- the house's own instance: whatever attributes it has, they are of the house's seven -/
def OldH (fs : List (Str × V)) : Prop := fs = [] ∨ ∃ n rl ac s am ws wa, fs = hoF n rl ac s am ws wa
theorem zeros (rs : List Nat) : (List.replicate (rs.length : Int).toNat [nv 0]).flatten = nvs (rs.map fun _ => 0) := by
  rw [Int.toNat_natCast]
  induction rs with
  | nil => rfl
  | cons a l ih => simp only [List.length_cons, List.replicate_succ, List.flatten_cons, ih]; rfl
def spHL (C CA : Addr) : Sp := fun vs H Q _ => ∃ (x dx rl g : Addr) (og : HO) (n : Nat) (rs : List Nat) (fs : List (Str × V)), vs = [.ref x, nv n, .ref rl] ∧ H x = some (.ins C dx fs) ∧ OldH fs ∧ H rl = some (.lst (nvs rs)) ∧ rs.length ≤ 2 ∧ H g = some og ∧ rl ≠ g ∧
  ∀ (H' : Hp) (ac : Addr), H ac = none → HouseAt C CA H' x ac g (anew n rs) → Kept x H H' → Q .non H'
theorem scHL : FnScope ["self", "fact_count", "rooms"] ["self", "fact_count", "rooms"] (defScope sHL) := ⟨rfl, rfl, rfl, by decide +kernel, rfl, by decide +kernel, by decide +kernel⟩
theorem ok_HL {f : Addr} {fd : FuncData} (F : Fun K "lay_anew" "House.lay_anew" sHL f fd) (T : TxH K mg C CA) : FnOk P w K mg base CX0 1 f fd ["self", "fact_count", "rooms"] (spHL C CA) := by
  refine F.ok scHL (fun vs H Q E h => ?_) (fun cdv A outer s H vs Q E hr h => ?_)
  · obtain ⟨x, dx, rl, g, og, n, rs, fs, rfl, _⟩ := h
    rfl
  · obtain ⟨x, dx, rl, g, og, n, rs, fs, rfl, hx, ho, hrl, hlen, hg, hrg, k⟩ := h
    refine ⟨_, pss_cons (ps_fld (pv 0) (pv 1) rfl) (pss_cons (ps_fld (pv 0) (pv 2) rfl) (pss_cons (ps_fld (pv 0) (pe_lst pa_nil) rfl) (pss_cons (ps_fld (pv 0) pe_int rfl)
      (pss_cons (ps_fld (pv 0) (pe_op op_rep (pe_lst (pa_cons pe_int pa_nil)) (pe_callB call_len_seq (by rfl) T.len PySem.boot_len (pa_cons (pv 2) pa_nil))) rfl) (pss_cons (ps_fld (pv 0) pe_int rfl)
      (pss_one (ps_fld (pv 0) (pe_op op_rep (pe_lst (pa_cons pe_int pa_nil)) (pe_callB call_len_seq (by rfl) T.len PySem.boot_len (pa_cons (pv 2) pa_nil))) rfl))))))), ?_⟩
    have hrx : rl ≠ x := fun z => by rw [z, hx] at hrl; cases hrl
    rcases ho with rfl | ⟨n', rl', ac', s', am', ws', wa', rfl⟩
    · -- new
      refine ⟨_, rfl, _, rfl, x, C, dx, _, rfl, hx, T.cl, T.n1, (show (0 : Nat) < 1000 by decide), ?_⟩
      refine ⟨_, rfl, _, rfl, x, C, dx, _, rfl, upd_same, T.cl, T.n2, (show (1 : Nat) < 1000 by decide), ?_⟩
      refine ⟨Nat.zero_le _, fun ac hac => ?_⟩
      have acx : ac ≠ x := Ne.symm (ne_of_none upd_same hac)
      have ac0 : H ac = none := (kept_upd.trans kept_upd).free hac acx
      have rac : rl ≠ ac := fun z => by rw [z, ac0] at hrl; cases hrl
      refine ⟨_, rfl, x, C, dx, _, rfl, (upd_ne (Ne.symm acx)).trans upd_same, T.cl, T.n3, (show (2 : Nat) < 1000 by decide), ?_⟩
      refine ⟨_, rfl, x, C, dx, _, rfl, upd_same, T.cl, T.n4, (show (3 : Nat) < 1000 by decide), ?_⟩
      refine ⟨(by show 1 ≤ sizeLine; decide), fun z1 hz1 => ?_⟩
      have z1x : z1 ≠ x := Ne.symm (ne_of_none upd_same hz1)
      rw [upd_ne z1x, upd_ne z1x] at hz1
      have z1ac : z1 ≠ ac := Ne.symm (ne_of_none upd_same hz1)
      rw [upd_ne z1ac, upd_ne z1x, upd_ne z1x] at hz1
      have z1r : rl ≠ z1 := fun z => by rw [z, hz1] at hrl; cases hrl
      refine ⟨_, rfl, rl, _, rfl, .inl (SqL.of ((upd_ne z1r).trans ((upd_ne hrx).trans ((upd_ne hrx).trans ((upd_ne rac).trans ((upd_ne hrx).trans ((upd_ne hrx).trans hrl))))))), z1, _, _, rfl, rfl, upd_same, ?_, ?_, ?_, fun am ham => ?_⟩
      · rw [List.length_map]; show -(2 ^ 63) ≤ (rs.length : Int); omega
      · rw [List.length_map]; show (rs.length : Int) < 2 ^ 63; omega
      · rw [List.length_map]; show 1 * (rs.length : Int).toNat ≤ sizeLine; exact Nat.le_trans (by omega) (by decide : 2 ≤ sizeLine)
      have amz : am ≠ z1 := Ne.symm (ne_of_none upd_same ham)
      rw [upd_ne amz] at ham
      have amx : am ≠ x := Ne.symm (ne_of_none upd_same ham)
      rw [upd_ne amx, upd_ne amx] at ham
      have amac : am ≠ ac := Ne.symm (ne_of_none upd_same ham)
      rw [upd_ne amac, upd_ne amx, upd_ne amx] at ham
      have amr : rl ≠ am := fun z => by rw [z, ham] at hrl; cases hrl
      refine ⟨_, rfl, x, C, dx, _, rfl, (upd_ne (Ne.symm amx)).trans ((upd_ne (Ne.symm z1x)).trans upd_same), T.cl, T.n5, (show (4 : Nat) < 1000 by decide), ?_⟩
      refine ⟨_, rfl, x, C, dx, _, rfl, upd_same, T.cl, T.n6, (show (5 : Nat) < 1000 by decide), ?_⟩
      refine ⟨(by show 1 ≤ sizeLine; decide), fun z2 hz2 => ?_⟩
      have z2x : z2 ≠ x := Ne.symm (ne_of_none upd_same hz2)
      rw [upd_ne z2x, upd_ne z2x] at hz2
      have z2am : z2 ≠ am := Ne.symm (ne_of_none upd_same hz2)
      rw [upd_ne z2am] at hz2
      have z2z : z2 ≠ z1 := Ne.symm (ne_of_none upd_same hz2)
      rw [upd_ne z2z, upd_ne z2x, upd_ne z2x] at hz2
      have z2ac : z2 ≠ ac := Ne.symm (ne_of_none upd_same hz2)
      rw [upd_ne z2ac, upd_ne z2x, upd_ne z2x] at hz2
      have z2r : rl ≠ z2 := fun z => by rw [z, hz2] at hrl; cases hrl
      refine ⟨_, rfl, rl, _, rfl, .inl (SqL.of ((upd_ne z2r).trans ((upd_ne hrx).trans ((upd_ne hrx).trans ((upd_ne amr).trans ((upd_ne z1r).trans ((upd_ne hrx).trans ((upd_ne hrx).trans ((upd_ne rac).trans ((upd_ne hrx).trans ((upd_ne hrx).trans hrl))))))))))), z2, _, _, rfl, rfl, upd_same, ?_, ?_, ?_, fun wa hwa => ?_⟩
      · rw [List.length_map]; show -(2 ^ 63) ≤ (rs.length : Int); omega
      · rw [List.length_map]; show (rs.length : Int) < 2 ^ 63; omega
      · rw [List.length_map]; show 1 * (rs.length : Int).toNat ≤ sizeLine; exact Nat.le_trans (by omega) (by decide : 2 ≤ sizeLine)
      have waz : wa ≠ z2 := Ne.symm (ne_of_none upd_same hwa)
      rw [upd_ne waz] at hwa
      have wax : wa ≠ x := Ne.symm (ne_of_none upd_same hwa)
      rw [upd_ne wax, upd_ne wax] at hwa
      have waam : wa ≠ am := Ne.symm (ne_of_none upd_same hwa)
      rw [upd_ne waam] at hwa
      have waz1 : wa ≠ z1 := Ne.symm (ne_of_none upd_same hwa)
      rw [upd_ne waz1, upd_ne wax, upd_ne wax] at hwa
      have waac : wa ≠ ac := Ne.symm (ne_of_none upd_same hwa)
      rw [upd_ne waac, upd_ne wax, upd_ne wax] at hwa
      have war : rl ≠ wa := fun z => by rw [z, hwa] at hrl; cases hrl
      refine ⟨_, rfl, x, C, dx, _, rfl, (upd_ne (Ne.symm wax)).trans ((upd_ne (Ne.symm z2x)).trans upd_same), T.cl, T.n7, (show (6 : Nat) < 1000 by decide), ?_⟩
      have ezz : (List.replicate ((nvs rs).length : Int).toNat [V.int 0]).flatten = nvs (rs.map fun _ => 0) := by
        rw [List.length_map]; exact zeros rs
      refine k _ ac ac0 ⟨dx, rl, am, wa, [], upd_same, ?_, ?_, ?_, ?_, rac, hrg, amac, Ne.symm (ne_of_none hg ham), waac, Ne.symm (ne_of_none hg hwa), Ne.symm (ne_of_none hg ac0), rfl, fun i y a hy => by simp at hy⟩ ?_
      · show _ = some (HO.lst (nvs rs))
        rw [upd_ne hrx, upd_ne war, upd_ne z2r, upd_ne hrx, upd_ne hrx, upd_ne amr, upd_ne z1r, upd_ne hrx, upd_ne hrx, upd_ne rac, upd_ne hrx, upd_ne hrx]; exact hrl
      · show _ = some (HO.lst (nvs (rs.map fun _ => 0)))
        rw [upd_ne amx, upd_ne (Ne.symm waam), upd_ne (Ne.symm z2am), upd_ne amx, upd_ne amx, upd_same, ezz]
      · show _ = some (HO.lst (nvs (rs.map fun _ => 0)))
        rw [upd_ne wax, upd_same, ezz]
      · rw [upd_ne acx, upd_ne (Ne.symm waac), upd_ne (Ne.symm z2ac), upd_ne acx, upd_ne acx, upd_ne (Ne.symm amac), upd_ne (Ne.symm z1ac), upd_ne acx, upd_ne acx]; exact upd_same
      · intro b o hb hn
        have q1 : b ≠ ac := ne_of_none hb ac0
        have q2 : b ≠ z1 := ne_of_none hb hz1
        have q3 : b ≠ am := ne_of_none hb ham
        have q4 : b ≠ z2 := ne_of_none hb hz2
        have q5 : b ≠ wa := ne_of_none hb hwa
        rw [upd_ne hn, upd_ne q5, upd_ne q4, upd_ne hn, upd_ne hn, upd_ne q3, upd_ne q2, upd_ne hn, upd_ne hn, upd_ne q1, upd_ne hn, upd_ne hn]; exact hb
    · -- old
      refine ⟨_, rfl, _, rfl, x, C, dx, _, rfl, hx, T.cl, T.n1, (show (7 : Nat) < 1000 by decide), ?_⟩
      refine ⟨_, rfl, _, rfl, x, C, dx, _, rfl, upd_same, T.cl, T.n2, (show (7 : Nat) < 1000 by decide), ?_⟩
      refine ⟨Nat.zero_le _, fun ac hac => ?_⟩
      have acx : ac ≠ x := Ne.symm (ne_of_none upd_same hac)
      have ac0 : H ac = none := (kept_upd.trans kept_upd).free hac acx
      have rac : rl ≠ ac := fun z => by rw [z, ac0] at hrl; cases hrl
      refine ⟨_, rfl, x, C, dx, _, rfl, (upd_ne (Ne.symm acx)).trans upd_same, T.cl, T.n3, (show (7 : Nat) < 1000 by decide), ?_⟩
      refine ⟨_, rfl, x, C, dx, _, rfl, upd_same, T.cl, T.n4, (show (7 : Nat) < 1000 by decide), ?_⟩
      refine ⟨(by show 1 ≤ sizeLine; decide), fun z1 hz1 => ?_⟩
      have z1x : z1 ≠ x := Ne.symm (ne_of_none upd_same hz1)
      rw [upd_ne z1x, upd_ne z1x] at hz1
      have z1ac : z1 ≠ ac := Ne.symm (ne_of_none upd_same hz1)
      rw [upd_ne z1ac, upd_ne z1x, upd_ne z1x] at hz1
      have z1r : rl ≠ z1 := fun z => by rw [z, hz1] at hrl; cases hrl
      refine ⟨_, rfl, rl, _, rfl, .inl (SqL.of ((upd_ne z1r).trans ((upd_ne hrx).trans ((upd_ne hrx).trans ((upd_ne rac).trans ((upd_ne hrx).trans ((upd_ne hrx).trans hrl))))))), z1, _, _, rfl, rfl, upd_same, ?_, ?_, ?_, fun am ham => ?_⟩
      · rw [List.length_map]; show -(2 ^ 63) ≤ (rs.length : Int); omega
      · rw [List.length_map]; show (rs.length : Int) < 2 ^ 63; omega
      · rw [List.length_map]; show 1 * (rs.length : Int).toNat ≤ sizeLine; exact Nat.le_trans (by omega) (by decide : 2 ≤ sizeLine)
      have amz : am ≠ z1 := Ne.symm (ne_of_none upd_same ham)
      rw [upd_ne amz] at ham
      have amx : am ≠ x := Ne.symm (ne_of_none upd_same ham)
      rw [upd_ne amx, upd_ne amx] at ham
      have amac : am ≠ ac := Ne.symm (ne_of_none upd_same ham)
      rw [upd_ne amac, upd_ne amx, upd_ne amx] at ham
      have amr : rl ≠ am := fun z => by rw [z, ham] at hrl; cases hrl
      refine ⟨_, rfl, x, C, dx, _, rfl, (upd_ne (Ne.symm amx)).trans ((upd_ne (Ne.symm z1x)).trans upd_same), T.cl, T.n5, (show (7 : Nat) < 1000 by decide), ?_⟩
      refine ⟨_, rfl, x, C, dx, _, rfl, upd_same, T.cl, T.n6, (show (7 : Nat) < 1000 by decide), ?_⟩
      refine ⟨(by show 1 ≤ sizeLine; decide), fun z2 hz2 => ?_⟩
      have z2x : z2 ≠ x := Ne.symm (ne_of_none upd_same hz2)
      rw [upd_ne z2x, upd_ne z2x] at hz2
      have z2am : z2 ≠ am := Ne.symm (ne_of_none upd_same hz2)
      rw [upd_ne z2am] at hz2
      have z2z : z2 ≠ z1 := Ne.symm (ne_of_none upd_same hz2)
      rw [upd_ne z2z, upd_ne z2x, upd_ne z2x] at hz2
      have z2ac : z2 ≠ ac := Ne.symm (ne_of_none upd_same hz2)
      rw [upd_ne z2ac, upd_ne z2x, upd_ne z2x] at hz2
      have z2r : rl ≠ z2 := fun z => by rw [z, hz2] at hrl; cases hrl
      refine ⟨_, rfl, rl, _, rfl, .inl (SqL.of ((upd_ne z2r).trans ((upd_ne hrx).trans ((upd_ne hrx).trans ((upd_ne amr).trans ((upd_ne z1r).trans ((upd_ne hrx).trans ((upd_ne hrx).trans ((upd_ne rac).trans ((upd_ne hrx).trans ((upd_ne hrx).trans hrl))))))))))), z2, _, _, rfl, rfl, upd_same, ?_, ?_, ?_, fun wa hwa => ?_⟩
      · rw [List.length_map]; show -(2 ^ 63) ≤ (rs.length : Int); omega
      · rw [List.length_map]; show (rs.length : Int) < 2 ^ 63; omega
      · rw [List.length_map]; show 1 * (rs.length : Int).toNat ≤ sizeLine; exact Nat.le_trans (by omega) (by decide : 2 ≤ sizeLine)
      have waz : wa ≠ z2 := Ne.symm (ne_of_none upd_same hwa)
      rw [upd_ne waz] at hwa
      have wax : wa ≠ x := Ne.symm (ne_of_none upd_same hwa)
      rw [upd_ne wax, upd_ne wax] at hwa
      have waam : wa ≠ am := Ne.symm (ne_of_none upd_same hwa)
      rw [upd_ne waam] at hwa
      have waz1 : wa ≠ z1 := Ne.symm (ne_of_none upd_same hwa)
      rw [upd_ne waz1, upd_ne wax, upd_ne wax] at hwa
      have waac : wa ≠ ac := Ne.symm (ne_of_none upd_same hwa)
      rw [upd_ne waac, upd_ne wax, upd_ne wax] at hwa
      have war : rl ≠ wa := fun z => by rw [z, hwa] at hrl; cases hrl
      refine ⟨_, rfl, x, C, dx, _, rfl, (upd_ne (Ne.symm wax)).trans ((upd_ne (Ne.symm z2x)).trans upd_same), T.cl, T.n7, (show (7 : Nat) < 1000 by decide), ?_⟩
      have ezz : (List.replicate ((nvs rs).length : Int).toNat [V.int 0]).flatten = nvs (rs.map fun _ => 0) := by
        rw [List.length_map]; exact zeros rs
      refine k _ ac ac0 ⟨dx, rl, am, wa, [], upd_same, ?_, ?_, ?_, ?_, rac, hrg, amac, Ne.symm (ne_of_none hg ham), waac, Ne.symm (ne_of_none hg hwa), Ne.symm (ne_of_none hg ac0), rfl, fun i y a hy => by simp at hy⟩ ?_
      · show _ = some (HO.lst (nvs rs))
        rw [upd_ne hrx, upd_ne war, upd_ne z2r, upd_ne hrx, upd_ne hrx, upd_ne amr, upd_ne z1r, upd_ne hrx, upd_ne hrx, upd_ne rac, upd_ne hrx, upd_ne hrx]; exact hrl
      · show _ = some (HO.lst (nvs (rs.map fun _ => 0)))
        rw [upd_ne amx, upd_ne (Ne.symm waam), upd_ne (Ne.symm z2am), upd_ne amx, upd_ne amx, upd_same, ezz]
      · show _ = some (HO.lst (nvs (rs.map fun _ => 0)))
        rw [upd_ne wax, upd_same, ezz]
      · rw [upd_ne acx, upd_ne (Ne.symm waac), upd_ne (Ne.symm z2ac), upd_ne acx, upd_ne acx, upd_ne (Ne.symm amac), upd_ne (Ne.symm z1ac), upd_ne acx, upd_ne acx]; exact upd_same
      · intro b o hb hn
        have q1 : b ≠ ac := ne_of_none hb ac0
        have q2 : b ≠ z1 := ne_of_none hb hz1
        have q3 : b ≠ am := ne_of_none hb ham
        have q4 : b ≠ z2 := ne_of_none hb hz2
        have q5 : b ≠ wa := ne_of_none hb hwa
        rw [upd_ne hn, upd_ne q5, upd_ne q4, upd_ne hn, upd_ne hn, upd_ne q3, upd_ne q2, upd_ne hn, upd_ne hn, upd_ne q1, upd_ne hn, upd_ne hn]; exact hb
end
end Tk
namespace Tk
open L2 PySem PySem.Spec PyProof.Rows
section
variable {P : Program} {w : World} {K : PySem.W.Frag} {mg : Str → Option Value} {base : Heap} {C CA : Addr}
def spHI (C CA : Addr) : Sp := fun vs H Q _ => ∃ (x dx : Addr), vs = [.ref x] ∧ H x = some (.ins C dx []) ∧
  ∀ (H' : Hp) (ac : Addr), H ac = none → HouseAt C CA H' x ac x Pn06.init → Kept x H H' → Q .non H'
theorem scHI : FnScope ["self"] ["self"] (defScope sHI) := ⟨rfl, rfl, rfl, by decide +kernel, rfl, by decide +kernel, by decide +kernel⟩
theorem ok_HI {f fL : Addr} {fd fdL : FuncData} (F : Fun K "__init__" "House.__init__" sHI f fd) (T : TxH K mg C CA) (FL : Fun K "lay_anew" "House.lay_anew" sHL fL fdL) (bL : Binds K fdL ["self", "fact_count", "rooms"] []) (mL : Meth K C "lay_anew" fL) : FnOk P w K mg base CX0 2 f fd ["self"] (spHI C CA) := by
  have GL : FnOk P w K mg base CX0 1 fL fdL ["self", "fact_count", "rooms"] (spHL C CA) := ok_HL FL T
  refine F.ok scHI (fun vs H Q E h => ?_) (fun cdv A outer s H vs Q E hr h => ?_)
  · obtain ⟨x, dx, rfl, _⟩ := h
    rfl
  · obtain ⟨x, dx, rfl, hx, k⟩ := h
    refine ⟨_, pss_one (ps_expr (pe_meth (pv 0) T.cl mL GL hr bL .nil pass0 (pa_cons pe_int (pa_cons (pe_lst pa_nil) pa_nil)))), ?_⟩
    refine ⟨_, rfl, x, dx, _, rfl, hx, rfl, Nat.zero_le _, fun rl hrl => ?_⟩
    have hxr : x ≠ rl := ne_of_none hx hrl
    refine ⟨x, dx, rl, x, _, 1, [], [], rfl, (upd_ne hxr).trans hx, .inl rfl, upd_same, Nat.zero_le _, (upd_ne hxr).trans hx, Ne.symm hxr, fun H' ac hac hH hk => ?_⟩
    refine k H' ac (Same.free (Same.upd hrl) hac) hH ((Same.kept (Same.upd hrl)).trans hk)

theorem hoF_len (n : Nat) (rl ac : Addr) (s : Nat) (am : Addr) (ws : Nat) (wa : Addr) : (hoF n rl ac s am ws wa).length < 1000 := by
  show 7 < 1000
  decide
def spHB (C CA : Addr) : Sp := fun vs H Q _ => ∃ (x ac g rl : Addr) (og : HO) (h : Pn06.House) (n : Nat) (rs : List Nat), vs = [.ref x, nv n, .ref rl] ∧ HouseAt C CA H x ac g h ∧ H g = some og ∧ rl ≠ g ∧ H rl = some (.lst (nvs rs)) ∧
  ∀ (H' : Hp) (ac' : Addr), (ac' = ac ∨ H ac' = none) → HouseAt C CA H' x ac' g (Pn06.step h (.begins n rs)).1 → Kept x H H' → Q (.int (Pn06.step h (.begins n rs)).2.v) H'
theorem scHB : FnScope ["self", "fact_count", "rooms"] ["self", "fact_count", "rooms"] (defScope sHB) := ⟨rfl, rfl, rfl, by decide +kernel, rfl, by decide +kernel, by decide +kernel⟩
theorem begins_bad {h : Pn06.House} {n : Nat} {rs : List Nat} (c : ((decide (1 ≤ n) && decide (n ≤ 3)) && (decide (rs.length ≤ 2) && rs.all roomOk)) = false) : Pn06.step h (.begins n rs) = (h, Pn06.ok (-1)) := by
  simp only [Pn06.step]
  rw [if_pos (begins_no.mpr c)]
theorem begins_good {h : Pn06.House} {n : Nat} {rs : List Nat} (c : ((decide (1 ≤ n) && decide (n ≤ 3)) && (decide (rs.length ≤ 2) && rs.all roomOk)) = true) : Pn06.step h (.begins n rs) = (anew n rs, Pn06.ok 0) := by
  simp only [Pn06.step]
  rw [if_neg (fun z => by rw [begins_no.mp z] at c; cases c)]
  rfl
theorem ok_HB {f fL f1 f2 : Addr} {fd fdL fd1 fd2 : FuncData} (F : Fun K "begin" "House.begin" sHB f fd) (T : TxH K mg C CA) (TF : TxF mg) (FL : Fun K "lay_anew" "House.lay_anew" sHL fL fdL) (bL : Binds K fdL ["self", "fact_count", "rooms"] []) (mL : Meth K C "lay_anew" fL)
    (F1 : Fun K "fact_count_fits" "fact_count_fits" sFCF f1 fd1) (b1 : Binds K fd1 ["fact_count"] []) (g1 : mg "fact_count_fits" = some (.ref f1)) (F2 : Fun K "rooms_fit" "rooms_fit" sRF f2 fd2) (b2 : Binds K fd2 ["rooms"] []) (g2 : mg "rooms_fit" = some (.ref f2)) :
    FnOk P w K mg base CX0 2 f fd ["self", "fact_count", "rooms"] (spHB C CA) := by
  have GL : FnOk P w K mg base CX0 1 fL fdL ["self", "fact_count", "rooms"] (spHL C CA) := ok_HL FL T
  have G1 : FnOk P w K mg base CX0 1 f1 fd1 ["fact_count"] spFCF := ok_FCF F1 TF
  have G2 : FnOk P w K mg base CX0 1 f2 fd2 ["rooms"] (spRF K) := ok_RF F2 TF
  refine F.ok scHB (fun vs H Q E h => ?_) (fun cdv A outer s H vs Q E hr h => ?_)
  · obtain ⟨x, ac, g, rl, og, h, n, rs, rfl, _⟩ := h
    rfl
  · obtain ⟨x, ac, g, rl, og, h, n, rs, rfl, hH, hg, hrg, hrl, k⟩ := h
    refine ⟨_, pss_cons (ps_if (PW.pt (pw_or (pt_not (pt_val (pe_call G1 hr rfl g1 F1.kp b1 .nil pass0 (pa_cons (pv 1) pa_nil)))) (pw_or1 (pt_not (pt_val (pe_call G2 hr rfl g2 F2.kp b2 .nil pass0 (pa_cons (pv 2) pa_nil))))))) (pss_one (ps_ret (pe_gint rfl T.wrong))) pss_nil)
      (pss_cons (ps_expr (pe_meth (pv 0) T.cl mL GL hr bL .nil pass0 (pa_cons (pv 1) (pa_cons (pv 2) pa_nil))))
      (pss_one (ps_ret (pe_gint rfl T.done)))), ?_⟩
    refine ⟨_, rfl, n, rfl, _, rfl, ?_⟩
    refine ifnb (fun c => ?_) (fun c => ?_)
    · rw [begins_bad (by rw [c]; rfl)] at k
      exact iteT (k H ac (.inl rfl) hH (Kept.refl _ _))
    · refine ⟨_, rfl, rl, rs, rfl, SqL.of hrl, _, rfl, ?_⟩
      refine ifnb (fun c' => ?_) (fun c' => ?_)
      · rw [begins_bad (by rw [c, c']; rfl)] at k
        exact k H ac (.inl rfl) hH (Kept.refl _ _)
      · rw [begins_good (by rw [c, c']; rfl)] at k
        obtain ⟨dx, rl0, am, wa, xs, A0⟩ := hH
        have h1 := A0.obj
        refine ⟨_, rfl, x, dx, _, rfl, h1, rfl, _, rfl, _, rfl, x, dx, rl, g, og, n, rs, _, rfl, h1, .inr ⟨_, _, _, _, _, _, _, rfl⟩, hrl, ?_, hg, hrg, fun H' ac' hac hH' hk => ?_⟩
        · rw [Bool.and_eq_true, decide_eq_true_eq] at c'; exact c'.1
        · exact k H' ac' (.inr hac) hH' hk

def spHF (K : PySem.W.Frag) (C CA : Addr) : Sp := fun vs H Q _ => ∃ (x ac g am : Addr) (h : Pn06.House) (s : Nat) (xs : List Nat), vs = [.ref x, nv s, .ref am] ∧ HouseAt C CA H x ac g h ∧ SqL K H am (nvs xs) ∧
  ∀ (H' : Hp), Same H H' → Q (.bl (Pn06.fits h.task s xs)) H'
theorem scHF : FnScope ["self", "facts", "amounts"] ["self", "facts", "amounts"] (defScope sHF) := ⟨rfl, rfl, rfl, by decide +kernel, rfl, by decide +kernel, by decide +kernel⟩
theorem ok_HF {f f1 f2 : Addr} {fd fd1 fd2 : FuncData} (F : Fun K "state_fits" "House.state_fits" sHF f fd) (T : TxH K mg C CA) (TF : TxF mg)
    (F1 : Fun K "facts_fit" "facts_fit" sFF f1 fd1) (b1 : Binds K fd1 ["facts", "fact_count"] []) (g1 : mg "facts_fit" = some (.ref f1)) (F2 : Fun K "amounts_fit" "amounts_fit" sAF f2 fd2) (b2 : Binds K fd2 ["amounts", "rooms"] []) (g2 : mg "amounts_fit" = some (.ref f2)) :
    FnOk P w K mg base CX0 2 f fd ["self", "facts", "amounts"] (spHF K C CA) := by
  have G1 : FnOk P w K mg base CX0 1 f1 fd1 ["facts", "fact_count"] spFF := ok_FF F1
  have G2 : FnOk P w K mg base CX0 1 f2 fd2 ["amounts", "rooms"] (spAF K) := ok_AF F2 TF
  refine F.ok scHF (fun vs H Q E h => ?_) (fun cdv A outer s H vs Q E hr h => ?_)
  · obtain ⟨x, ac, g, am, h, s, xs, rfl, _⟩ := h
    rfl
  · obtain ⟨x, ac, g, am, h, s0, xs, rfl, hH, hA, k⟩ := h
    obtain ⟨dx, rl, am0, wa, ys, A0⟩ := hH
    have h1 := A0.obj
    have h2 := A0.hrl
    refine ⟨_, pss_one (ps_ret (pe_and (pe_call G1 hr rfl g1 F1.kp b1 .nil pass0 (pa_cons (pv 1) (pa_cons (pe_fld (pv 0) rfl) pa_nil))) (pe_one (pe_call G2 hr rfl g2 F2.kp b2 .nil pass0 (pa_cons (pv 2) (pa_cons (pe_fld (pv 0) rfl) pa_nil)))))), ?_⟩
    refine ⟨_, rfl, _, rfl, x, C, dx, _, _, rfl, h1, T.cl, T.n1, rfl, s0, h.task.facts, rfl, _, rfl, ?_⟩
    rw [fits_eq] at k
    refine ifd (fun c => ?_) (fun c => ?_)
    · rw [decide_eq_true c] at k
      refine ⟨_, rfl, _, rfl, x, C, dx, _, _, rfl, h1, T.cl, T.n2, rfl, am, rl, xs, h.task.rooms, rfl, hA, SqL.of h2, fun H' sm => ?_⟩
      exact k H' sm
    · rw [decide_eq_false c] at k
      exact k H (Same.refl H)

def spHS (C CA : Addr) : Sp := fun vs H Q _ => ∃ (x ac g am : Addr) (h : Pn06.House) (s : Nat) (xs : List Nat), vs = [.ref x, nv s, .ref am] ∧ HouseAt C CA H x ac g h ∧ H am = some (.lst (nvs xs)) ∧ am ≠ ac ∧ am ≠ g ∧
  ∀ (H' : Hp), HouseAt C CA H' x ac g (Pn06.step h (.start s xs)).1 → Kept x H H' → Q (.int (Pn06.step h (.start s xs)).2.v) H'
theorem scHS : FnScope ["self", "so", "amounts"] ["self", "so", "amounts"] (defScope sHS) := ⟨rfl, rfl, rfl, by decide +kernel, rfl, by decide +kernel, by decide +kernel⟩
theorem ok_HS {f fS f1 f2 : Addr} {fd fdS fd1 fd2 : FuncData} (F : Fun K "set_start" "House.set_start" sHS f fd) (T : TxH K mg C CA) (TF : TxF mg) (FS : Fun K "state_fits" "House.state_fits" sHF fS fdS) (bS : Binds K fdS ["self", "facts", "amounts"] []) (mS : Meth K C "state_fits" fS)
    (F1 : Fun K "facts_fit" "facts_fit" sFF f1 fd1) (b1 : Binds K fd1 ["facts", "fact_count"] []) (g1 : mg "facts_fit" = some (.ref f1)) (F2 : Fun K "amounts_fit" "amounts_fit" sAF f2 fd2) (b2 : Binds K fd2 ["amounts", "rooms"] []) (g2 : mg "amounts_fit" = some (.ref f2)) :
    FnOk P w K mg base CX0 3 f fd ["self", "so", "amounts"] (spHS C CA) := by
  have GS : FnOk P w K mg base CX0 2 fS fdS ["self", "facts", "amounts"] (spHF K C CA) := ok_HF FS T TF F1 b1 g1 F2 b2 g2
  refine F.ok scHS (fun vs H Q E h => ?_) (fun cdv A outer s H vs Q E hr h => ?_)
  · obtain ⟨x, ac, g, am, h, s, xs, rfl, _⟩ := h
    rfl
  · obtain ⟨x, ac, g, am, h, s0, xs, rfl, hH, hA, hne, hng, k⟩ := h
    refine ⟨_, pss_cons (ps_if (pt_not (pt_val (pe_meth (pv 0) T.cl mS GS hr bS .nil pass0 (pa_cons (pv 1) (pa_cons (pv 2) pa_nil))))) (pss_one (ps_ret (pe_gint rfl T.wrong))) pss_nil)
      (pss_cons (ps_fld (pv 0) (pv 1) rfl) (pss_cons (ps_fld (pv 0) (pv 2) rfl) (pss_one (ps_ret (pe_gint rfl T.done))))), ?_⟩
    obtain ⟨dx0, _, _, _, _, A00⟩ := id hH
    have h10 := A00.obj
    refine ⟨_, rfl, x, dx0, _, rfl, h10, rfl, _, rfl, _, rfl, x, ac, g, am, h, s0, xs, rfl, hH, SqL.of hA, fun H1 sm => ⟨_, rfl, ?_⟩⟩
    have hH1 := hH.same sm
    refine ifnb (fun c => ?_) (fun c => ?_)
    · have e : Pn06.step h (.start s0 xs) = (h, Pn06.ok (-1)) := by
        simp only [Pn06.step]; rw [if_pos c]
      rw [e] at k
      exact k H1 hH1 (Same.kept sm)
    · have e : Pn06.step h (.start s0 xs) = ({ h with start := ⟨s0, xs⟩ }, Pn06.ok 0) := by
        simp only [Pn06.step]; rw [if_neg (by rw [c]; simp)]
      rw [e] at k
      obtain ⟨dx, rl, am0, wa, ys, h1, h2, h3, h4, h5, n1, n1g, n2, n2g, n3, n3g, n4g, h6, h7⟩ := hH1
      have acx := ins_ne h1 h5
      refine ⟨_, rfl, _, rfl, x, C, dx, _, rfl, h1, T.cl, T.n4, hoF_len _ _ _ _ _ _ _, ?_⟩
      refine ⟨_, rfl, _, rfl, x, C, dx, _, rfl, upd_same, T.cl, T.n5, hoF_len _ _ _ _ _ _ _, ?_⟩
      have kk : ∀ o1 o2, Kept x H1 (upd (upd H1 x o1) x o2) := fun o1 o2 => kept_upd.trans kept_upd
      refine k _ ⟨dx, rl, am, wa, ys, upd_same, ?_, ?_, ?_, ?_, n1, n1g, hne, hng, n3, n3g, n4g, h6, fun i y a hy ha => ?_⟩ ((Same.kept sm).trans (kk _ _))
      · exact kk _ _ _ _ h2 (ins_ne h1 h2)
      · exact kk _ _ _ _ (sm _ _ hA) (ins_ne h1 (sm _ _ hA))
      · exact kk _ _ _ _ h4 (ins_ne h1 h4)
      · exact kk _ _ _ _ h5 acx
      · obtain ⟨sl, bs, q⟩ := h7 i y a hy ha
        exact ⟨sl, bs, q.ins h1 (by show (7 : Nat) ≠ 6; decide) (kk _ _)⟩

def spHW (C CA : Addr) : Sp := fun vs H Q _ => ∃ (x ac g am : Addr) (h : Pn06.House) (s : Nat) (xs : List Nat), vs = [.ref x, nv s, .ref am] ∧ HouseAt C CA H x ac g h ∧ H am = some (.lst (nvs xs)) ∧ am ≠ ac ∧ am ≠ g ∧
  ∀ (H' : Hp), HouseAt C CA H' x ac g (Pn06.step h (.wish s xs)).1 → Kept x H H' → Q (.int (Pn06.step h (.wish s xs)).2.v) H'
theorem scHW : FnScope ["self", "facts", "amounts"] ["self", "facts", "amounts"] (defScope sHW) := ⟨rfl, rfl, rfl, by decide +kernel, rfl, by decide +kernel, by decide +kernel⟩
theorem ok_HW {f fS f1 f2 : Addr} {fd fdS fd1 fd2 : FuncData} (F : Fun K "set_wish" "House.set_wish" sHW f fd) (T : TxH K mg C CA) (TF : TxF mg) (FS : Fun K "state_fits" "House.state_fits" sHF fS fdS) (bS : Binds K fdS ["self", "facts", "amounts"] []) (mS : Meth K C "state_fits" fS)
    (F1 : Fun K "facts_fit" "facts_fit" sFF f1 fd1) (b1 : Binds K fd1 ["facts", "fact_count"] []) (g1 : mg "facts_fit" = some (.ref f1)) (F2 : Fun K "amounts_fit" "amounts_fit" sAF f2 fd2) (b2 : Binds K fd2 ["amounts", "rooms"] []) (g2 : mg "amounts_fit" = some (.ref f2)) :
    FnOk P w K mg base CX0 3 f fd ["self", "facts", "amounts"] (spHW C CA) := by
  have GS : FnOk P w K mg base CX0 2 fS fdS ["self", "facts", "amounts"] (spHF K C CA) := ok_HF FS T TF F1 b1 g1 F2 b2 g2
  refine F.ok scHW (fun vs H Q E h => ?_) (fun cdv A outer s H vs Q E hr h => ?_)
  · obtain ⟨x, ac, g, am, h, s, xs, rfl, _⟩ := h
    rfl
  · obtain ⟨x, ac, g, am, h, s0, xs, rfl, hH, hA, hne, hng, k⟩ := h
    refine ⟨_, pss_cons (ps_if (pt_not (pt_val (pe_meth (pv 0) T.cl mS GS hr bS .nil pass0 (pa_cons (pv 1) (pa_cons (pv 2) pa_nil))))) (pss_one (ps_ret (pe_gint rfl T.wrong))) pss_nil)
      (pss_cons (ps_fld (pv 0) (pv 1) rfl) (pss_cons (ps_fld (pv 0) (pv 2) rfl) (pss_one (ps_ret (pe_gint rfl T.done))))), ?_⟩
    obtain ⟨dx0, _, _, _, _, A00⟩ := id hH
    have h10 := A00.obj
    refine ⟨_, rfl, x, dx0, _, rfl, h10, rfl, _, rfl, _, rfl, x, ac, g, am, h, s0, xs, rfl, hH, SqL.of hA, fun H1 sm => ⟨_, rfl, ?_⟩⟩
    have hH1 := hH.same sm
    refine ifnb (fun c => ?_) (fun c => ?_)
    · have e : Pn06.step h (.wish s0 xs) = (h, Pn06.ok (-1)) := by
        simp only [Pn06.step]; rw [if_pos c]
      rw [e] at k
      exact k H1 hH1 (Same.kept sm)
    · have e : Pn06.step h (.wish s0 xs) = ({ h with wish := ⟨s0, xs⟩ }, Pn06.ok 0) := by
        simp only [Pn06.step]; rw [if_neg (by rw [c]; simp)]
      rw [e] at k
      obtain ⟨dx, rl, am0, wa, ys, h1, h2, h3, h4, h5, n1, n1g, n2, n2g, n3, n3g, n4g, h6, h7⟩ := hH1
      have acx := ins_ne h1 h5
      refine ⟨_, rfl, _, rfl, x, C, dx, _, rfl, h1, T.cl, T.n6, hoF_len _ _ _ _ _ _ _, ?_⟩
      refine ⟨_, rfl, _, rfl, x, C, dx, _, rfl, upd_same, T.cl, T.n7, hoF_len _ _ _ _ _ _ _, ?_⟩
      have kk : ∀ o1 o2, Kept x H1 (upd (upd H1 x o1) x o2) := fun o1 o2 => kept_upd.trans kept_upd
      refine k _ ⟨dx, rl, am0, am, ys, upd_same, ?_, ?_, ?_, ?_, n1, n1g, n2, n2g, hne, hng, n4g, h6, fun i y a hy ha => ?_⟩ ((Same.kept sm).trans (kk _ _))
      · exact kk _ _ _ _ h2 (ins_ne h1 h2)
      · exact kk _ _ _ _ h3 (ins_ne h1 h3)
      · exact kk _ _ _ _ (sm _ _ hA) (ins_ne h1 (sm _ _ hA))
      · exact kk _ _ _ _ h5 acx
      · obtain ⟨sl, bs, q⟩ := h7 i y a hy ha
        exact ⟨sl, bs, q.ins h1 (by show (7 : Nat) ≠ 6; decide) (kk _ _)⟩

def spHA (C CA : Addr) : Sp := fun vs H Q _ => ∃ (x ac g na sl : Addr) (bs : List Addr) (h : Pn06.House) (row : List Nat) (ps : List (List Nat)), vs = [.ref x, .ref na, .ref sl] ∧ HouseAt C CA H x ac g h ∧ h.task.acts.length ≤ 8 ∧ H na = some (.lst (nvs row)) ∧
  H sl = some (.lst (bs.map V.ref)) ∧ sl ≠ ac ∧ sl ≠ g ∧ ac ∉ bs ∧ g ∉ bs ∧ RowsAt H bs ps ∧
  ∀ (H' : Hp), HouseAt C CA H' x ac g (Pn06.step h (.act row ps)).1 → Kept ac H H' → Q (.int (Pn06.step h (.act row ps)).2.v) H'
theorem scHA : FnScope ["self", "numbers", "stores"] ["self", "numbers", "stores"] (defScope sHA) := ⟨rfl, rfl, rfl, by decide +kernel, rfl, by decide +kernel, by decide +kernel⟩
theorem ok_HA {f f1 f2 f3 f4 fI : Addr} {fd fd1 fd2 fd3 fd4 fdI : FuncData} (F : Fun K "add_act" "House.add_act" sHA f fd) (T : TxH K mg C CA) (TF : TxF mg)
    (F1 : Fun K "act_numbers_fit" "act_numbers_fit" sANF f1 fd1) (b1 : Binds K fd1 ["numbers", "fact_count"] []) (g1 : mg "act_numbers_fit" = some (.ref f1)) (F2 : Fun K "act_stores_fit" "act_stores_fit" sASsF f2 fd2) (b2 : Binds K fd2 ["stores", "rooms"] []) (g2 : mg "act_stores_fit" = some (.ref f2))
    (F3 : Fun K "facts_fit" "facts_fit" sFF f3 fd3) (b3 : Binds K fd3 ["facts", "fact_count"] []) (g3 : mg "facts_fit" = some (.ref f3)) (F4 : Fun K "act_store_fits" "act_store_fits" sASF f4 fd4) (b4 : Binds K fd4 ["store", "room"] []) (g4 : mg "act_store_fits" = some (.ref f4))
    (M : Mk K CA fI) (FI : Fun K "__init__" "Act.__init__" sAI fI fdI) (bI : Binds K fdI ["self", "numbers", "stores"] []) :
    FnOk P w K mg base CX0 3 f fd ["self", "numbers", "stores"] (spHA C CA) := by
  have G1 : FnOk P w K mg base CX0 2 f1 fd1 ["numbers", "fact_count"] (spANF K) := ok_ANF F1 TF F3 b3 g3
  have G2 : FnOk P w K mg base CX0 2 f2 fd2 ["stores", "rooms"] (spASsF K) := ok_ASsF F2 TF F4 b4 g4
  have GI : FnOk P w K mg base CX0 1 fI fdI ["self", "numbers", "stores"] (spAI CA) := ok_AI FI T
  refine F.ok scHA (fun vs H Q E h => ?_) (fun cdv A outer s H vs Q E hr h => ?_)
  · obtain ⟨x, ac, g, na, sl, bs, h, row, ps, rfl, _⟩ := h
    rfl
  · obtain ⟨x, ac, g, na, sl, bs, h, row, ps, rfl, hH, h8, hN, hsl, n1, n1g, n2, n2g, hR, k⟩ := h
    refine ⟨_, pss_cons (ps_if (pt_cmp (pc_ge (pe_callB call_len_seq (by rfl) T.len PySem.boot_len (pa_cons (pe_fld (pv 0) rfl) pa_nil)) (pe_gint rfl T.mostActs))) (pss_one (ps_ret (pe_gint rfl T.full))) pss_nil)
      (pss_cons (ps_if (PW.pt (pw_or (pt_not (pt_val (pe_call G1 hr rfl g1 F1.kp b1 .nil pass0 (pa_cons (pv 1) (pa_cons (pe_fld (pv 0) rfl) pa_nil))))) (pw_or1 (pt_not (pt_val (pe_call G2 hr rfl g2 F2.kp b2 .nil pass0 (pa_cons (pv 2) (pa_cons (pe_fld (pv 0) rfl) pa_nil)))))))) (pss_one (ps_ret (pe_gint rfl T.wrong))) pss_nil)
      (pss_cons (ps_expr (pe_bm PySem.F.plainAttrs_list PySem.F.slot_list_append PySem.F.type_list_append mt_append (pe_fld (pv 0) rfl) (pa_cons (pe_make M GI hr rfl T.gCA bI .nil pass0 (pa_cons (pv 1) (pa_cons (pv 2) pa_nil))) pa_nil)))
      (pss_one (ps_ret (pe_op op_sub (pe_callB call_len_seq (by rfl) T.len PySem.boot_len (pa_cons (pe_fld (pv 0) rfl) pa_nil)) pe_int))))), ?_⟩
    obtain ⟨dx, rl, am, wa, xs, h1, h2, h3, h4, h5, m1, m1g, m2, m2g, m3, m3g, m4g, h6, h7⟩ := id hH
    refine ⟨_, rfl, x, C, dx, _, _, rfl, h1, T.cl, T.n3, rfl, ac, _, rfl, .inl (SqL.of h5), _, _, rfl, rfl, _, rfl, ?_⟩
    rw [List.length_map, h6]
    refine ifd (fun c => ?_) (fun c => ?_)
    · have e : Pn06.step h (.act row ps) = (h, Pn06.ok (-7)) := by
        simp only [Pn06.step]; rw [if_pos (show h.task.acts.length = Pn06.ACTS by show h.task.acts.length = 8; omega)]
      rw [e] at k
      exact k H hH (Kept.refl _ _)
    · have c8 : ¬ h.task.acts.length = Pn06.ACTS := by show ¬ h.task.acts.length = 8; omega
      refine ⟨_, rfl, _, rfl, x, C, dx, _, _, rfl, h1, T.cl, T.n1, rfl, na, row, h.task.facts, rfl, SqL.of hN, fun H1 s1 => ⟨_, rfl, ?_⟩⟩
      refine ifnb (fun c1 => ?_) (fun c1 => ?_)
      · have e : Pn06.step h (.act row ps) = (h, Pn06.ok (-1)) := by
          simp only [Pn06.step]; rw [if_neg c8, act_none (by rw [c1]; rfl)]
        rw [e] at k
        exact iteT (k H1 (hH.same s1) (Same.kept s1))
      · refine ⟨_, rfl, _, rfl, x, C, dx, _, _, rfl, s1 _ _ h1, T.cl, T.n2, rfl, sl, rl, bs, ps, h.task.rooms, rfl, SqL.of (s1 _ _ hsl), Same.rows s1 hR, SqL.of (s1 _ _ h2), fun H2 s2 => ⟨_, rfl, ?_⟩⟩
        have s12 := s1.trans s2
        refine ifnb (fun c2 => ?_) (fun c2 => ?_)
        · have e : Pn06.step h (.act row ps) = (h, Pn06.ok (-1)) := by
            simp only [Pn06.step]; rw [if_neg c8, act_none (by rw [c1, c2]; rfl)]
          rw [e] at k
          exact k H2 (hH.same s12) (Same.kept s12)
        · obtain ⟨a, ha⟩ := act_yes c1 c2
          have e : Pn06.step h (.act row ps) = ({ h with task := { h.task with acts := h.task.acts ++ [a] } }, Pn06.ok (h.task.acts.length : Nat)) := by
            simp only [Pn06.step]; rw [if_neg c8, ha]
          rw [e] at k
          obtain ⟨er, ep, _⟩ := act_some ha
          refine ⟨_, rfl, x, C, dx, _, _, rfl, s12 _ _ h1, T.cl, T.n3, rfl, .inl ⟨rfl, _, SqL.of (s12 _ _ h5)⟩, _, rfl, _, rfl, fun y dy ny ndy ney => ?_⟩
          refine ⟨y, dy, na, sl, a.pre, a.no, a.add, a.del, a.cost, rfl, upd_same, ?_, fun H3 h3' k3 => ⟨rfl, ?_⟩⟩
          · have q := s12 _ _ hN
            rw [upd_ne (ne_of_none q ny), upd_ne (ne_of_none q ndy), ← er]; exact q
          have s23 : Same H2 H3 := Same.made ny ndy k3
          have sm := s12.trans s23
          have hy0 : H y = none := Same.free s12 ny
          refine ⟨ac, _, _, rfl, rfl, sm _ _ h5, ?_, ?_⟩
          · rw [List.length_map]; exact small1000 (by omega)
          have yac : y ≠ ac := Ne.symm (ne_of_none h5 hy0)
          have kk : ∀ o, Kept ac H3 (upd H3 ac o) := fun o => kept_upd
          have xac : x ≠ ac := Ne.symm (ins_ne h1 h5)
          refine ⟨_, rfl, x, C, dx, _, _, rfl, kk _ _ _ (sm _ _ h1) xac, T.cl, T.n3, rfl, ac, _, rfl, .inl (SqL.of upd_same), _, _, rfl, rfl, ?_⟩
          have key := k (upd H3 ac (.lst (xs.map V.ref ++ [V.ref y]))) ⟨dx, rl, am, wa, xs ++ [y], kk _ _ _ (sm _ _ h1) xac, kk _ _ _ (sm _ _ h2) m1, kk _ _ _ (sm _ _ h3) m2, kk _ _ _ (sm _ _ h4) m3, ?_, m1, m1g, m2, m2g, m3, m3g, m4g, ?_, ?_⟩ ((Same.kept sm).trans (kk _))
          · rw [List.length_append, List.length_map, h6]
            show Q (.int (((h.task.acts.length + 1 : Nat) : Int) - 1)) _
            rw [show (((h.task.acts.length + 1 : Nat) : Int) - 1) = (h.task.acts.length : Int) by omega]
            exact key
          · rw [List.map_append]; exact upd_same
          · show (xs ++ [y]).length = (h.task.acts ++ [a]).length
            simp [h6]
          · intro i z b hz hb
            by_cases hi : i < xs.length
            · rw [List.getElem?_append_left hi] at hz
              have hb' : h.task.acts[i]? = some b := by
                rw [List.getElem?_append_left (by omega)] at hb; exact hb
              obtain ⟨sl', bs', q⟩ := h7 i z b hz hb'
              have q := q.same sm
              obtain ⟨d', q1⟩ := q.act.obj
              exact ⟨sl', bs', q.mono (kk _) (Ne.symm (ins_ne q1 (sm _ _ h5))) q.sac q.bac⟩
            · have ei : i = xs.length := by
                have := (List.getElem?_eq_some_iff.mp hz).1
                simp at this; omega
              subst ei
              rw [List.getElem?_append_right (Nat.le_refl _)] at hz
              rw [List.getElem?_append_right (by omega), ← h6] at hb
              simp at hz hb
              subst hz; subst hb
              refine ⟨sl, bs, ActOff.mono ⟨⟨⟨dy, h3'⟩, sm _ _ hsl, ?_⟩, n1, n1g, n2, n2g⟩ (kk _) yac n1 n2⟩
              rw [ep]
              exact Same.rows sm hR
end
end Tk
namespace Tk
open L2 PySem PySem.Spec PyProof.Rows
abbrev sANS : Stmt := top 51
abbrev outV (a : Pn06.Ans) : List V := (Pn06Neutral.out a).map V.int
section
variable {P : Program} {w : World} {K : PySem.W.Frag} {mg : Str → Option Value} {base : Heap} {C CA CR CC : Addr}
theorem scANS : FnScope ["calls", "house", "reader", "given", "answer"] ["calls"] (defScope sANS) := ⟨rfl, rfl, rfl, by decide +kernel, rfl, by decide +kernel, by decide +kernel⟩
theorem wire_rows {y : Pn06.Call} (h : small y) : (wire y).2.2.length ≤ 1000 := by
  cases y <;> simp [wire, small] at h ⊢
  omega
theorem enc_pos (y : Pn06.Call) : 0 < (enc y).length := by
  simp [enc, putN]
end
end Tk
namespace Tk
open L2 PySem PySem.Spec PyProof.Rows
abbrev sFA : Stmt := top 2
abbrev sFB : Stmt := top 3
abbrev sAB : Stmt := top 4
abbrev sSB : Stmt := top 5
structure TxA (mg : Str → Option Value) : Prop where
  zip : mg "zip" = none
  tuple : mg "tuple" = none
  list : mg "list" = none
  len : mg "len" = none
  enumerate : mg "enumerate" = none
  min : mg "min" = none
  range : mg "range" = none
/-- what is behind an act, by the act itself -/
def thenA (rooms : List Nat) (a : Pn06.Act) (u : Pn06.State) : Option Pn06.State := if a.pre.land u.s ≠ a.pre ∨ a.no.land u.s ≠ 0 then none else (Pn06.parts rooms a.parts u.in_).map fun y => ⟨(u.s - u.s.land a.del).lor a.add, y⟩
theorem then_of {t : Pn06.Task} {k : Nat} {a : Pn06.Act} (h : t.acts[k]? = some a) (u : Pn06.State) : t.then_ u k = thenA t.rooms a u := by
  have lt : ¬ t.acts.length ≤ k := Nat.not_le.mpr (List.getElem?_eq_some_iff.mp h).1
  have e : t.act k = a := by unfold Pn06.Task.act; rw [List.getD_eq_getElem?_getD, h]; rfl
  unfold Pn06.Task.then_ thenA
  simp only [e, lt, false_or]
theorem thenA_eq (rooms : List Nat) (a : Pn06.Act) (u : Pn06.State) : thenA rooms a u = if (decide (u.s.land a.pre = a.pre) && decide (u.s.land a.no = 0)) = true then (Pn06.parts rooms a.parts u.in_).map fun y => ⟨(u.s - u.s.land a.del).lor a.add, y⟩ else none := by
  have c1 : u.s.land a.pre = a.pre.land u.s := Nat.and_comm ..
  have c2 : u.s.land a.no = a.no.land u.s := Nat.and_comm ..
  unfold thenA
  rw [c1, c2]
  by_cases h1 : a.pre.land u.s = a.pre
  · by_cases h2 : a.no.land u.s = 0
    · rw [if_neg (fun z => z.elim (fun z => z h1) fun z => z h2), if_pos (by rw [decide_eq_true h1, decide_eq_true h2]; rfl)]
    · rw [if_pos (.inr h2), if_neg (by rw [decide_eq_false h2, Bool.and_false]; exact Bool.false_ne_true)]
  · rw [if_pos (.inl h1), if_neg (by rw [decide_eq_false h1, Bool.false_and]; exact Bool.false_ne_true)]
theorem cut_one (xs : List V) : cutV xs (some 1) none = xs.drop 1 := cut_from xs 1
theorem cut_less (xs : List V) (h : 0 < xs.length) : ¬ (HT.sIx xs.length 0 (some 1) = 0 ∧ HT.sIx xs.length xs.length none = xs.length) := fun z => by
  have e : HT.sIx xs.length 0 (some ((1 : Nat) : Int)) = min 1 xs.length := HT.sIx_nat ..
  have z1 : HT.sIx xs.length 0 (some ((1 : Nat) : Int)) = 0 := z.1
  omega
theorem then_out {t : Pn06.Task} {k : Nat} (h : t.acts.length ≤ k) (u : Pn06.State) : t.then_ u k = none := by
  unfold Pn06.Task.then_
  simp [h]
theorem and_nat (a b : Nat) : Builtin.bitAnd (a : Int) (b : Int) = ((a.land b : Nat) : Int) := by
  rw [bitAnd_pp (by omega) (by omega), Int.toNat_natCast, Int.toNat_natCast]; rfl
section
variable {P : Program} {w : World} {K : PySem.W.Frag} {mg : Str → Option Value} {base : Heap} {C CA : Addr}
def spFA (CA : Addr) : Sp := fun vs H Q _ => ∃ (x sl dx n : Nat) (a : Pn06.Act), vs = [.ref x, nv n] ∧ H x = some (.ins CA dx (acF a.pre a.no a.add a.del a.cost sl)) ∧ Q (.bl (decide (n.land a.pre = a.pre) && decide (n.land a.no = 0))) H
theorem scFA : FnScope ["act", "facts"] ["act", "facts"] (defScope sFA) := ⟨rfl, rfl, rfl, by decide +kernel, rfl, by decide +kernel, by decide +kernel⟩
theorem ok_FA {f : Addr} {fd : FuncData} (F : Fun K "facts_allow" "facts_allow" sFA f fd) (T : TxH K mg C CA) : FnOk P w K mg base CX0 1 f fd ["act", "facts"] (spFA CA) := by
  refine F.ok scFA (fun vs H Q E h => ?_) (fun cdv A outer s H vs Q E hr h => ?_)
  · obtain ⟨x, sl, dx, n, a, rfl, _⟩ := h
    rfl
  · obtain ⟨x, sl, dx, n, a, rfl, hx, k⟩ := h
    refine ⟨_, pss_one (ps_ret (pe_and (pe_cmp (pc_eqI (pe_op op_and (pv 1) (pe_fld (pv 0) rfl)) (pe_fld (pv 0) rfl))) (pe_one (pe_cmp (pc_eqI (pe_op op_and (pv 1) (pe_fld (pv 0) rfl)) pe_int))))), ?_⟩
    refine ⟨_, rfl, _, rfl, x, CA, dx, _, nv a.pre, rfl, hx, T.acl, T.a1, rfl, n, a.pre, rfl, rfl, _, rfl, x, CA, dx, _, nv a.pre, rfl, hx, T.acl, T.a1, rfl, _, _, rfl, rfl, _, rfl, ?_⟩
    rw [and_nat]
    refine ifd (fun c => ?_) (fun c => ?_)
    · have c' : n.land a.pre = a.pre := by omega
      refine ⟨_, rfl, _, rfl, x, CA, dx, _, nv a.no, rfl, hx, T.acl, T.a2, rfl, n, a.no, rfl, rfl, _, _, rfl, rfl, ?_⟩
      rw [and_nat]
      have e2 : decide (((n.land a.no : Nat) : Int) = 0) = decide (n.land a.no = 0) := by simp only [decide_eq_decide]; omega
      show Q (.bl (decide (((n.land a.no : Nat) : Int) = 0))) H
      rw [e2]
      simpa only [decide_eq_true c', Bool.true_and] using k
    · have c' : ¬ n.land a.pre = a.pre := by omega
      show Q (.bl false) H
      simpa only [decide_eq_false c', Bool.false_and] using k
def spFB (CA : Addr) : Sp := fun vs H Q _ => ∃ (x sl dx n : Nat) (a : Pn06.Act), vs = [.ref x, nv n] ∧ H x = some (.ins CA dx (acF a.pre a.no a.add a.del a.cost sl)) ∧ Q (nv ((n - n.land a.del).lor a.add)) H
theorem scFB : FnScope ["act", "facts", "left"] ["act", "facts"] (defScope sFB) := ⟨rfl, rfl, rfl, by decide +kernel, rfl, by decide +kernel, by decide +kernel⟩
theorem or_nat (a b : Nat) : Builtin.bitOr (a : Int) (b : Int) = ((a.lor b : Nat) : Int) := by
  rw [Bits.bitOr_pp (by omega) (by omega), Int.toNat_natCast, Int.toNat_natCast]; rfl
theorem ok_FB {f : Addr} {fd : FuncData} (F : Fun K "facts_behind" "facts_behind" sFB f fd) (T : TxH K mg C CA) : FnOk P w K mg base CX0 1 f fd ["act", "facts"] (spFB CA) := by
  refine F.ok scFB (fun vs H Q E h => ?_) (fun cdv A outer s H vs Q E hr h => ?_)
  · obtain ⟨x, sl, dx, n, a, rfl, _⟩ := h
    rfl
  · obtain ⟨x, sl, dx, n, a, rfl, hx, k⟩ := h
    refine ⟨_, pss_cons (ps_set (i := 2) scFB.nd rfl (Or.inl rfl) (pe_op op_sub (pv 1) (pe_op op_and (pv 1) (pe_fld (pv 0) rfl)))) (pss_one (ps_ret (pe_op op_or (pv 2) (pe_fld (pv 0) rfl)))), ?_⟩
    refine ⟨_, rfl, _, rfl, _, rfl, x, CA, dx, _, nv a.del, rfl, hx, T.acl, T.a4, rfl, n, a.del, rfl, rfl, _, _, rfl, rfl, ?_⟩
    have le : n.land a.del ≤ n := Nat.and_le_left
    have e : (n : Int) - Builtin.bitAnd (n : Int) (a.del : Int) = ((n - n.land a.del : Nat) : Int) := by rw [and_nat]; omega
    dsimp only
    rw [e]
    refine ⟨_, rfl, _, rfl, x, CA, dx, _, nv a.add, rfl, hx, T.acl, T.a3, rfl, _, _, rfl, rfl, ?_⟩
    show Q (.int (Builtin.bitOr ((n - n.land a.del : Nat) : Int) (a.add : Int))) H
    rw [or_nat]
    exact k
/-- a store's amount behind an act, as the program tells it -/
def told (o : Option Nat) : V := match o with | some y => nv y | none => .non
def spAB : Sp := fun vs H Q _ => ∃ (st : Addr) (p : Pn06.Part) (x r : Nat), vs = [.ref st, nv x, nv r] ∧ H st = some (.lst (nvs (rowOf p))) ∧ Q (told (p.then_ r x)) H
theorem scAB : FnScope ["store", "amount", "room", "least", "drawn", "filled", "is_spilt", "behind"] ["store", "amount", "room"] (defScope sAB) := ⟨rfl, rfl, rfl, by decide +kernel, rfl, by decide +kernel, by decide +kernel⟩
theorem ok_AB {f : Addr} {fd : FuncData} (F : Fun K "amount_behind" "amount_behind" sAB f fd) : FnOk P w K mg base CX0 1 f fd ["store", "amount", "room"] spAB := by
  refine F.ok scAB (fun vs H Q E h => ?_) (fun cdv A outer s H vs Q E hr h => ?_)
  · obtain ⟨st, p, x, r, rfl, _⟩ := h
    rfl
  · obtain ⟨st, p, x, r, rfl, hst, k⟩ := h
    refine ⟨_, pss_cons (ps_set (i := 3) scAB.nd rfl (Or.inl rfl) (pe_ix ix_list (pv 0) pe_int (fun _ _ => rfl))) (pss_cons (ps_set (i := 4) scAB.nd rfl (Or.inl rfl) (pe_ix ix_list (pv 0) pe_int (fun _ _ => rfl)))
      (pss_cons (ps_set (i := 5) scAB.nd rfl (Or.inl rfl) (pe_ix ix_list (pv 0) pe_int (fun _ _ => rfl))) (pss_cons (ps_set (i := 6) scAB.nd rfl (Or.inl rfl) (pe_cmp (pc_eqI (pe_ix ix_list (pv 0) pe_int (fun _ _ => rfl)) pe_int)))
      (pss_cons (ps_if (PW.pt (pw_or (pt_cmp (pc_lt (pv 1) (pv 3))) (pw_or1 (pt_cmp (pc_lt (pv 1) (pv 4)))))) (pss_one (ps_ret pe_non)) pss_nil)
      (pss_cons (ps_set (i := 7) scAB.nd rfl (Or.inl rfl) (pe_op op_add (pe_op op_sub (pv 1) (pv 4)) (pv 5)))
      (pss_cons (ps_if (pt_cmp (pc_le (pv 7) (pv 2))) (pss_one (ps_ret (pv 7))) pss_nil) (pss_one (ps_ret (pe_ifExp (pt_val (pv 6)) (pv 2) pe_non))))))))), ?_⟩
    have hs : SqL K H st (nvs (rowOf p)) := SqL.of hst
    have spill : decide ((((if p.spill then 1 else 0 : Nat)) : Int) = 1) = p.spill := by cases p.spill <;> rfl
    refine ⟨_, rfl, st, _, _, _, rfl, rfl, hs, at_of (j := 0) (v := nv p.need) rfl rfl, ?_⟩
    refine ⟨_, rfl, st, _, _, _, rfl, rfl, hs, at_of (j := 1) (v := nv p.take) rfl rfl, ?_⟩
    refine ⟨_, rfl, st, _, _, _, rfl, rfl, hs, at_of (j := 2) (v := nv p.bring) rfl rfl, ?_⟩
    refine ⟨_, rfl, st, _, _, _, rfl, rfl, hs, at_of (j := 3) (v := nv (if p.spill then 1 else 0)) rfl rfl, _, _, rfl, rfl, ?_⟩
    refine ⟨_, rfl, _, rfl, _, _, rfl, rfl, _, rfl, ?_⟩
    unfold Pn06.Part.then_ at k
    refine ifd (fun c => ?_) (fun c => ?_)
    · rw [if_pos (.inl (by omega))] at k
      exact k
    · refine ⟨_, rfl, _, rfl, _, _, rfl, rfl, _, rfl, ?_⟩
      refine ifd (fun d => ?_) (fun d => ?_)
      · rw [if_pos (.inr (by omega))] at k
        exact k
      · rw [if_neg (by omega)] at k
        refine ⟨_, rfl, _, rfl, _, _, rfl, rfl, _, rfl, _, _, rfl, rfl, ?_⟩
        have e : (x : Int) - (p.take : Int) + (p.bring : Int) = ((x - p.take + p.bring : Nat) : Int) := by omega
        dsimp only
        rw [e]
        refine ⟨_, rfl, _, rfl, _, _, rfl, rfl, _, rfl, ?_⟩
        dsimp only at k
        refine ifd (fun c2 => ?_) (fun c2 => ?_)
        · rw [if_pos (by omega)] at k
          exact ⟨_, rfl, k⟩
        · rw [if_neg (by omega)] at k
          refine ⟨_, rfl, _, rfl, ?_⟩
          show if decide ((((if p.spill then 1 else 0 : Nat)) : Int) = 1) = true then _ else _
          rw [spill]
          refine ifb (fun c3 => ?_) (fun c3 => ?_)
          · rw [if_pos c3] at k
            exact ⟨_, rfl, k⟩
          · rw [if_neg (by simp [c3])] at k
            exact k
/-- a state as the program has it -/
abbrev stv (u : Pn06.State) : List V := nvs (u.s :: u.in_)
theorem parts_all : ∀ {rs : List Nat} {ps : List Pn06.Part} {xs ys : List Nat}, ps.length = rs.length → xs.length = rs.length → ys.length = rs.length → (∀ (j : Nat) r p x y, rs[j]? = some r → ps[j]? = some p → xs[j]? = some x → ys[j]? = some y → p.then_ r x = some y) → Pn06.parts rs ps xs = some ys
  | [], _, _, [], _, _, _, _ => rfl
  | r :: rs, p :: ps, x :: xs, y :: ys, h1, h2, h3, h => by
    have e1 := h 0 r p x y rfl rfl rfl rfl
    have e2 := parts_all (rs := rs) (ps := ps) (xs := xs) (ys := ys) (by simpa using h1) (by simpa using h2) (by simpa using h3) fun j r p x y a b c d => h (j + 1) r p x y (by simpa using a) (by simpa using b) (by simpa using c) (by simpa using d)
    simp only [Pn06.parts, e1, e2]
theorem parts_fail : ∀ {rs : List Nat} {ps : List Pn06.Part} {xs : List Nat} {j r x : Nat} {p : Pn06.Part}, rs[j]? = some r → ps[j]? = some p → xs[j]? = some x → p.then_ r x = none → Pn06.parts rs ps xs = none
  | [], _, _, _, _, _, _, h, _, _, _ => by simp at h
  | _ :: _, [], _, _, _, _, _, _, h, _, _ => by simp at h
  | _ :: _, _ :: _, [], _, _, _, _, _, _, h, _ => by simp at h
  | r :: rs, p :: ps, x :: xs, 0, _, _, _, h1, h2, h3, h => by
    simp at h1 h2 h3
    subst h1 h2 h3
    simp only [Pn06.parts, h]
  | r :: rs, p :: ps, x :: xs, j + 1, _, _, _, h1, h2, h3, h => by
    have e := parts_fail (rs := rs) (ps := ps) (xs := xs) (j := j) (by simpa using h1) (by simpa using h2) (by simpa using h3) h
    simp only [Pn06.parts, e]
    split <;> simp_all
theorem same_put {H H' : Hp} {p : Addr} {o : HO} (s : Same H H') (n : H p = none) : Same H (upd H' p o) := fun b u e => (upd_ne (ne_of_none e n)).trans (s b u e)
/-- state_behind's answer -/
def gives (H : Hp) (o : Option Pn06.State) (Q : VK) : Prop := ∀ H', Same H H' → match o with
  | none => Q .non H'
  | some v => ∀ p, H p = none → H' p = some (.tup (stv v)) → Q (.ref p) H'
def spSB (CA : Addr) : Sp := fun vs H Q _ => ∃ (x sl s rl : Addr) (bs : List Addr) (a : Pn06.Act) (u : Pn06.State) (rooms : List Nat), vs = [.ref x, .ref s, .ref rl] ∧ ActAt CA H x sl bs a ∧ H s = some (.tup (stv u)) ∧ H rl = some (.lst (nvs rooms)) ∧ a.parts.length = rooms.length ∧ u.in_.length = rooms.length ∧ rooms.length ≤ 2 ∧ gives H (thenA rooms a u) Q
theorem scSB : FnScope ["act", "state", "rooms", "facts", "told", "store", "amount", "room", "behind"] ["act", "state", "rooms"] (defScope sSB) := ⟨rfl, rfl, rfl, by decide +kernel, rfl, by decide +kernel, by decide +kernel⟩
theorem ok_SB {f fA fB fM : Addr} {fd fdA fdB fdM : FuncData} (F : Fun K "state_behind" "state_behind" sSB f fd) (T : TxH K mg C CA) (TA : TxA mg)
    (GA : FnOk P w K mg base CX0 1 fA fdA ["act", "facts"] (spFA CA)) (kpA : PySem.W.keepIn K (.ref fA) = true) (bA : Binds K fdA ["act", "facts"] []) (gA : mg "facts_allow" = some (.ref fA))
    (GB : FnOk P w K mg base CX0 1 fB fdB ["act", "facts"] (spFB CA)) (kpB : PySem.W.keepIn K (.ref fB) = true) (bB : Binds K fdB ["act", "facts"] []) (gB : mg "facts_behind" = some (.ref fB))
    (GM : FnOk P w K mg base CX0 1 fM fdM ["store", "amount", "room"] spAB) (kpM : PySem.W.keepIn K (.ref fM) = true) (bM : Binds K fdM ["store", "amount", "room"] []) (gM : mg "amount_behind" = some (.ref fM)) :
    FnOk P w K mg base CX0 2 f fd ["act", "state", "rooms"] (spSB CA) := by
  refine F.ok scSB (fun vs H Q E h => ?_) (fun cdv A outer s H vs Q E hr h => ?_)
  · obtain ⟨x, sl, s, rl, bs, a, u, rooms, rfl, _⟩ := h
    rfl
  · obtain ⟨x, sl, s', rl, bs, a, u, rooms, rfl, act, hs, hrl, lp, lu, few, k⟩ := h
    obtain ⟨dx, hx⟩ := act.obj
    refine ⟨_, pss_cons (ps_set (i := 3) scSB.nd rfl (Or.inl rfl) (pe_ix ix_tup (pv 1) pe_int (fun _ _ => rfl)))
      (pss_cons (ps_if (pt_not (pt_val (pe_call GA hr rfl gA kpA bA .nil pass0 (pa_cons (pv 0) (pa_cons (pv 3) pa_nil))))) (pss_one (ps_ret pe_non)) pss_nil)
      (pss_cons (ps_set (i := 4) scSB.nd rfl (Or.inl rfl) (pe_lst (pa_cons (pe_call GB hr rfl gB kpB bB .nil pass0 (pa_cons (pv 0) (pa_cons (pv 3) pa_nil))) pa_nil)))
      (pss_cons (ps_for PassesOwn.never rfl (pi_trip (by rfl) TA.zip (pa_cons (pe_fld (pv 0) rfl) (pa_cons (pe_slice sl_tup (pv 1) (po_some pe_int) po_none) (pa_cons (pv 2) pa_nil))))
          (pg_tup rfl (pgs_cons (pg_name (i := 5) scSB.nd rfl (Or.inl rfl)) (pgs_cons (pg_name (i := 6) scSB.nd rfl (Or.inl rfl)) (pgs_cons (pg_name (i := 7) scSB.nd rfl (Or.inl rfl)) pgs_nil))))
        (pss_cons (ps_set (i := 8) scSB.nd rfl (Or.inl rfl) (pe_call GM hr rfl gM kpM bM .nil pass0 (pa_cons (pv 5) (pa_cons (pv 6) (pa_cons (pv 7) pa_nil)))))
        (pss_cons (ps_if (pt_cmp (pc_isN (pv 8))) (pss_one (ps_ret pe_non)) pss_nil)
        (pss_one (ps_expr (pe_bm PySem.F.plainAttrs_list PySem.F.slot_list_append PySem.F.type_list_append mt_append (pv 4) (pa_cons (pv 8) pa_nil)))))))
      (pss_one (ps_ret (pe_callTy call_tuple_of (by rfl) TA.tuple (by decide +kernel) (pa_cons (pv 4) pa_nil))))))), ?_⟩
    refine ⟨_, rfl, s', _, _, _, rfl, rfl, SqT.of hs, at_of (j := 0) (v := nv u.s) rfl rfl, ?_⟩
    refine ⟨_, rfl, _, rfl, x, sl, dx, u.s, a, rfl, hx, _, rfl, ?_⟩
    rw [thenA_eq] at k
    refine ifnb (fun c => ?_) (fun c => ?_)
    · rw [if_neg (by rw [c]; exact Bool.false_ne_true)] at k
      exact k H (Same.refl H)
    · rw [if_pos c] at k
      refine ⟨_, rfl, _, rfl, x, sl, dx, u.s, a, rfl, hx, ?_⟩
      refine ⟨by show 1 ≤ sizeLine; decide, fun p hp => ?_⟩
      have sm0 := Same.upd (o := .lst [nv ((u.s - u.s.land a.del).lor a.add)]) hp
      refine ⟨_, rfl, x, CA, dx, _, .ref sl, rfl, sm0 _ _ hx, T.acl, T.a6, rfl, _, rfl, _, rfl, s', _, rfl, SqT.of (sm0 _ _ hs), ?_, fun q hq => ?_⟩
      · exact cut_less _ (Nat.succ_pos _)
      rw [cut_one]
      have sm1 := sm0.trans (Same.upd (o := .tup (nvs u.in_)) hq)
      have pq : p ≠ q := ne_of_none upd_same hq
      refine ⟨_, rfl, sl, q, rl, (bs.map V.ref, nvs u.in_, nvs rooms), rfl, ⟨SqL.of (sm1 _ _ act.hsl), SqT.of upd_same, SqL.of (sm1 _ _ hrl)⟩, ?_⟩
      refine for_trip rooms.length (by simp [act.rows.len, lp]) (by simp [lu]) (by simp) (fun i σ H' => Same H H' ∧ H' q = some (.tup (nvs u.in_)) ∧
        (∃ v1 v2 v3 v4 ys, σ = [some (.ref x), some (.ref s'), some (.ref rl), some (nv u.s), some (.ref p), v1, v2, v3, v4] ∧ H' p = some (.lst (nvs (((u.s - u.s.land a.del).lor a.add) :: ys))) ∧ ys.length = i ∧
          ∀ (j : Nat) r pt x y, rooms[j]? = some r → a.parts[j]? = some pt → u.in_[j]? = some x → ys[j]? = some y → pt.then_ r x = some y)) ?_ ?_ ?_ ?_
      · exact ⟨sm1, upd_same, _, _, _, _, [], rfl, (upd_ne pq).trans upd_same, rfl, fun j r pt x y _ _ _ h => by simp at h⟩
      · rintro i σ H' ⟨sm, hq', _⟩
        exact ⟨SqL.of (sm _ _ act.hsl), SqT.of hq', SqL.of (sm _ _ hrl)⟩
      · rintro i v1 v2 v3 T0 σ H' h1 h2 h3 ⟨sm, hq', w1, w2, w3, w4, ys, rfl, hp', len, all⟩ new
        obtain ⟨b, hb, rfl⟩ := map_at h1
        obtain ⟨y, hy, rfl⟩ := map_at h2
        obtain ⟨r, hr', rfl⟩ := map_at h3
        have li : i < a.parts.length := by rw [lp]; exact (List.getElem?_eq_some_iff.mp hr').1
        have hpt : a.parts[i]? = some a.parts[i] := List.getElem?_eq_getElem li
        have row := act.rows.row i b (rowOf a.parts[i]) hb (by rw [List.getElem?_map, hpt]; rfl)
        have sm2 := Same.upd (o := .tup [.ref b, nv y, nv r]) new
        refine ⟨T0, _, rfl, SqT.of upd_same, rfl, _, _, rfl, _, _, rfl, _, _, rfl, rfl, ?_⟩
        refine ⟨_, rfl, _, rfl, _, rfl, b, a.parts[i], y, r, rfl, sm2 _ _ (sm _ _ row), ?_⟩
        cases e : a.parts[i].then_ r y with
        | none =>
          refine ⟨_, rfl, _, rfl, ?_⟩
          rw [parts_fail hr' hpt hy e] at k
          exact k _ (sm.trans sm2)
        | some z =>
          refine ⟨_, rfl, _, rfl, ?_⟩
          refine ⟨_, rfl, .inl ⟨rfl, _, SqL.of (sm2 _ _ hp')⟩, _, rfl, p, _, _, rfl, rfl, sm2 _ _ hp', ?_, ?_⟩
          · have := (List.getElem?_eq_some_iff.mp hr').1
            rw [List.length_map, List.length_cons, len]
            exact Nat.lt_of_lt_of_le (by omega) (by decide : 10 ≤ sizeLine)
          refine ⟨same_put (sm.trans sm2) hp, ?_, _, _, _, _, ys ++ [z], rfl, ?_, by simp [len], fun j r' pt x' y' a1 a2 a3 a4 => ?_⟩
          · exact (upd_ne (Ne.symm pq)).trans (sm2 _ _ hq')
          · rw [upd_same]
            simp [nvs, told]
          · by_cases c : j < ys.length
            · rw [List.getElem?_append_left c] at a4
              exact all j r' pt x' y' a1 a2 a3 a4
            · have e1 : j < rooms.length := (List.getElem?_eq_some_iff.mp a1).1
              rw [List.getElem?_append_right (by omega)] at a4
              have e2 : j = i := by
                have := (List.getElem?_eq_some_iff.mp a4).1
                simp at this
                omega
              subst e2
              rw [len, Nat.sub_self] at a4
              cases a4
              rw [hr'] at a1
              rw [hpt] at a2
              rw [hy] at a3
              cases a1; cases a2; cases a3
              exact e
      · rintro σ H' ⟨sm, hq', w1, w2, w3, w4, ys, rfl, hp', len, all⟩
        have e := parts_all lp lu len all
        rw [e] at k
        refine ⟨_, rfl, p, _, rfl, .inl ⟨SqL.of hp', fun l hl => ?_⟩⟩
        exact k _ (sm.trans (Same.upd hl)) l (sm.free hl) upd_same
end
end Tk
namespace Tk
open L2 PySem PySem.Spec PyProof.Rows
abbrev sLC : Stmt := top 21
abbrev sFR : Stmt := top 22
/-- a list of pairs of numbers -/
structure PairsAt (H : Hp) (l : Addr) (as : List Addr) (es : List (Nat × Nat)) : Prop where
  list : H l = some (.lst (as.map V.ref))
  len : as.length = es.length
  pair : ∀ (i : Nat) a e, as[i]? = some a → es[i]? = some e → H a = some (.tup [nv e.1, nv e.2])
theorem PairsAt.same {H H' : Hp} {l : Addr} {as : List Addr} {es : List (Nat × Nat)} (x : PairsAt H l as es) (s : Same H H') : PairsAt H' l as es := ⟨s _ _ x.list, x.len, fun i a e h g => s _ _ (x.pair i a e h g)⟩
/-- what so much or more costs at least -/
def costs (es : List (Nat × Nat)) (m : Nat) : List Nat := (es.filter fun e => decide (m ≤ e.1)).map (·.2)
section
variable {P : Program} {w : World} {K : PySem.W.Frag} {mg : Str → Option Value} {base : Heap}
def spLC : Sp := fun vs H Q _ => ∃ (l : Addr) (as : List Addr) (es : List (Nat × Nat)) (m : Nat), vs = [.ref l, nv m] ∧ PairsAt H l as es ∧ es.length ≤ 1000 ∧ ∀ H', Same H H' → Q (told (minOf (costs es m))) H'
theorem scLC : FnScope ["ends", "amount", "end"] ["ends", "amount"] (defScope sLC) := ⟨rfl, rfl, rfl, by decide +kernel, rfl, by decide +kernel, by decide +kernel⟩
theorem ok_LC {f : Addr} {fd : FuncData} (F : Fun K "least_cost" "least_cost" sLC f fd) (T : TxA mg) : FnOk P w K mg base CX0 1 f fd ["ends", "amount"] spLC := by
  refine F.ok scLC (fun vs H Q E h => ?_) (fun cdv A outer s H vs Q E hr h => ?_)
  · obtain ⟨l, as, es, m, rfl, _⟩ := h
    rfl
  · obtain ⟨l, as, es, m, rfl, pa, few, k⟩ := h
    refine ⟨_, pss_one (ps_ret (pe_callBK (cr_minD rfl) (by rfl) T.min (by decide +kernel) (pa_cons (pe_lc (own := [("end", 2)]) (g := gName 2) (tt := tB (tGe (tOp (rIxT K) (tVar 2) (tC (.int 0))) (tVar 1))) (te := tOp (rIxT K) (tVar 2) (tC (.int 1))) rfl scLC.nd (pi_list (pv 0)) (blkOk_by (own := [("end", 2)]) (N := ["ends", "amount", "end"]) (sc := defScope sLC) (by decide +kernel))
      (fun _ _ _ _ _ => pg_name (i := 2) scLC.nd rfl (Or.inl rfl)) (fun _ _ _ _ _ => pts_one (pt_cmp (pc_ge (pe_ix ix_tup (pv 2) pe_int (fun _ _ => rfl)) (pv 1)))) (fun _ _ _ _ _ => pe_ix ix_tup (pv 2) pe_int (fun _ _ => rfl))) pa_nil) (pk_cons pe_non pk_nil))), ?_⟩
    refine ⟨_, rfl, l, rfl, ⟨_, SqL.of pa.list⟩, fun D new => ?_⟩
    have off : ∀ {H' : Hp}, Same H H' → ∀ o, Same H (upd H' D o) := fun s o => same_put s new
    refine lc_list (K := K) (a := l) (xs := as.map V.ref) (fun i H' => Same H H' ∧ H' D = some (.lst (nvs (costs (es.take i) m)))) ⟨off (Same.refl H) _, upd_same⟩ (fun i H' _ h => SqL.of (h.1 _ _ pa.list)) ?_ ?_
    · rintro i v H' hv ⟨sm, hD⟩
      obtain ⟨a, ha, rfl⟩ := map_at hv
      have li : i < es.length := by rw [← pa.len]; exact (List.getElem?_eq_some_iff.mp ha).1
      have he : es[i]? = some es[i] := List.getElem?_eq_getElem li
      have tup := sm _ _ (pa.pair i a _ ha he)
      refine ⟨rfl, ?_⟩
      refine ⟨_, rfl, a, _, _, _, rfl, rfl, SqT.of tup, at_of (j := 0) (v := nv es[i].1) rfl rfl, _, rfl, _, _, rfl, rfl, _, rfl, ?_⟩
      have more : costs (es.take (i + 1)) m = costs (es.take i) m ++ (if m ≤ es[i].1 then [es[i].2] else []) := by
        unfold costs
        rw [take_more he, List.filter_append, List.map_append]
        by_cases c : m ≤ es[i].1
        · simp [c]
        · simp [c]
      refine ifd (fun c => ?_) (fun c => ?_)
      · refine ⟨_, rfl, a, _, _, _, rfl, rfl, SqT.of tup, at_of (j := 1) (v := nv es[i].2) rfl rfl, _, hD, ?_, off sm _, ?_⟩
        · have := List.length_filter_le (fun e : Nat × Nat => decide (m ≤ e.1)) (es.take i)
          rw [List.length_map, costs, List.length_map]
          rw [List.length_take] at this
          exact Nat.lt_of_lt_of_le (by omega : _ < 2000) (by decide)
        · rw [upd_same, more, if_pos (by omega)]
          simp [nvs]
      · refine ⟨sm, ?_⟩
        rw [more, if_neg (by omega), List.append_nil]
        exact hD
    · rintro H' ⟨sm, hD⟩
      rw [List.length_map, pa.len, List.take_length] at hD
      refine ⟨D, (costs es m).map Int.ofNat, rfl, rfl, SqL.of (by rw [hD]; simp [nvs, List.map_map]; intros; rfl), fun z => ?_, fun c hc least => ?_⟩
      · have e : costs es m = [] := by simpa using z
        rw [e] at k
        exact k H' sm
      · cases e : minOf (costs es m) with
        | none =>
          rw [minOf_none e] at hc
          cases hc
        | some d =>
          obtain ⟨h1, h2⟩ := minOf_some e
          rw [e] at k
          obtain ⟨c', hc', rfl⟩ := List.mem_map.mp hc
          have q1 := h2 c' hc'
          have q2 : (c' : Int) ≤ (d : Int) := least _ (List.mem_map.mpr ⟨d, h1, rfl⟩)
          have q3 : c' = d := by omega
          rw [q3]
          exact k H' sm
/-- one told amount -/
def front1 (es : List (Nat × Nat)) (x : Nat) : Option (Nat × Nat) := match minOf (costs es x), minOf (costs es (x + 1)) with
  | none, _ => none
  | some c, none => some (x, c)
  | some c, some d => if c < d then some (x, c) else none
def frontE (es : List (Nat × Nat)) (room : Nat) : List (Nat × Nat) := (List.range (room + 1)).filterMap (front1 es)
def spFR : Sp := fun vs H Q _ => ∃ (l : Addr) (as : List Addr) (es : List (Nat × Nat)) (room : Nat), vs = [.ref l, nv room] ∧ PairsAt H l as es ∧ es.length ≤ 1000 ∧ room ≤ 7 ∧ ∀ H' p bs, Same H H' → H p = none → PairsAt H' p bs (frontE es room) → Q (.ref p) H'
theorem scFR : FnScope ["ends", "room", "told", "amount", "cost", "cost_of_more"] ["ends", "room"] (defScope sFR) := ⟨rfl, rfl, rfl, by decide +kernel, rfl, by decide +kernel, by decide +kernel⟩
theorem PairsAt.snoc {H : Hp} {l : Addr} {as : List Addr} {es : List (Nat × Nat)} {a : Addr} {e : Nat × Nat} (x : PairsAt H l as es) (nl : a ≠ l) (h : H a = some (.tup [nv e.1, nv e.2])) : PairsAt (upd H l (.lst ((as ++ [a]).map V.ref))) l (as ++ [a]) (es ++ [e]) := by
  refine ⟨upd_same, by simp [x.len], fun i b f hb hf => ?_⟩
  by_cases c : i < as.length
  · rw [List.getElem?_append_left c] at hb
    rw [List.getElem?_append_left (by rw [← x.len]; exact c)] at hf
    have q := x.pair i b f hb hf
    exact (upd_ne (ne_of q x.list (fun z => nomatch z))).trans q
  · rw [List.getElem?_append_right (by omega)] at hb
    rw [List.getElem?_append_right (by rw [← x.len]; omega), ← x.len] at hf
    cases n : i - as.length with
    | zero =>
      rw [n] at hb hf
      cases hb; cases hf
      exact (upd_ne nl).trans h
    | succ m => rw [n] at hb; simp at hb
theorem ok_FR {f fL : Addr} {fd fdL : FuncData} (F : Fun K "front_amounts" "front_amounts" sFR f fd) (T : TxA mg) (GL : FnOk P w K mg base CX0 1 fL fdL ["ends", "amount"] spLC) (kpL : PySem.W.keepIn K (.ref fL) = true) (bL : Binds K fdL ["ends", "amount"] []) (gL : mg "least_cost" = some (.ref fL)) :
    FnOk P w K mg base CX0 2 f fd ["ends", "room"] spFR := by
  refine F.ok scFR (fun vs H Q E h => ?_) (fun cdv A outer s H vs Q E hr h => ?_)
  · obtain ⟨l, as, es, room, rfl, _⟩ := h
    rfl
  · obtain ⟨l, as, es, room, rfl, pa, few, small, k⟩ := h
    refine ⟨_, pss_cons (ps_set (i := 2) scFR.nd rfl (Or.inl rfl) (pe_lst pa_nil))
      (pss_cons (ps_for PassesOwn.never rfl (pi_range1 rfl T.range (pa_cons (pe_op op_add (pv 1) pe_int) pa_nil)) (pg_name (i := 3) scFR.nd rfl (Or.inl rfl))
        (pss_cons (ps_set (i := 4) scFR.nd rfl (Or.inl rfl) (pe_call GL hr rfl gL kpL bL .nil pass0 (pa_cons (pv 0) (pa_cons (pv 3) pa_nil))))
        (pss_cons (ps_set (i := 5) scFR.nd rfl (Or.inl rfl) (pe_call GL hr rfl gL kpL bL .nil pass0 (pa_cons (pv 0) (pa_cons (pe_op op_add (pv 3) pe_int) pa_nil))))
        (pss_one (ps_if (PW.pt (pw_and (pt_cmp (pc_notN (pv 4))) (pw_and1 (PW.pt (pw_or (pt_cmp (pc_isN (pv 5))) (pw_or1 (pt_cmp (pc_gt (pv 5) (pv 4)))))))))
          (pss_one (ps_expr (pe_bm PySem.F.plainAttrs_list PySem.F.slot_list_append PySem.F.type_list_append mt_append (pv 2) (pa_cons (pe_tup (pa_cons (pv 3) (pa_cons (pv 4) pa_nil))) pa_nil)))) pss_nil)))))
      (pss_one (ps_ret (pv 2)))), ?_⟩
    refine ⟨Nat.zero_le _, fun p new => ?_⟩
    refine ⟨_, rfl, _, _, rfl, rfl, ((room + 1 : Nat) : Int), rfl, by omega, by omega, ?_⟩
    refine for_range (lo := 0) (n := room + 1) (fun i σ H' => Same H H' ∧ ∃ bs v1 v2 v3, σ = [some (.ref l), some (nv room), some (.ref p), v1, v2, v3] ∧ PairsAt H' p bs ((List.range i).filterMap (front1 es))) ?_ ?_ ?_
    · exact ⟨Same.upd new, [], _, _, _, rfl, upd_same, rfl, fun i a e h => by simp at h⟩
    · rintro i σ H1 li ⟨sm, bs, v1, v2, v3, rfl, pb⟩
      have more : (List.range (i + 1)).filterMap (front1 es) = (List.range i).filterMap (front1 es) ++ (front1 es i).toList := by
        rw [List.range_succ, List.filterMap_append]
        cases e : front1 es i <;> simp [e]
      refine ⟨_, rfl, _, rfl, l, as, es, i, by rw [Int.zero_add]; rfl, pa.same sm, few, fun H2 sm2 => ?_⟩
      refine ⟨_, rfl, _, rfl, _, _, rfl, rfl, l, as, es, i + 1, by rw [Int.zero_add]; rfl, (pa.same sm).same sm2, few, fun H3 sm3 => ?_⟩
      have smA := (sm.trans sm2).trans sm3
      have pb3 := (pb.same sm2).same sm3
      refine ⟨_, rfl, _, rfl, ?_⟩
      cases e1 : minOf (costs es i) with
      | none =>
        have z : front1 es i = none := by simp [front1, e1]
        rw [z] at more
        exact ⟨smA, bs, _, _, _, rfl, by rw [more]; simpa using pb3⟩
      | some c =>
        have short : (bs.map V.ref).length < sizeLine := by
          have l1 := List.length_filterMap_le (front1 es) (List.range i)
          rw [List.length_range] at l1
          rw [List.length_map, pb.len]
          exact Nat.lt_of_le_of_lt l1 (Nat.lt_of_lt_of_le (by omega : i < 100) (by decide))
        have fin : front1 es i = some (i, c) → ∀ t, H3 t = none → Same H (upd (upd H3 t (.tup [V.int (0 + (i : Int)), nv c])) p (.lst (bs.map V.ref ++ [.ref t]))) ∧ PairsAt (upd (upd H3 t (.tup [V.int (0 + (i : Int)), nv c])) p (.lst (bs.map V.ref ++ [.ref t]))) p (bs ++ [t]) ((List.range (i + 1)).filterMap (front1 es)) := fun z t ht => by
          have tp : t ≠ p := Ne.symm (ne_of_none pb3.list ht)
          refine ⟨same_put (smA.trans (Same.upd ht)) new, ?_⟩
          rw [more, z, show V.int (0 + (i : Int)) = nv i by rw [Int.zero_add]; rfl]
          have q := (pb3.same (Same.upd (o := .tup [nv i, nv c]) ht)).snoc (e := (i, c)) tp upd_same
          rw [List.map_append] at q
          exact q
        cases e2 : minOf (costs es (i + 1)) with
        | none =>
          have z : front1 es i = some (i, c) := by simp [front1, e1, e2]
          refine ⟨_, rfl, _, rfl, ?_⟩
          refine ⟨_, rfl, .inl ⟨rfl, _, SqL.of pb3.list⟩, _, rfl, _, rfl, by show 2 ≤ sizeLine; decide, fun t ht => ?_⟩
          have tp : p ≠ t := ne_of_none pb3.list ht
          obtain ⟨f1, f2⟩ := fin z t ht
          exact ⟨p, _, _, rfl, rfl, (upd_ne tp).trans pb3.list, short, f1, _, _, _, _, rfl, f2⟩
        | some d =>
          refine ⟨_, rfl, _, rfl, ?_⟩
          refine ⟨_, rfl, _, rfl, _, _, rfl, rfl, _, rfl, ?_⟩
          refine ifd (fun lt => ?_) (fun lt => ?_)
          · have z : front1 es i = some (i, c) := by simp [front1, e1, e2]; omega
            refine ⟨_, rfl, .inl ⟨rfl, _, SqL.of pb3.list⟩, _, rfl, _, rfl, by show 2 ≤ sizeLine; decide, fun t ht => ?_⟩
            have tp : p ≠ t := ne_of_none pb3.list ht
            obtain ⟨f1, f2⟩ := fin z t ht
            exact ⟨p, _, _, rfl, rfl, (upd_ne tp).trans pb3.list, short, f1, _, _, _, _, rfl, f2⟩
          · have z : front1 es i = none := by simp [front1, e1, e2]; omega
            rw [z] at more
            exact ⟨smA, bs, _, _, _, rfl, by rw [more]; simpa using pb3⟩
    · rintro σ H1 ⟨sm, bs, v1, v2, v3, rfl, pb⟩
      exact ⟨_, rfl, k H1 p bs sm new pb⟩
end
end Tk
namespace Tk
open L2 LamX NdefX PySem PySem.Spec PyProof.Rows
abbrev sLW : Stmt := top 27
abbrev sCH : Stmt := top 28
abbrev sOW : Stmt := top 29
/-! states as keys -/
def skey (u : Pn06.State) : List Key := (u.s :: u.in_).map fun n : Nat => Sum.inl (Int.ofNat n)
theorem skey_kV (u : Pn06.State) : (skey u).map kV = stv u := by
  unfold skey stv nvs
  rw [List.map_map]
  rfl
theorem skey_inj {u v : Pn06.State} (h : skey u = skey v) : u = v := by
  have e : u.s :: u.in_ = v.s :: v.in_ := List.map_inj_right (fun a b h => Int.ofNat.inj (Sum.inl.inj h)) |>.mp h
  cases u; cases v
  simp only [List.cons.injEq] at e
  rw [e.1, e.2]
/-! dicts from states to ways -/
abbrev Dict := List (Pn06.State × Addr × (Nat × List Nat))
def encD (es : Dict) : List (List Key × V) := es.map fun e => (skey e.1, .ref e.2.1)
def getE (es : Dict) (u : Pn06.State) : Option (Addr × (Nat × List Nat)) := (es.find? fun e => decide (e.1 = u)).map (·.2)
def putE (es : Dict) (u : Pn06.State) (x : Addr × (Nat × List Nat)) : Dict := if (es.any fun e => decide (e.1 = u)) then es.map fun e => if e.1 = u then (e.1, x) else e else es ++ [(u, x)]
def dropE (es : Dict) (u : Pn06.State) : Dict := es.filter fun e => decide (e.1 ≠ u)
theorem key_dec (u v : Pn06.State) : decide (skey u = skey v) = decide (u = v) := decide_eq_decide.mpr ⟨skey_inj, fun h => by rw [h]⟩
theorem val_enc (es : Dict) (u : Pn06.State) : valV (encD es) (skey u) = (getE es u).map fun x => .ref x.1 := by
  unfold valV encD getE
  rw [List.find?_map, Option.map_map, Option.map_map]
  simp only [Function.comp_def, key_dec]
theorem put_enc (es : Dict) (u : Pn06.State) (x : Addr × (Nat × List Nat)) : putK (encD es) (skey u) (.ref x.1) = encD (putE es u x) := by
  unfold putK encD putE
  rw [List.any_map]
  simp only [Function.comp_def, key_dec]
  split
  · rw [List.map_map, List.map_map]
    refine List.map_congr_left fun e _ => ?_
    simp only [Function.comp_def]
    by_cases c : e.1 = u
    · rw [if_pos (by rw [c]), if_pos c]
    · rw [if_neg (fun z => c (skey_inj z)), if_neg c]
  · rw [List.map_append]; rfl
theorem drop_enc (es : Dict) (u : Pn06.State) : dropK (encD es) (skey u) = encD (dropE es u) := by
  unfold dropK encD dropE
  rw [List.filter_map]
  congr 1
  refine List.filter_congr fun e _ => ?_
  simp only [Function.comp_def]
  exact decide_eq_decide.mpr ⟨fun h z => h (by rw [z]), fun h z => h (skey_inj z)⟩
abbrev once (es : Dict) : Prop := (es.map (·.1)).Nodup
theorem once_eq {es : Dict} (o : once es) {e f} (he : e ∈ es) (hf : f ∈ es) (h : e.1 = f.1) : e = f := by
  induction es with
  | nil => cases he
  | cons a l ih =>
    have o' := List.nodup_cons.mp (show (a.1 :: l.map (·.1)).Nodup from o)
    rcases List.mem_cons.mp he with he | he <;> rcases List.mem_cons.mp hf with hf | hf
    · rw [he, hf]
    · exact (o'.1 (by rw [← he, h]; exact List.mem_map.mpr ⟨f, hf, rfl⟩)).elim
    · exact (o'.1 (by rw [← hf, ← h]; exact List.mem_map.mpr ⟨e, he, rfl⟩)).elim
    · exact ih o'.2 he hf
theorem get_some {es : Dict} {u : Pn06.State} {x} (h : getE es u = some x) : (u, x) ∈ es := by
  unfold getE at h
  obtain ⟨e, he, rfl⟩ := Option.map_eq_some_iff.mp h
  have q := List.find?_some he
  have m := List.mem_of_find?_eq_some he
  have z : e.1 = u := of_decide_eq_true q
  rw [← z]
  exact m
theorem get_none {es : Dict} {u : Pn06.State} (h : getE es u = none) : ∀ x, (u, x) ∉ es := fun x m => by
  unfold getE at h
  have q := List.find?_eq_none.mp (Option.map_eq_none_iff.mp h) _ m
  exact q (decide_eq_true rfl)
theorem mem_put {es : Dict} {u : Pn06.State} {x} (e) : e ∈ putE es u x ↔ e = (u, x) ∨ (e ∈ es ∧ e.1 ≠ u) := by
  unfold putE
  split
  · next c =>
    obtain ⟨a, ha, hu⟩ := List.any_eq_true.mp c
    have hu := of_decide_eq_true hu
    constructor
    · intro h
      obtain ⟨f, hf, rfl⟩ := List.mem_map.mp h
      by_cases z : f.1 = u
      · rw [if_pos z, z]; exact .inl rfl
      · rw [if_neg z]; exact .inr ⟨hf, z⟩
    · rintro (rfl | ⟨h, z⟩)
      · exact List.mem_map.mpr ⟨a, ha, by rw [if_pos hu, hu]⟩
      · exact List.mem_map.mpr ⟨e, h, by rw [if_neg z]⟩
  · next c =>
    rw [List.mem_append, List.mem_singleton]
    constructor
    · rintro (h | h)
      · exact .inr ⟨h, fun z => c (List.any_eq_true.mpr ⟨e, h, decide_eq_true z⟩)⟩
      · exact .inl h
    · rintro (h | ⟨h, _⟩)
      · exact .inr h
      · exact .inl h
theorem mem_drop {es : Dict} {u : Pn06.State} (e) : e ∈ dropE es u ↔ e ∈ es ∧ e.1 ≠ u := by
  unfold dropE
  rw [List.mem_filter, decide_eq_true_eq]
theorem once_drop {es : Dict} (o : once es) (u : Pn06.State) : once (dropE es u) := o.sublist (List.Sublist.map _ List.filter_sublist)
theorem once_put {es : Dict} (o : once es) (u : Pn06.State) (x) : once (putE es u x) := by
  unfold putE
  split
  · have e : (es.map fun e => if e.1 = u then (e.1, x) else e).map (·.1) = es.map (·.1) := by
      rw [List.map_map]
      refine List.map_congr_left fun e _ => ?_
      simp only [Function.comp_def]
      split <;> rfl
    show (List.map _ _).Nodup
    rw [e]
    exact o
  · next c =>
    show (List.map _ _).Nodup
    rw [List.map_append, List.nodup_append]
    refine ⟨o, by simp, fun a ha b hb z => ?_⟩
    obtain ⟨f, hf, rfl⟩ := List.mem_map.mp ha
    have hb : b = u := by simpa using hb
    exact c (List.any_eq_true.mpr ⟨f, hf, decide_eq_true (z.trans hb)⟩)
theorem put_new {es : Dict} {u : Pn06.State} {x} (h : ∀ y, (u, y) ∉ es) : putE es u x = es ++ [(u, x)] := by
  unfold putE
  rw [if_neg]
  intro c
  obtain ⟨a, ha, hu⟩ := List.any_eq_true.mp c
  have hu := of_decide_eq_true hu
  exact h a.2 (hu ▸ ha)
structure WaysAt (H : Hp) (d : Addr) (es : Dict) : Prop where
  dict : H d = some (.dT (encD es))
  ways : ∀ e ∈ es, WayAt H e.2.1 e.2.2
  once : once es
/-- its states and ways -/
def Has (es : Dict) : Ent → Prop := fun e => ∃ a, (e.1, a, e.2) ∈ es
theorem ext_tup {H H' : Hp} (x : ExtN H H') : ∀ b xs, H b = some (.tup xs) → H' b = some (.tup xs) := fun b xs h => x b _ h (fun ps z => nomatch z)
theorem WaysAt.ext {H H' : Hp} {d : Addr} {es : Dict} (x : WaysAt H d es) (s : ExtN H H') : WaysAt H' d es := ⟨s _ _ x.dict (fun ps z => nomatch z), fun e h => (x.ways e h).same (ext_tup s), x.once⟩
theorem Same.ext {H H' : Hp} (s : Same H H') : ExtN H H' := fun b o h _ => s b o h
theorem ext_put {H H' : Hp} {p : Addr} {o : HO} (s : ExtN H H') (n : H p = none) : ExtN H (upd H' p o) := fun b u e t => (upd_ne (ne_of_none e n)).trans (s b u e t)
theorem ext_new {H H' : Hp} {p : Addr} {o : HO} (s : ExtN H H') (n : H' p = none) : ExtN H (upd H' p o) := s.trans (Same.ext (Same.upd n))
end Tk
namespace Tk
open L2 LamX NdefX PySem PySem.Spec PyProof.Rows
section
variable {P : Program} {w : World} {K : PySem.W.Frag} {mg : Str → Option Value} {base : Heap} {C CA : Addr}
def spLW : Sp := fun vs H Q _ => ∃ (a : Addr) (p : Nat × List Nat) (n c : Nat), vs = [.ref a, nv n, nv c] ∧ WayAt H a p ∧ p.2.length ≤ 1000 ∧ ∀ H' b, Same H H' → H b = none → WayAt H' b (p.1 + c, p.2 ++ [n]) → Q (.ref b) H'
theorem scLW : FnScope ["way", "number", "cost"] ["way", "number", "cost"] (defScope sLW) := ⟨rfl, rfl, rfl, by decide +kernel, rfl, by decide +kernel, by decide +kernel⟩
theorem ok_LW {f : Addr} {fd : FuncData} (F : Fun K "longer_way" "longer_way" sLW f fd) : FnOk P w K mg base CX0 1 f fd ["way", "number", "cost"] spLW := by
  refine F.ok scLW (fun vs H Q E h => ?_) (fun cdv A outer s H vs Q E hr h => ?_)
  · obtain ⟨a, p, n, c, rfl, _⟩ := h
    rfl
  · obtain ⟨a, p, n, c, rfl, ⟨t, h1, h2⟩, few, k⟩ := h
    refine ⟨_, pss_one (ps_ret (pe_tup (pa_cons (pe_op op_add (pe_ix ix_tup (pv 0) pe_int (fun _ _ => rfl)) (pv 2)) (pa_cons (pe_op op_add (pe_ix ix_tup (pv 0) pe_int (fun _ _ => rfl)) pe_int)
      (pa_cons (pe_op op_catA (pe_ix ix_tup (pv 0) pe_int (fun _ _ => rfl)) (pe_tup (pa_cons (pv 1) pa_nil))) pa_nil))))), ?_⟩
    refine ⟨_, rfl, a, _, _, _, rfl, rfl, SqT.of h1, at_of (j := 0) (v := nv p.1) rfl rfl, _, rfl, _, _, rfl, rfl, ?_⟩
    refine ⟨_, rfl, a, _, _, _, rfl, rfl, SqT.of h1, at_of (j := 1) (v := nv p.2.length) rfl rfl, _, _, rfl, rfl, ?_⟩
    refine ⟨_, rfl, a, _, _, _, rfl, rfl, SqT.of h1, at_of (j := 2) (v := .ref t) rfl rfl, _, rfl, by show 1 ≤ sizeLine; decide, fun q hq => ?_⟩
    have sm := Same.upd (o := .tup [nv n]) hq
    have fin : ∀ (H1 : Hp) (r : Addr), Same H H1 → H1 r = some (.tup (nvs (p.2 ++ [n]))) → ∀ b, H1 b = none → Q (.ref b) (upd H1 b (.tup [V.int ((p.1 : Int) + (c : Int)), V.int ((p.2.length : Int) + 1), .ref r])) := fun H1 r sm1 hr b hb => by
      refine k _ b (sm1.trans (Same.upd hb)) (sm1.free hb) ⟨r, ?_, (upd_ne (ne_of_none hr hb)).trans hr⟩
      rw [upd_same]
      simp [nv]
    refine ⟨t, q, nvs p.2, [nv n], rfl, rfl, SqT.of (sm _ _ h2), SqT.of upd_same, ?_, fun z => ?_, fun _ z => (by cases z), fun _ _ r hr' => ?_⟩
    · rw [List.length_map]
      exact Nat.le_trans (by show _ + 1 ≤ 2000; omega) (by decide)
    · refine ⟨by show 3 ≤ sizeLine; decide, fin _ q sm ?_⟩
      have e : p.2 = [] := by simpa [nvs] using z
      rw [upd_same, e]; rfl
    · refine ⟨by show 3 ≤ sizeLine; decide, fin _ r (sm.trans (Same.upd hr')) ?_⟩
      rw [upd_same]
      simp [nvs]
/-! ### cheapest_state -/
def lamQ : Str := "cheapest_state" ++ ".<locals>." ++ "<lambda>"
abbrev Tab1 (tab : Addr) : List (Addr × Str) := [(tab, lamQ)]
def costAt (es : Dict) (i : Nat) : Nat := (es[i]?.map fun e => e.2.2.1).getD 0
theorem costAt_of {es : Dict} {i : Nat} {e} (h : es[i]? = some e) : costAt es i = e.2.2.1 := by unfold costAt; rw [h]; rfl
def spCH (tab : Addr) : Sp := fun vs H Q _ => ∃ (d : Addr) (es : Dict), vs = [.ref d] ∧ WaysAt H d es ∧ es ≠ [] ∧ Tabs (Tab1 tab) H ∧
  ∀ H' q e, ExtN H H' → Tabs (Tab1 tab) H' → e ∈ es → H' q = some (.tup (stv e.1)) → (∀ x ∈ es, e.2.2.1 ≤ x.2.2.1) → Q (.ref q) H'
theorem scCH : FnScope ["waiting"] ["waiting"] (defScope sCH) := ⟨rfl, rfl, rfl, by decide +kernel, rfl, by decide +kernel, by decide +kernel⟩
theorem ok_CH {f c tab : Addr} {kV doc pm ct oc : Value} {an od : Option Addr} {osl : Array (Option Value)} (lk : K.lookup f = some ⟨oc, od, .func (PySem.W.fnOf "cheapest_state" "cheapest_state" (defArgs sCH) (defBody sCH) (defScope sCH) .none kV doc pm an (.ref c) ct), osl⟩)
    (hcd : PySem.W.codeIn K (.ref c) "cheapest_state" = true) (T : TxA mg) (TB : TabB base mg c tab) : FnOk P w K mg base CX0 3 f (PySem.W.fnOf "cheapest_state" "cheapest_state" (defArgs sCH) (defBody sCH) (defScope sCH) .none kV doc pm an (.ref c) ct) ["waiting"] (spCH tab) := by
  refine fn_of lk hcd scCH (fun vs H Q E h => ?_) (fun A outer s H vs Q E hr h => ?_)
  · obtain ⟨d, es, rfl, _⟩ := h
    rfl
  · obtain ⟨d, es, rfl, wa, some_, tabs, k⟩ := h
    refine ⟨_, pss_one (ps_ret (pe_minKey (T := Tab1 tab) (N := ["state", "waiting"]) (fr := ["waiting"]) (x := "state") (js := [0]) (k := 0) (c := c) (tab := tab) (tb := tOp (rIxT K) (tDGet (tVar 1) (tVar 0)) (tC (.int 0))) rfl hr (by rfl) T.min TB rfl (List.mem_singleton.mpr rfl) (fun t ht _ => by rw [List.mem_singleton.mp ht]; rfl)
      (nscope_by (by decide +kernel)) (show ∀ y : Str × NameKind, y ∈ _ → y.2 = NameKind.free → (defScope sCH).names.lookup y.1 = some .cell ∨ (defScope sCH).names.lookup y.1 = some .free from by decide +kernel) (by decide +kernel) rfl rfl (fun _ _ _ _ _ _ => rfl) (pa_cons (pv 0) pa_nil) (fun A outer s H f c' hr' => pe_ix ix_tup (pe_dget (hu_of hr') (pv 1) (pv 0) (fun _ _ => rfl)) pe_int (fun _ _ => rfl)))), ?_⟩
    have len : (encD es).length = es.length := by simp [encD]
    have at_ : ∀ {i : Nat} {k : List Key} {v : V}, (encD es)[i]? = some (k, v) → ∃ e, es[i]? = some e ∧ k = skey e.1 ∧ v = .ref e.2.1 := fun {i k v} h => by
      obtain ⟨e, he, z⟩ := map_at h
      cases z
      exact ⟨e, he, rfl, rfl⟩
    refine ⟨_, rfl, d, encD es, costAt es, rfl, wa.dict, ?_, tabs, fun H2 ext tabs2 => ⟨fun o i key v q hi hq => ?_, fun i key v q hi hq least => ?_⟩⟩
    · rw [len]
      exact List.length_pos_iff.mpr some_
    · obtain ⟨e, he, rfl, rfl⟩ := at_ hi
      have wa2 := wa.ext ext
      have nd : ∀ b xs, H2 b = some (.tup xs) → upd H2 d (.frz o (.dT (encD es))) b = some (.tup xs) := fun b xs z => (upd_ne (ne_of z wa2.dict (by simp))).trans z
      obtain ⟨t, h1, h2⟩ := wa2.ways e (List.mem_of_getElem? he)
      refine ⟨.ref d, rfl, .ref q, rfl, d, .ref e.2.1, rfl, ?_, e.2.1, _, _, _, rfl, rfl, SqT.of (nd _ _ h1), at_of (j := 0) (v := nv e.2.2.1) rfl rfl, ?_, rfl⟩
      · refine .inr ⟨encD es, skey e.1, q, .inr ⟨o, upd_same⟩, rfl, nd _ _ hq, ?_⟩
        rw [val_enc]
        have m : (e.1, e.2) ∈ es := List.mem_of_getElem? he
        cases g : getE es e.1 with
        | none => exact (get_none g _ m).elim
        | some x =>
          have z := once_eq wa.once (get_some g) m rfl
          rw [Prod.mk.injEq] at z
          rw [z.2]
          rfl
      · rw [costAt_of he]
    · obtain ⟨e, he, rfl, rfl⟩ := at_ hi
      refine k H2 q e ext tabs2 (List.mem_of_getElem? he) (by rw [← skey_kV]; exact hq) fun x hx => ?_
      obtain ⟨j, hj, ej⟩ := List.mem_iff_getElem.mp hx
      have z := least j (by rw [len]; exact hj)
      rw [costAt_of he, costAt_of (List.getElem?_eq_getElem hj), ej] at z
      exact z
/-! ### offer_way -/
def offered (es : Dict) (v : Pn06.State) (x : Addr × (Nat × List Nat)) : Dict := match getE es v with
  | none => putE es v x
  | some y => if Pn06.better x.2 y.2 = true then putE es v x else es
def spOW : Sp := fun vs H Q _ => ∃ (d q b : Addr) (es : Dict) (v : Pn06.State) (p : Nat × List Nat), vs = [.ref d, .ref q, .ref b] ∧ WaysAt H d es ∧ H q = some (.tup (stv v)) ∧ WayAt H b p ∧ es.length ≤ 1000 ∧
  ∀ H', Kept d H H' → H' d = some (.dT (encD (offered es v (b, p)))) → Q .non H'
theorem scOW : FnScope ["waiting", "state", "way"] ["waiting", "state", "way"] (defScope sOW) := ⟨rfl, rfl, rfl, by decide +kernel, rfl, by decide +kernel, by decide +kernel⟩
theorem ok_OW {f : Addr} {fd : FuncData} (F : Fun K "offer_way" "offer_way" sOW f fd) : FnOk P w K mg base CX0 1 f fd ["waiting", "state", "way"] spOW := by
  refine F.ok scOW (fun vs H Q E h => ?_) (fun cdv A outer s H vs Q E hr h => ?_)
  · obtain ⟨d, q, b, es, v, p, rfl, _⟩ := h
    rfl
  · obtain ⟨d, q, b, es, v, p, rfl, wa, hq, wb, few, k⟩ := h
    have units : (A.deeper (envOfC "offer_way" (defScope sOW) s.heap.objs.size f cdv)).units + 2 < cLine := Nat.lt_of_le_of_lt (Nat.add_le_add_left (by decide : 2 ≤ 64) _) hr.units
    refine ⟨_, pss_one (ps_if (PW.pt (pw_or (pt_cmp (pc_dnotin (hu_of hr) (pv 1) (pv 0))) (pw_or1 (pt_cmpR (op_ltWay units) (pv 2) (pe_dget (hu_of hr) (pv 0) (pv 1) (fun _ _ => rfl)) (nomark _)))))
      (pss_one (ps_dput (hu_of hr) (pv 0) (pv 1) (pv 2) rfl)) pss_nil), ?_⟩
    have key : H q = some (.tup ((skey v).map kV)) := by rw [skey_kV]; exact hq
    have size : (encD es).length < sizeLine := by
      simp only [encD, List.length_map]
      exact Nat.lt_of_le_of_lt few (by decide)
    have got : DGet H d (.ref q) ((getE es v).map fun x => .ref x.1) := by rw [← val_enc]; exact DGet.t wa.dict key
    have put : DPut H d (.ref q) (.ref b) (upd H d (.dT (encD (putE es v (b, p))))) := by
      rw [← put_enc]
      exact DPut.t wa.dict key size
    refine ⟨_, rfl, _, rfl, d, _, rfl, got, _, rfl, ?_⟩
    unfold offered at k
    cases g : getE es v with
    | none =>
      rw [g] at k
      exact ⟨_, rfl, _, rfl, _, rfl, d, _, rfl, put, k _ kept_upd upd_same⟩
    | some x =>
      rw [g] at k got
      refine ⟨_, rfl, _, rfl, _, rfl, d, _, rfl, got, b, x.1, p, x.2, rfl, rfl, wb, wa.ways _ (get_some g), _, rfl, ?_⟩
      refine ifb (fun c => ?_) (fun c => ?_)
      · simp only [c, if_true] at k
        exact ⟨_, rfl, _, rfl, _, rfl, d, _, rfl, put, k _ kept_upd upd_same⟩
      · simp only [c, Bool.false_eq_true, if_false] at k
        exact k H (Kept.refl d H) wa.dict
end
end Tk
namespace Tk
open L2 LamX NdefX PySem PySem.Spec PyProof.Rows
abbrev sBW : Stmt := top 30
/-! ### how many states there are -/
theorem valid_count {t : Pn06.Task} {L : List Pn06.State} (nd : L.Nodup) (val : ∀ v ∈ L, Valid t v) : L.length ≤ t.many := by
  have inj : ∀ M : List Pn06.State, (∀ v ∈ M, Valid t v) → M.Nodup → (M.map t.code).Nodup := fun M => by
    induction M with
    | nil => exact fun _ _ => List.nodup_nil
    | cons a M ih =>
      intro val nd
      rw [List.nodup_cons] at nd
      rw [List.map_cons, List.nodup_cons]
      refine ⟨fun z => ?_, ih (fun v hv => val v (List.mem_cons_of_mem _ hv)) nd.2⟩
      obtain ⟨b, hb, e⟩ := List.mem_map.mp z
      have q := code_inj (val b (List.mem_cons_of_mem _ hb)) (val a (List.mem_cons_self ..)) e
      exact nd.1 (q ▸ hb)
  have sub : ∀ n ∈ L.map t.code, n ∈ List.range t.many := fun n hn => by
    obtain ⟨v, hv, rfl⟩ := List.mem_map.mp hn
    exact List.mem_range.mpr (code_lt (val v hv))
  have le := (inj L val nd).length_le_of_subset sub
  simpa using le
theorem many_le {h : Pn06.House} (H : HouseOk h) : h.task.many ≤ 512 := by
  have f : 2 ^ h.task.facts ≤ 8 := by
    have := H.f2
    have : 2 ^ h.task.facts ≤ 2 ^ 3 := Nat.pow_le_pow_right (by omega) this
    simpa using this
  unfold Pn06.Task.many
  have r1 := H.r1
  have r2 := H.r2
  match e : h.task.rooms, r1, r2 with
  | [], _, _ => simp; omega
  | [a], _, r2 =>
    have := (r2 a (by simp)).2
    show 2 ^ h.task.facts * (a + 1) ≤ 512
    have := Nat.mul_le_mul f (show a + 1 ≤ 8 by omega)
    omega
  | [a, b], _, r2 =>
    have h1 := (r2 a (by simp)).2
    have h2 := (r2 b (by simp)).2
    show 2 ^ h.task.facts * (a + 1) * (b + 1) ≤ 512
    have := Nat.mul_le_mul (Nat.mul_le_mul f (show a + 1 ≤ 8 by omega)) (show b + 1 ≤ 8 by omega)
    omega
  | _ :: _ :: _ :: _, r1, _ => simp at r1
/-! ### the search's lists -/
theorem has_mem {es : Dict} {e} (h : e ∈ es) : Has es (e.1, e.2.2) := ⟨e.2.1, h⟩
theorem has_put {es : Dict} {v : Pn06.State} {b : Addr} {p : Nat × List Nat} (x : Ent) : Has (putE es v (b, p)) x ↔ x = (v, p) ∨ (Has es x ∧ x.1 ≠ v) := by
  constructor
  · rintro ⟨a, h⟩
    rcases (mem_put _).mp h with h | ⟨h, n⟩
    · rw [Prod.mk.injEq, Prod.mk.injEq] at h
      exact .inl (by rw [← h.1, ← h.2.2])
    · exact .inr ⟨⟨a, h⟩, n⟩
  · rintro (h | ⟨⟨a, h⟩, n⟩)
    · exact ⟨b, (mem_put _).mpr (.inl (by rw [h]))⟩
    · exact ⟨a, (mem_put _).mpr (.inr ⟨h, n⟩)⟩
theorem has_drop {es : Dict} {v : Pn06.State} (x : Ent) : Has (dropE es v) x ↔ Has es x ∧ x.1 ≠ v := by
  constructor
  · rintro ⟨a, h⟩
    obtain ⟨h, n⟩ := (mem_drop _).mp h
    exact ⟨⟨a, h⟩, n⟩
  · rintro ⟨⟨a, h⟩, n⟩
    exact ⟨a, (mem_drop _).mpr ⟨h, n⟩⟩
theorem Search.iff {t : Pn06.Task} {u0 : Pn06.State} {W W' S S' : Ent → Prop} {td td' : Ent → Nat → Prop} (D : Search t u0 W S td) (w : ∀ x, W x ↔ W' x) (s : ∀ x, S x ↔ S' x) (d : ∀ x k, td x k → td' x k) : Search t u0 W' S' td' := by
  have ew : W = W' := funext fun x => propext (w x)
  have es : S = S' := funext fun x => propext (s x)
  subst ew es
  exact { D with near := fun e h k v hv => (D.near e h k v hv).imp_left (d e k) }
theorem dict_few {t : Pn06.Task} (wf : Wf t) {u0 : Pn06.State} (val : Valid t u0) {es : Dict} (o : once es) (real : ∀ e, Has es e → walk t u0 e.2.2 = some e.1) : es.length ≤ t.many := by
  have q := valid_count (t := t) o fun v hv => by
    obtain ⟨e, he, rfl⟩ := List.mem_map.mp hv
    exact walk_valid wf val (real _ (has_mem he))
  simpa using q
theorem WaysAt.kept {H H' : Hp} {d d' : Addr} {es es' : Dict} (x : WaysAt H d es) (k : Kept d' H H') (n : d ≠ d') (h : H d' = some (.dT (encD es'))) : WaysAt H' d es := by
  refine ⟨k _ _ x.dict n, fun e he => (x.ways e he).same fun b xs hb => k _ _ hb (ne_of hb h (fun z => nomatch z)), x.once⟩
theorem Kept.tups {H H' : Hp} {d : Addr} {es : Dict} (k : Kept d H H') (h : H d = some (.dT (encD es))) : ∀ b xs, H b = some (.tup xs) → H' b = some (.tup xs) := fun b xs hb => k _ _ hb (ne_of hb h (fun z => nomatch z))
theorem Tabs.kept {tab : Addr} {H H' : Hp} {d : Addr} {o : HO} (t : Tabs (Tab1 tab) H) (k : Kept d H H') (h : H d = some o) (n1 : ∀ ps, o ≠ .tbl ps) (n2 : ∀ c q, o ≠ CodeO c q) : Tabs (Tab1 tab) H' := by
  intro p hp
  obtain ⟨ps, h1, h2, h3⟩ := t p hp
  refine ⟨ps, k _ _ h1 (ne_of h1 h (Ne.symm (n1 ps))), h2, fun pos cv hc => ?_⟩
  obtain ⟨c, e1, e2⟩ := h3 pos cv hc
  exact ⟨c, e1, k _ _ e2 (ne_of e2 h (Ne.symm (n2 _ _)))⟩
theorem dT_code {kvs : List (List Key × V)} : ∀ c q, HO.dT kvs ≠ CodeO c q := fun c q z => by unfold CodeO at z; cases z
theorem Tabs.same {tab : Addr} {H H' : Hp} (t : Tabs (Tab1 tab) H) (s : Same H H') : Tabs (Tab1 tab) H' := LamX.Tabs.ext t s
/-- acts in the heap -/
def ActsAt (CA : Addr) (H : Hp) (xs : List Addr) (acts : List Pn06.Act) : Prop := xs.length = acts.length ∧ ∀ (i : Nat) y a, xs[i]? = some y → acts[i]? = some a → ∃ sl bs, ActAt CA H y sl bs a
theorem ActAt.ext {CA : Addr} {H H' : Hp} {x sl : Addr} {bs : List Addr} {a : Pn06.Act} (h : ActAt CA H x sl bs a) (s : ExtN H H') : ActAt CA H' x sl bs a := by
  obtain ⟨⟨dx, h1⟩, h2, h3⟩ := h
  exact ⟨⟨dx, s _ _ h1 (fun ps z => nomatch z)⟩, s _ _ h2 (fun ps z => nomatch z), h3.len, fun i p r a b => s _ _ (h3.row i p r a b) (fun ps z => nomatch z)⟩
theorem ActsAt.ext {CA : Addr} {H H' : Hp} {xs : List Addr} {acts : List Pn06.Act} (h : ActsAt CA H xs acts) (s : ExtN H H') : ActsAt CA H' xs acts := ⟨h.1, fun i y a hy ha => by
  obtain ⟨sl, bs, q⟩ := h.2 i y a hy ha
  exact ⟨sl, bs, q.ext s⟩⟩
/-- what the search asks of a task -/
structure TaskOk (t : Pn06.Task) (u0 : Pn06.State) : Prop where
  wf : Wf t
  val : Valid t u0
  many : t.many ≤ 512
  rooms : t.rooms.length ≤ 2
  acts : t.acts.length ≤ 8
  parts : ∀ a ∈ t.acts, a.parts.length = t.rooms.length
section
variable {P : Program} {w : World} {K : PySem.W.Frag} {mg : Str → Option Value} {base : Heap} {C CA : Addr}
def spBW (CA tab : Addr) : Sp := fun vs H Q _ => ∃ (st ac rl : Addr) (xs : List Addr) (t : Pn06.Task) (u0 : Pn06.State), vs = [.ref st, .ref ac, .ref rl] ∧ H st = some (.tup (stv u0)) ∧ H ac = some (.lst (xs.map V.ref)) ∧ ActsAt CA H xs t.acts ∧ H rl = some (.lst (nvs t.rooms)) ∧ TaskOk t u0 ∧ Tabs (Tab1 tab) H ∧
  ∀ H' d es, ExtN H H' → Tabs (Tab1 tab) H' → H d = none → WaysAt H' d es → Settled t u0 (Has es) → es.length ≤ 512 → (∀ e ∈ es, e.2.2.2.length ≤ 512) → Q (.ref d) H'
theorem scBW : FnScope ["start", "acts", "rooms", "waiting", "settled", "state", "way", "number", "act", "behind"] ["start", "acts", "rooms"] (defScope sBW) := ⟨rfl, rfl, rfl, by decide +kernel, rfl, by decide +kernel, by decide +kernel⟩
theorem ok_BW {f fS fC fO fL tab : Addr} {fd fdS fdC fdO fdL : FuncData} (F : Fun K "best_ways" "best_ways" sBW f fd) (T : TxH K mg C CA) (TA : TxA mg)
    (GS : FnOk P w K mg base CX0 2 fS fdS ["act", "state", "rooms"] (spSB CA)) (kS : PySem.W.keepIn K (.ref fS) = true) (bS : Binds K fdS ["act", "state", "rooms"] []) (gS : mg "state_behind" = some (.ref fS))
    (GC : FnOk P w K mg base CX0 3 fC fdC ["waiting"] (spCH tab)) (kC : PySem.W.keepIn K (.ref fC) = true) (bC : Binds K fdC ["waiting"] []) (gC : mg "cheapest_state" = some (.ref fC))
    (GO : FnOk P w K mg base CX0 1 fO fdO ["waiting", "state", "way"] spOW) (kO : PySem.W.keepIn K (.ref fO) = true) (bO : Binds K fdO ["waiting", "state", "way"] []) (gO : mg "offer_way" = some (.ref fO))
    (GL : FnOk P w K mg base CX0 1 fL fdL ["way", "number", "cost"] spLW) (kL : PySem.W.keepIn K (.ref fL) = true) (bL : Binds K fdL ["way", "number", "cost"] []) (gL : mg "longer_way" = some (.ref fL)) :
    FnOk P w K mg base CX0 4 f fd ["start", "acts", "rooms"] (spBW CA tab) := by
  refine F.ok scBW (fun vs H Q E h => ?_) (fun cdv A outer s H vs Q E hr h => ?_)
  · obtain ⟨st, ac, rl, xs, t, u0, rfl, _⟩ := h
    rfl
  · obtain ⟨st, ac, rl, xs, t, u0, rfl, hst, hac, acts, hrl, ok, tabs, k⟩ := h
    have hu := hu_of hr
    refine ⟨_, pss_cons (ps_set (i := 3) scBW.nd rfl (Or.inl rfl) (pe_one1 hr.units0 (pv 0) (pe_tup (pa_cons pe_int (pa_cons pe_int (pa_cons (pe_tup pa_nil) pa_nil))))))
      (pss_cons (ps_set (i := 4) scBW.nd rfl (Or.inl rfl) pe_dnewT)
      (pss_cons (ps_while PassesOwn.never (pt_cmp (pc_gt (pe_callB call_len_dT (by rfl) TA.len PySem.boot_len (pa_cons (pv 3) pa_nil)) pe_int))
        (pss_cons (ps_set (i := 5) scBW.nd rfl (Or.inl rfl) (pe_call GC hr rfl gC kC bC .nil pass0 (pa_cons (pv 3) pa_nil)))
        (pss_cons (ps_set (i := 6) scBW.nd rfl (Or.inl rfl) (pe_bm PySem.F.plainAttrs_dict PySem.F.slot_dict_pop PySem.F.type_dict_pop (mt_pop hu) (pv 3) (pa_cons (pv 5) pa_nil)))
        (pss_cons (ps_dput hu (pv 4) (pv 5) (pv 6) rfl)
        (pss_one (ps_for PassesOwn.never rfl (pi_enum (by rfl) TA.enumerate (pa_cons (pv 1) pa_nil)) (pg_tup rfl (pgs_cons (pg_name (i := 7) scBW.nd rfl (Or.inl rfl)) (pgs_cons (pg_name (i := 8) scBW.nd rfl (Or.inl rfl)) pgs_nil)))
          (pss_cons (ps_set (i := 9) scBW.nd rfl (Or.inl rfl) (pe_call GS (hr.mono (by decide)) rfl gS kS bS .nil pass0 (pa_cons (pv 8) (pa_cons (pv 5) (pa_cons (pv 2) pa_nil)))))
          (pss_one (ps_if (PW.pt (pw_and (pt_cmp (pc_notN (pv 9))) (pw_and1 (pt_cmp (pc_dnotin hu (pv 9) (pv 4))))))
            (pss_one (ps_expr (pe_call GO (hr.mono (by decide)) rfl gO kO bO .nil pass0 (pa_cons (pv 3) (pa_cons (pv 9) (pa_cons (pe_call GL (hr.mono (by decide)) rfl gL kL bL .nil pass0 (pa_cons (pv 6) (pa_cons (pv 7) (pa_cons (pe_fld (pv 8) rfl) pa_nil)))) pa_nil)))))) pss_nil)))))))))
      (pss_one (ps_ret (pv 4))))), ?_⟩
    intro d1 n1
    have key0 : ∀ {H' : Hp}, Same H H' → H' st = some (.tup ((skey u0).map kV)) := fun s => by rw [skey_kV]; exact s _ _ hst
    have sA := Same.upd (o := .dT []) n1
    refine ⟨_, rfl, by show 0 ≤ sizeLine; decide, fun t0 h0 => ⟨by show 3 ≤ sizeLine; decide, fun t1 h1 => ?_⟩⟩
    have sB := sA.trans (Same.upd (o := .tup []) h0)
    have sC := sB.trans (Same.upd (o := .tup [V.int 0, V.int 0, .ref t0]) h1)
    have d0 : d1 ≠ t0 := ne_of_none upd_same h0
    have d01 : d1 ≠ t1 := ne_of_none ((upd_ne d0).trans upd_same) h1
    have t01 : t0 ≠ t1 := ne_of_none upd_same h1
    refine ⟨st, skey u0, rfl, key0 sC, (upd_ne d01).trans ((upd_ne d0).trans upd_same), ?_⟩
    have sD := same_put (o := .dT [(skey u0, .ref t1)]) sC n1
    -- settled = {}
    intro d2 n2
    have d12 : d1 ≠ d2 := ne_of_none upd_same n2
    have n2' : H d2 = none := sD.free n2
    have sE := sD.trans (Same.upd (o := .dT []) n2)
    have w1 : WaysAt (upd (upd (upd (upd (upd H d1 (.dT [])) t0 (.tup [])) t1 (.tup [V.int 0, V.int 0, .ref t0])) d1 (.dT [(skey u0, .ref t1)])) d2 (.dT [])) d1 [(u0, t1, (0, []))] := by
      have e1 : t1 ≠ d2 := ne_of_none ((upd_ne (Ne.symm d01)).trans upd_same) n2
      have e0 : t0 ≠ d2 := ne_of_none ((upd_ne (Ne.symm d0)).trans ((upd_ne t01).trans upd_same)) n2
      refine ⟨(upd_ne d12).trans upd_same, fun e he => ?_, (by show List.Nodup [u0]; simp)⟩
      obtain rfl := List.mem_singleton.mp he
      exact ⟨t0, (upd_ne e1).trans ((upd_ne (Ne.symm d01)).trans upd_same), (upd_ne e0).trans ((upd_ne (Ne.symm d0)).trans ((upd_ne t01).trans upd_same))⟩
    refine while_by (fun σ H' => ∃ v5 v6 v7 v8 v9 W S, σ = [some (.ref st), some (.ref ac), some (.ref rl), some (.ref d1), some (.ref d2), v5, v6, v7, v8, v9] ∧ ExtN H H' ∧ Tabs (Tab1 tab) H' ∧ WaysAt H' d1 W ∧ WaysAt H' d2 S ∧ Search t u0 (Has W) (Has S) (fun _ _ => False) ∧
        (∀ e ∈ S, e.2.2.2.length < S.length) ∧ (∀ e ∈ W, e.2.2.2.length ≤ S.length))
      (fun _ H' => match H' d2 with | some (.dT kvs) => 1000 - kvs.length | _ => 0) ?_ ?_ ?_
    · refine ⟨_, _, _, _, _, [(u0, t1, (0, []))], [], rfl, Same.ext sE, Tabs.same tabs sE, w1, ⟨upd_same, fun e he => (by cases he), List.nodup_nil⟩, Search.begin (fun e ⟨a, h⟩ => (by cases h)) (fun e => ⟨fun ⟨a, h⟩ => ?_, fun h => ⟨t1, ?_⟩⟩), fun e he => (by cases he), fun e he => ?_⟩
      · have h := List.mem_singleton.mp h
        rw [Prod.mk.injEq, Prod.mk.injEq] at h
        exact Prod.ext h.1 h.2.2
      · rw [h]; exact List.mem_singleton.mpr rfl
      · rw [List.mem_singleton.mp he]; exact Nat.le_refl _
    · rintro σ H1 ⟨v5, v6, v7, v8, v9, W, S, rfl, ext1, tb1, wW, wS, D, lS, lW⟩
      have fewS : S.length ≤ 512 := Nat.le_trans (dict_few ok.wf ok.val wS.once fun e he => (D.real e (.inr he)).2) ok.many
      refine ⟨_, rfl, d1, _, rfl, wW.dict, _, _, rfl, rfl, _, rfl, ?_⟩
      have lenW : (encD W).length = W.length := by simp [encD]
      rw [lenW]
      refine ifd (fun c => ?_) (fun c => ?_)
      · have someW : W ≠ [] := fun z => by rw [z] at c; simp at c
        -- state = cheapest_state(waiting)
        refine ⟨_, rfl, d1, W, rfl, wW, someW, tb1, fun H2 q e ext2 tb2 he hq least => ?_⟩
        have wW2 := wW.ext ext2
        have wS2 := wS.ext ext2
        have extA : ExtN H H2 := ext1.trans ext2
        have key : H2 q = some (.tup ((skey e.1).map kV)) := by rw [skey_kV]; exact hq
        have got : valV (encD W) (skey e.1) = some (.ref e.2.1) := by
          rw [val_enc]
          cases g : getE W e.1 with
          | none => exact (get_none g e.2 he).elim
          | some x =>
            have z := once_eq wW.once (get_some g) he rfl
            rw [← z]; rfl
        -- way = waiting.pop(state)
        refine ⟨_, rfl, .inr (.inr (.inl ⟨rfl, .inr ⟨_, wW2.dict⟩⟩)), _, rfl, d1, q, encD W, skey e.1, .ref e.2.1, rfl, rfl, wW2.dict, key, got, ?_⟩
        rw [drop_enc]
        have k3 : Kept d1 H2 (upd H2 d1 (.dT (encD (dropE W e.1)))) := kept_upd
        have hq3 := Kept.tups k3 wW2.dict _ _ hq
        have wS3 := wS2.kept k3 (Ne.symm d12) wW2.dict
        have tb3 := Tabs.kept tb2 k3 wW2.dict (fun ps z => nomatch z) dT_code
        have ext3 : ExtN H (upd H2 d1 (.dT (encD (dropE W e.1)))) := ext_put extA n1
        have wW3 : WaysAt (upd H2 d1 (.dT (encD (dropE W e.1)))) d1 (dropE W e.1) := ⟨upd_same, fun x hx => (wW2.ways x ((mem_drop x).mp hx).1).same (Kept.tups k3 wW2.dict), once_drop wW.once _⟩
        have way3 := (wW2.ways e he).same (Kept.tups k3 wW2.dict)
        generalize upd H2 d1 (.dT (encD (dropE W e.1))) = H3 at k3 hq3 wS3 tb3 ext3 wW3 way3
        have notS : ∀ y, (e.1, y) ∉ S := fun y hy => D.apart e.1 e.2.2 y.2 (has_mem he) ⟨y.1, hy⟩
        -- settled[state] = way
        have fewS' : (encD S).length < sizeLine := by
          simp only [encD, List.length_map]
          exact Nat.lt_of_le_of_lt fewS (by decide)
        have put : DPut H3 d2 (.ref q) (.ref e.2.1) (upd H3 d2 (.dT (encD (putE S e.1 e.2)))) := by
          rw [← put_enc]
          exact DPut.t wS3.dict (by rw [skey_kV]; exact hq3) fewS'
        refine ⟨_, rfl, _, rfl, _, rfl, d2, _, rfl, put, ?_⟩
        rw [put_new notS]
        have k4 : Kept d2 H3 (upd H3 d2 (.dT (encD (S ++ [(e.1, e.2)])))) := kept_upd
        have hq4 := Kept.tups k4 wS3.dict _ _ hq3
        have wW4 := wW3.kept k4 d12 wS3.dict
        have tb4 := Tabs.kept tb3 k4 wS3.dict (fun ps z => nomatch z) dT_code
        have ext4 : ExtN H (upd H3 d2 (.dT (encD (S ++ [(e.1, e.2)])))) := ext_put ext3 n2'
        have way4 := way3.same (Kept.tups k4 wS3.dict)
        have wS4 : WaysAt (upd H3 d2 (.dT (encD (S ++ [(e.1, e.2)])))) d2 (S ++ [(e.1, e.2)]) := by
          refine ⟨upd_same, fun x hx => ?_, ?_⟩
          · rcases List.mem_append.mp hx with hx | hx
            · exact (wS3.ways x hx).same (Kept.tups k4 wS3.dict)
            · rw [List.mem_singleton.mp hx]; exact way4
          · have o := once_put wS.once e.1 e.2
            rw [put_new notS] at o
            exact o
        have grown : (S ++ [(e.1, e.2)]).length = S.length + 1 := by simp
        have D4 : Search t u0 (Has (dropE W e.1)) (Has (S ++ [(e.1, e.2)])) (fun x k => x = (e.1, e.2.2) ∧ 0 ≤ k) := by
          refine (D.settle ok.wf (has_mem he) fun x ⟨a, hx⟩ => least _ hx).iff (fun x => (has_drop x).symm) (fun x => ?_) fun x k h => ⟨h, Nat.zero_le _⟩
          constructor
          · rintro (h | ⟨a, h⟩)
            · rw [h]; exact ⟨e.2.1, List.mem_append.mpr (.inr (List.mem_singleton.mpr rfl))⟩
            · exact ⟨a, List.mem_append.mpr (.inl h)⟩
          · rintro ⟨a, h⟩
            rcases List.mem_append.mp h with h | h
            · exact .inr ⟨a, h⟩
            · have h := List.mem_singleton.mp h
              rw [Prod.mk.injEq] at h
              have h2 : x.2 = e.2.2 := congrArg (fun y : Addr × (Nat × List Nat) => y.2) h.2
              exact .inl (by rw [← h.1, ← h2])
        have lS4 : ∀ x ∈ S ++ [(e.1, e.2)], x.2.2.2.length < (S ++ [(e.1, e.2)]).length := fun x hx => by
          rw [grown]
          rcases List.mem_append.mp hx with hx | hx
          · have := lS x hx; omega
          · rw [List.mem_singleton.mp hx]; have := lW e he; show e.2.2.2.length < _; omega
        have lW4 : ∀ x ∈ dropE W e.1, x.2.2.2.length ≤ (S ++ [(e.1, e.2)]).length := fun x hx => by
          rw [grown]
          have := lW x ((mem_drop x).mp hx).1
          omega
        generalize upd H3 d2 (.dT (encD (S ++ [(e.1, e.2)]))) = H4 at k4 hq4 wW4 tb4 ext4 way4 wS4
        -- the acts
        have lst : ∀ {H' : Hp}, ExtN H H' → SqL K H' ac (xs.map V.ref) := fun x => SqL.of (x _ _ hac (fun ps z => nomatch z))
        refine ⟨_, rfl, ac, _, rfl, lst ext4, ?_⟩
        refine for_it (walk_enum (K := K) (a := ac) (xs := xs.map V.ref)) (fun i σ H' => ∃ v7 v8 v9 W', σ = [some (.ref st), some (.ref ac), some (.ref rl), some (.ref d1), some (.ref d2), some (.ref q), some (.ref e.2.1), v7, v8, v9] ∧ ExtN H H' ∧ Tabs (Tab1 tab) H' ∧ WaysAt H' d1 W' ∧ WaysAt H' d2 (S ++ [(e.1, e.2)]) ∧ H' q = some (.tup (stv e.1)) ∧ WayAt H' e.2.1 e.2.2 ∧
            Search t u0 (Has W') (Has (S ++ [(e.1, e.2)])) (fun x k => x = (e.1, e.2.2) ∧ i ≤ k) ∧ ∀ x ∈ W', x.2.2.2.length ≤ (S ++ [(e.1, e.2)]).length) ?_ ?_ ?_ ?_
        · exact ⟨_, _, _, _, rfl, ext4, tb4, wW4, wS4, hq4, way4, D4, lW4⟩
        · rintro i σ H' _ ⟨_, _, _, _, _, x, _⟩
          exact lst x
        · rintro i v σ H' H5 li ⟨v7', v8', v9', W', rfl, ext', tb', wW', wS', hq', way', D', lW'⟩ ⟨T0, x, y, rfl, new, rfl, hx, hy⟩
          cases hx
          obtain ⟨act, hact, rfl⟩ := map_at hy
          rw [List.length_map, acts.1] at li
          obtain ⟨sl, bs, aAt⟩ := (acts.ext ext').2 i act _ hact (List.getElem?_eq_getElem li)
          have aOk := List.getElem_mem li
          have s5 := Same.upd (o := .tup [V.int (i : Nat), .ref act]) new
          have e5 := ext'.trans (Same.ext s5)
          have thn : t.then_ e.1 i = thenA t.rooms t.acts[i] e.1 := then_of (List.getElem?_eq_getElem li) e.1
          have inLen : e.1.in_.length = t.rooms.length := (walk_valid ok.wf ok.val (D.real _ (.inl (has_mem he))).2).in_.len
          refine ⟨T0, _, rfl, SqT.of upd_same, rfl, _, _, rfl, _, _, rfl, rfl, ?_⟩
          -- behind = state_behind(act, state, rooms)
          refine ⟨_, rfl, _, rfl, _, rfl, act, sl, q, rl, bs, t.acts[i], e.1, t.rooms, rfl, aAt.ext (Same.ext s5), s5 _ _ hq', e5 _ _ hrl (fun ps z => nomatch z), ok.parts _ aOk, inLen, ok.rooms, fun H6 s6 => ?_⟩
          have s56 := s5.trans s6
          have e6 := ext'.trans (Same.ext s56)
          have tb6 := Tabs.same tb' s56
          have wW6 := wW'.ext (Same.ext s56)
          have wS6 := wS'.ext (Same.ext s56)
          have way6 := way'.same fun b xs h => s56 _ _ h
          rw [← thn]
          cases g : t.then_ e.1 i with
          | none =>
            refine ⟨_, rfl, _, rfl, ?_⟩
            exact ⟨_, _, _, W', rfl, e6, tb6, wW6, wS6, s56 _ _ hq', way6, D'.pass fun v hv => (by rw [g] at hv; cases hv), lW'⟩
          | some v =>
            intro p hp5 hp
            have got : DGet H6 d2 (.ref p) ((getE (S ++ [(e.1, e.2)]) v).map fun x => .ref x.1) := by rw [← val_enc]; exact DGet.t wS6.dict (by rw [skey_kV]; exact hp)
            refine ⟨_, rfl, _, rfl, _, rfl, _, rfl, d2, _, rfl, got, _, rfl, ?_⟩
            cases gs : getE (S ++ [(e.1, e.2)]) v with
            | some x =>
              exact ⟨_, _, _, W', rfl, e6, tb6, wW6, wS6, s56 _ _ hq', way6, D'.pass fun v' hv => (by rw [g] at hv; cases hv; exact .inl ⟨x.2, x.1, get_some gs⟩), lW'⟩
            | none =>
              have out : ∀ y, ¬ Has (S ++ [(e.1, e.2)]) (v, y) := fun y ⟨a, h⟩ => get_none gs _ h
              obtain ⟨dx, hact'⟩ := (aAt.ext (Same.ext s56)).obj
              have inS : (e.1, e.2) ∈ S ++ [(e.1, e.2)] := List.mem_append.mpr (.inr (List.mem_singleton.mpr rfl))
              have short : e.2.2.2.length ≤ 1000 := by have := lS4 _ inS; rw [grown] at this; have q : e.2.2.2.length < S.length + 1 := this; omega
              have cost : (t.act i).cost = t.acts[i].cost := by unfold Pn06.Task.act; rw [List.getD_eq_getElem?_getD, List.getElem?_eq_getElem li]; rfl
              -- offer_way(waiting, behind, longer_way(way, number, act.cost))
              refine ⟨_, rfl, _, rfl, _, rfl, _, rfl, _, rfl, act, CA, dx, _, nv t.acts[i].cost, rfl, hact', T.acl, T.a5, rfl, e.2.1, e.2.2, i, t.acts[i].cost, rfl, way6, short, fun H7 b s7 nb wb => ?_⟩
              have e7 : (e.2.2.1 + t.acts[i].cost, e.2.2.2 ++ [i]) = ext t e.2.2 i := by unfold ext; rw [cost]
              rw [e7] at wb
              have s57 := s56.trans s7
              have wW7 := wW6.ext (Same.ext s7)
              have fewW : W'.length ≤ 1000 := Nat.le_trans (Nat.le_trans (dict_few ok.wf ok.val wW'.once fun x hx => (D'.real x (.inl hx)).2) ok.many) (by decide)
              refine ⟨d1, p, b, W', v, ext t e.2.2 i, rfl, wW7, s7 _ _ hp, wb, fewW, fun H8 k8 hd8 => ?_⟩
              have wS7 := wS6.ext (Same.ext s7)
              have tupS := Kept.tups k8 wW7.dict
              have e8 : ExtN H H8 := fun o ob ho nt => k8 _ _ ((ext'.trans (Same.ext s57)) _ _ ho nt) (ne_of_none ho n1)
              have tb8 := Tabs.kept (Tabs.same tb' s57) k8 wW7.dict (fun ps z => nomatch z) dT_code
              have wS8 := wS7.kept k8 (Ne.symm d12) wW7.dict
              have hq8 := tupS _ _ (s57 _ _ hq')
              have way8 := (way6.same fun b xs h => s7 _ _ h).same tupS
              have wb8 := wb.same tupS
              have new8 : H8 d1 = some (.dT (encD (putE W' v (b, ext t e.2.2 i)))) → WaysAt H8 d1 (putE W' v (b, ext t e.2.2 i)) := fun hd => ⟨hd, fun x hx => by
                rcases (mem_put x).mp hx with rfl | ⟨hx, _⟩
                · exact wb8
                · exact (wW7.ways x hx).same tupS, once_put wW'.once _ _⟩
              have l8 : ∀ x ∈ putE W' v (b, ext t e.2.2 i), x.2.2.2.length ≤ (S ++ [(e.1, e.2)]).length := fun x hx => by
                rcases (mem_put x).mp hx with rfl | ⟨hx, _⟩
                · have q := lS4 _ inS
                  rw [grown] at q ⊢
                  show (e.2.2.2 ++ [i]).length ≤ _
                  rw [List.length_append]
                  have q : e.2.2.2.length < S.length + 1 := q
                  show e.2.2.2.length + 1 ≤ S.length + 1
                  omega
                · exact lW' x hx
              unfold offered at hd8
              have seE : Has (S ++ [(e.1, e.2)]) (e.1, e.2.2) := has_mem inS
              cases gw : getE W' v with
              | none =>
                rw [gw] at hd8
                exact ⟨_, _, _, _, rfl, e8, tb8, new8 hd8, wS8, hq8, way8, D'.offer seE g out (fun y ⟨a, h⟩ => (get_none gw _ h).elim) (fun x => has_put x), l8⟩
              | some y =>
                rw [gw] at hd8
                by_cases better : Pn06.better (ext t e.2.2 i) y.2 = true
                · simp only [better, if_true] at hd8
                  refine ⟨_, _, _, _, rfl, e8, tb8, new8 hd8, wS8, hq8, way8, D'.offer seE g out (fun z ⟨a, h⟩ => ?_) (fun x => has_put x), l8⟩
                  have q := once_eq wW'.once h (get_some gw) rfl
                  rw [Prod.mk.injEq] at q
                  have q2 : z = y.2 := congrArg (fun m : Addr × (Nat × List Nat) => m.2) q.2
                  rw [q2]
                  exact better_asymm better
                · simp only [better, Bool.false_eq_true, if_false] at hd8
                  have keep8 : WaysAt H8 d1 W' := ⟨hd8, fun x hx => (wW7.ways x hx).same tupS, wW'.once⟩
                  refine ⟨_, _, _, W', rfl, e8, tb8, keep8, wS8, hq8, way8, D'.pass fun v' hv => ?_, lW'⟩
                  rw [g] at hv
                  cases hv
                  exact .inr ⟨y.2, ⟨y.1, get_some gw⟩, Bool.eq_false_iff.mpr better⟩
        · rintro σ H' ⟨v7', v8', v9', W', rfl, ext', tb', wW', wS', _, _, D', lW'⟩
          refine ⟨⟨_, _, _, _, _, W', _, rfl, ext', tb', wW', wS', ?_, lS4, lW'⟩, ?_⟩
          · rw [List.length_map, acts.1] at D'
            exact D'.rest
          · show (match H' d2 with | some (.dT kvs) => 1000 - kvs.length | _ => 0) < (match H1 d2 with | some (.dT kvs) => 1000 - kvs.length | _ => 0)
            rw [wS'.dict, wS.dict]
            simp only [encD, List.length_map]
            rw [grown]
            omega
      · have e : W = [] := List.eq_nil_of_length_eq_zero (by omega)
        subst e
        exact ⟨_, rfl, k H1 d2 S ext1 tb1 n2' wS (D.done ok.wf fun e ⟨a, h⟩ => (by cases h)) fewS fun e he => (by have := lS e he; omega)⟩
    · rintro σ H1 Q1 Q2 hm ⟨v, hv, d, kvs, e1, e2, i, j, e3, e4, c, e5, hq⟩
      exact ⟨v, hv, d, kvs, e1, e2, i, j, e3, e4, c, e5, hm _ _ hq⟩
end
end Tk
namespace Tk
open L2 LamX NdefX PySem PySem.Spec PyProof.Rows
abbrev sST : Stmt := inClass (top 49) 7
abbrev sIW : Stmt := inClass (top 49) 8
abbrev sWY : Stmt := inClass (top 49) 9
abbrev sTP : Stmt := inClass (top 49) 10
abbrev sTF : Stmt := inClass (top 49) 11
abbrev sBN : Stmt := inClass (top 49) 12
abbrev sCK : Stmt := inClass (top 49) 13
abbrev sCR : Stmt := inClass (top 49) 14
theorem HouseAt.ext {C CA : Addr} {H H' : Hp} {x ac g : Addr} {h : Pn06.House} (A : HouseAt C CA H x ac g h) (k : ExtN H H') : HouseAt C CA H' x ac g h := by
  obtain ⟨dx, rl, am, wa, xs, A⟩ := A
  have l : ∀ {b ys}, H b = some (.lst ys) → H' b = some (.lst ys) := fun e => k _ _ e (fun ps z => nomatch z)
  refine ⟨dx, rl, am, wa, xs, k _ _ A.obj (fun ps z => nomatch z), l A.hrl, l A.ham, l A.hwa, l A.hac, A.rac, A.rg, A.amac, A.amg, A.waac, A.wag, A.acg, A.len, fun i y a hy ha => ?_⟩
  obtain ⟨sl, bs, q⟩ := A.acts i y a hy ha
  exact ⟨sl, bs, q.act.ext k, q.sac, q.sg, q.bac, q.bg⟩
theorem HouseOk.task {h : Pn06.House} (H : HouseOk h) : TaskOk h.task h.start := ⟨H.wf, H.s1, many_le H, H.r1, H.a1, fun a ha => (H.a2 a ha).parts⟩
theorem HouseIn.actsAt {C CA : Addr} {H : Hp} {x ac g dx rl am wa : Addr} {xs : List Addr} {h : Pn06.House} (A : HouseIn C CA H x ac g dx rl am wa xs h) : ActsAt CA H xs h.task.acts := ⟨A.len, fun i y a hy ha => by
  obtain ⟨sl, bs, q⟩ := A.acts i y a hy ha
  exact ⟨sl, bs, q.act⟩⟩
section
variable {P : Program} {w : World} {K : PySem.W.Frag} {mg : Str → Option Value} {base : Heap} {C CA : Addr}
def spST (C CA : Addr) : Sp := fun vs H Q _ => ∃ (x ac g : Addr) (h : Pn06.House), vs = [.ref x] ∧ HouseAt C CA H x ac g h ∧ HouseOk h ∧ ∀ H' p, Same H H' → H p = none → H' p = some (.tup (stv h.start)) → Q (.ref p) H'
theorem scST : FnScope ["self"] ["self"] (defScope sST) := ⟨rfl, rfl, rfl, by decide +kernel, rfl, by decide +kernel, by decide +kernel⟩
theorem ok_ST {f : Addr} {fd : FuncData} (F : Fun K "start_state" "House.start_state" sST f fd) (T : TxH K mg C CA) (TA : TxA mg) : FnOk P w K mg base CX0 1 f fd ["self"] (spST C CA) := by
  refine F.ok scST (fun vs H Q E h => ?_) (fun cdv A outer s H vs Q E hr h => ?_)
  · obtain ⟨x, ac, g, h, rfl, _⟩ := h
    rfl
  · obtain ⟨x, ac, g, h, rfl, ⟨dx, rl, am, wa, xs, A1⟩, ok, k⟩ := h
    refine ⟨_, pss_one (ps_ret (pe_callTy call_tuple_of (by rfl) TA.tuple (by decide +kernel) (pa_cons (pe_op op_cat (pe_lst (pa_cons (pe_fld (pv 0) rfl) pa_nil)) (pe_fld (pv 0) rfl)) pa_nil))), ?_⟩
    refine ⟨_, rfl, x, C, dx, _, nv h.start.s, rfl, A1.obj, T.cl, T.n4, rfl, by show 1 ≤ sizeLine; decide, fun p hp => ?_⟩
    have s1 := Same.upd (o := .lst [nv h.start.s]) hp
    refine ⟨_, rfl, x, C, dx, _, .ref am, rfl, s1 _ _ A1.obj, T.cl, T.n5, rfl, p, am, _, _, rfl, rfl, upd_same, s1 _ _ A1.ham, ?_, fun q hq => ?_⟩
    · have := ok.s1.in_.len
      have := ok.r1
      rw [List.length_map]
      exact Nat.le_trans (by show 1 + _ ≤ 10; omega) (by decide)
    · have s2 := s1.trans (Same.upd (o := .lst ([nv h.start.s] ++ nvs h.start.in_)) hq)
      refine ⟨q, _, rfl, .inl ⟨SqL.of upd_same, fun t ht => ?_⟩⟩
      exact k _ t (s2.trans (Same.upd ht)) (s2.free ht) upd_same
/-! ### is_as_wished -/
def spIW (C CA : Addr) : Sp := fun vs H Q _ => ∃ (x ac g s : Addr) (h : Pn06.House) (u : Pn06.State), vs = [.ref x, .ref s] ∧ HouseAt C CA H x ac g h ∧ HouseOk h ∧ H s = some (.tup (stv u)) ∧ u.in_.length = h.task.rooms.length ∧ ∀ H', Same H H' → Q (.bl (h.wish.done u)) H'
theorem scIW : FnScope ["self", "state", "amount", "least"] ["self", "state"] (defScope sIW) := ⟨rfl, rfl, rfl, by decide +kernel, rfl, by decide +kernel, by decide +kernel⟩
theorem done_eq (w : Pn06.Wish) (u : Pn06.State) : w.done u = (decide (u.s.land w.s = w.s) && (w.least.zip u.in_).all fun x => decide (x.1 ≤ x.2)) := by
  unfold Pn06.Wish.done
  congr 1
  have c : w.s.land u.s = u.s.land w.s := Nat.and_comm ..
  rw [c]
  rfl
theorem ok_IW {f : Addr} {fd : FuncData} (F : Fun K "is_as_wished" "House.is_as_wished" sIW f fd) (T : TxH K mg C CA) (TA : TxA mg) : FnOk P w K mg base CX0 1 f fd ["self", "state"] (spIW C CA) := by
  refine F.ok scIW (fun vs H Q E h => ?_) (fun cdv A outer s H vs Q E hr h => ?_)
  · obtain ⟨x, ac, g, s, h, u, rfl, _⟩ := h
    rfl
  · obtain ⟨x, ac, g, s', h, u, rfl, ⟨dx, rl, am, wa, xs, A1⟩, ok, hs, lu, k⟩ := h
    have lw : h.wish.least.length = h.task.rooms.length := ok.w2.len
    refine ⟨_, pss_cons (ps_if (pt_cmp (pc_neI (pe_op op_and (pe_ix ix_tup (pv 1) pe_int (fun _ _ => rfl)) (pe_fld (pv 0) rfl)) (pe_fld (pv 0) rfl))) (pss_one (ps_ret pe_bl)) pss_nil)
      (pss_cons (ps_for PassesOwn.never rfl (pi_duo (by rfl) TA.zip (pa_cons (pe_slice sl_tup (pv 1) (po_some pe_int) po_none) (pa_cons (pe_fld (pv 0) rfl) pa_nil))) (pg_tup rfl (pgs_cons (pg_name (i := 2) scIW.nd rfl (Or.inl rfl)) (pgs_cons (pg_name (i := 3) scIW.nd rfl (Or.inl rfl)) pgs_nil)))
        (pss_one (ps_if (pt_cmp (pc_lt (pv 2) (pv 3))) (pss_one (ps_ret pe_bl)) pss_nil)))
      (pss_one (ps_ret pe_bl))), ?_⟩
    rw [done_eq] at k
    refine ⟨_, rfl, s', _, _, _, rfl, rfl, SqT.of hs, at_of (j := 0) (v := nv u.s) rfl rfl, _, rfl, x, C, dx, _, nv h.wish.s, rfl, A1.obj, T.cl, T.n6, rfl, u.s, h.wish.s, rfl, rfl, _, rfl, x, C, dx, _, nv h.wish.s, rfl, A1.obj, T.cl, T.n6, rfl, _, _, rfl, rfl, _, rfl, ?_⟩
    rw [and_nat]
    refine ifnd (fun c => ?_) (fun c => ?_)
    · have c' : ¬ u.s.land h.wish.s = h.wish.s := by omega
      rw [decide_eq_false c'] at k
      exact k H (Same.refl H)
    · have c' : u.s.land h.wish.s = h.wish.s := by omega
      rw [decide_eq_true c', Bool.true_and] at k
      refine ⟨_, rfl, _, rfl, s', _, rfl, SqT.of hs, cut_less _ (Nat.succ_pos _), fun q hq => ?_⟩
      rw [cut_one]
      have s1 := Same.upd (o := .tup (nvs u.in_)) hq
      refine ⟨_, rfl, x, C, dx, _, .ref wa, rfl, s1 _ _ A1.obj, T.cl, T.n7, rfl, q, wa, (nvs u.in_, nvs h.wish.least), rfl, ⟨SqT.of upd_same, SqL.of (s1 _ _ A1.hwa)⟩, ?_⟩
      refine for_duo h.task.rooms.length (by simp [lu]) (by simp [lw]) (fun i σ H' => Same H H' ∧ H' q = some (.tup (nvs u.in_)) ∧ (∃ v2 v3, σ = [some (.ref x), some (.ref s'), v2, v3]) ∧ ((h.wish.least.zip u.in_).take i).all (fun x => decide (x.1 ≤ x.2)) = true) ?_ ?_ ?_ ?_
      · exact ⟨s1, upd_same, ⟨_, _, rfl⟩, rfl⟩
      · rintro i σ H' ⟨sm, hq', _⟩
        exact ⟨SqT.of hq', SqL.of (sm _ _ A1.hwa)⟩
      · rintro i v1 v2 T0 σ H' h1 h2 ⟨sm, hq', ⟨w2, w3, rfl⟩, all⟩ new
        obtain ⟨y, hy, rfl⟩ := map_at h1
        obtain ⟨z, hz, rfl⟩ := map_at h2
        have s2 := Same.upd (o := .tup [nv y, nv z]) new
        have at_ : (h.wish.least.zip u.in_)[i]? = some (z, y) := by rw [List.getElem?_zip_eq_some]; exact ⟨hz, hy⟩
        refine ⟨T0, _, rfl, SqT.of upd_same, rfl, _, _, rfl, _, _, rfl, rfl, ?_⟩
        refine ⟨_, rfl, _, rfl, _, _, rfl, rfl, _, rfl, ?_⟩
        refine ifd (fun c => ?_) (fun c => ?_)
        · rw [all_false_at at_ (decide_eq_false (by show ¬ z ≤ y; omega))] at k
          exact k _ (sm.trans s2)
        · exact ⟨sm.trans s2, s2 _ _ hq', ⟨_, _, rfl⟩, all_take_more at_ all (decide_eq_true (by show z ≤ y; omega))⟩
      · rintro σ H' ⟨sm, _, ⟨w2, w3, rfl⟩, all⟩
        rw [List.take_of_length_le (by rw [List.length_zip]; omega)] at all
        rw [all] at k
        exact k H' sm
/-! ### ways, count_reached -/
def spWY (C CA tab : Addr) : Sp := fun vs H Q _ => ∃ (x ac g : Addr) (h : Pn06.House), vs = [.ref x] ∧ HouseAt C CA H x ac g h ∧ HouseOk h ∧ Tabs (Tab1 tab) H ∧
  ∀ H' d es, ExtN H H' → Tabs (Tab1 tab) H' → H d = none → WaysAt H' d es → Settled h.task h.start (Has es) → es.length ≤ 512 → (∀ e ∈ es, e.2.2.2.length ≤ 512) → Q (.ref d) H'
theorem scWY : FnScope ["self"] ["self"] (defScope sWY) := ⟨rfl, rfl, rfl, by decide +kernel, rfl, by decide +kernel, by decide +kernel⟩
theorem ok_WY {f fS fB tab : Addr} {fd fdS fdB : FuncData} (F : Fun K "ways" "House.ways" sWY f fd) (T : TxH K mg C CA) (GS : FnOk P w K mg base CX0 1 fS fdS ["self"] (spST C CA)) (bS : Binds K fdS ["self"] []) (mS : Meth K C "start_state" fS)
    (GB : FnOk P w K mg base CX0 4 fB fdB ["start", "acts", "rooms"] (spBW CA tab)) (kB : PySem.W.keepIn K (.ref fB) = true) (bB : Binds K fdB ["start", "acts", "rooms"] []) (gB : mg "best_ways" = some (.ref fB)) : FnOk P w K mg base CX0 5 f fd ["self"] (spWY C CA tab) := by
  refine F.ok scWY (fun vs H Q E h => ?_) (fun cdv A outer s H vs Q E hr h => ?_)
  · obtain ⟨x, ac, g, h, rfl, _⟩ := h
    rfl
  · obtain ⟨x, ac, g, h, rfl, hA, ok, tabs, k⟩ := h
    refine ⟨_, pss_one (ps_ret (pe_call GB hr rfl gB kB bB .nil pass0 (pa_cons (pe_meth0 (pv 0) T.cl mS GS (hr.mono (by decide)) bS .nil pass0) (pa_cons (pe_fld (pv 0) rfl) (pa_cons (pe_fld (pv 0) rfl) pa_nil))))), ?_⟩
    obtain ⟨dx, rl, am, wa, xs, A1⟩ := id hA
    refine ⟨_, rfl, x, dx, _, rfl, A1.obj, rfl, x, ac, g, h, rfl, hA, ok, fun H1 p s1 np hp => ?_⟩
    refine ⟨_, rfl, x, C, dx, _, .ref ac, rfl, s1 _ _ A1.obj, T.cl, T.n3, rfl, _, rfl, x, C, dx, _, .ref rl, rfl, s1 _ _ A1.obj, T.cl, T.n2, rfl, ?_⟩
    exact ⟨p, ac, rl, xs, h.task, h.start, rfl, hp, s1 _ _ A1.hac, A1.actsAt.ext (Same.ext s1), s1 _ _ A1.hrl, ok.task, Tabs.same tabs s1, fun H2 d es e2 t2 nd wd set few short => k H2 d es ((Same.ext s1).trans e2) t2 (s1.free nd) wd set few short⟩
def spCR (C CA tab : Addr) : Sp := fun vs H Q _ => ∃ (x ac g : Addr) (h : Pn06.House), vs = [.ref x] ∧ HouseAt C CA H x ac g h ∧ HouseOk h ∧ Tabs (Tab1 tab) H ∧ ∀ H', ExtN H H' → Tabs (Tab1 tab) H' → Q (.int (Pn06.step h .reach).2.v) H'
theorem scCR : FnScope ["self"] ["self"] (defScope sCR) := ⟨rfl, rfl, rfl, by decide +kernel, rfl, by decide +kernel, by decide +kernel⟩
theorem ok_CR {f fW tab : Addr} {fd fdW : FuncData} (F : Fun K "count_reached" "House.count_reached" sCR f fd) (T : TxH K mg C CA) (TA : TxA mg) (GW : FnOk P w K mg base CX0 5 fW fdW ["self"] (spWY C CA tab)) (bW : Binds K fdW ["self"] []) (mW : Meth K C "ways" fW) :
    FnOk P w K mg base CX0 6 f fd ["self"] (spCR C CA tab) := by
  refine F.ok scCR (fun vs H Q E h => ?_) (fun cdv A outer s H vs Q E hr h => ?_)
  · obtain ⟨x, ac, g, h, rfl, _⟩ := h
    rfl
  · obtain ⟨x, ac, g, h, rfl, hA, ok, tabs, k⟩ := h
    refine ⟨_, pss_one (ps_ret (pe_callB call_len_dT (by rfl) TA.len PySem.boot_len (pa_cons (pe_meth0 (pv 0) T.cl mW GW hr bW .nil pass0) pa_nil))), ?_⟩
    obtain ⟨dx, rl, am, wa, xs, A1⟩ := id hA
    refine ⟨_, rfl, x, dx, _, rfl, A1.obj, rfl, x, ac, g, h, rfl, hA, ok, tabs, fun H1 d es e1 t1 nd wd set few short => ⟨d, _, rfl, wd.dict, ?_⟩⟩
    have n := reach_count ok.wf ok.s1 wd.once fun v => ⟨fun hv => ?_, fun ⟨l, hl⟩ => ?_⟩
    · have e : (Pn06.step h .reach).2.v = (((encD es).length : Nat) : Int) := by
        show ((((List.range h.task.many).filter fun n => (Pn06.at_ (h.task.known h.start) n).isSome).length : Nat) : Int) = _
        rw [n]
        simp [encD]
      rw [← e]
      exact k H1 e1 t1
    · obtain ⟨e, he, rfl⟩ := List.mem_map.mp hv
      exact ⟨_, (set.real _ (has_mem he)).2⟩
    · obtain ⟨p, ⟨a, hp⟩, _⟩ := set.all l v hl
      exact List.mem_map.mpr ⟨_, hp, rfl⟩
end
end Tk
namespace Tk
open L2 LamX NdefX PySem PySem.Spec PyProof.Rows
structure TxP (mg : Str → Option Value) : Prop where
  noStore : GI mg "NO_STORE" (-2)
  notWished : GI mg "NOT_AS_WISHED" (-3)
  notDone : GI mg "NOT_TO_BE_DONE" (-5)
  noPlan : GI mg "NO_PLAN" (-6)
/-- nothing stands at p, or a code table -/
def NewN (H : Hp) (p : Addr) : Prop := ∀ o, H p = some o → ∃ ps, o = .tbl ps
theorem NewN.of {H H' : Hp} {p : Addr} (x : ExtN H H') (n : H' p = none) : NewN H p := fun o h => Classical.byContradiction fun c => by
  rw [x p o h (fun ps z => c ⟨ps, z⟩)] at n
  cases n
theorem NewN.none {H : Hp} {p : Addr} (n : H p = none) : NewN H p := fun o h => by rw [n] at h; cases h
theorem NewN.back {H H' : Hp} {p : Addr} (x : ExtN H H') (n : NewN H' p) : NewN H p := fun o h => Classical.byContradiction fun c => c (n o (x p o h (fun ps z => c ⟨ps, z⟩)))
theorem NewN.ne {H : Hp} {p b : Addr} {o : HO} (n : NewN H p) (h : H b = some o) (t : ∀ ps, o ≠ .tbl ps) : b ≠ p := fun z => by
  obtain ⟨ps, e⟩ := n o (z ▸ h)
  exact t ps e
theorem ext_putN {H H' : Hp} {p : Addr} {o : HO} (s : ExtN H H') (n : NewN H p) : ExtN H (upd H' p o) := fun b u e t => (upd_ne (n.ne e t)).trans (s b u e t)
theorem list_few {es : Dict} (few : es.length ≤ 512) (p : Pn06.State × Addr × (Nat × List Nat) → Bool) {α : Type} (f : Pn06.State × Addr × (Nat × List Nat) → α) : ((es.filter p).map f).length < sizeLine := by
  rw [List.length_map]
  exact Nat.lt_of_le_of_lt (Nat.le_trans (List.length_filter_le _ _) few) (by decide)
/-- a heap in the course of a walk over the ways: all of H stands, the ways too -/
structure Walking (tab : Addr) (H : Hp) (d : Addr) (o : Obj) (es : Dict) (H' : Hp) : Prop where
  ext : ExtN H H'
  tabs : Tabs (Tab1 tab) H'
  dict : H' d = some (.frz o (.dT (encD es)))
  ways : ∀ e ∈ es, WayAt H' e.2.1 e.2.2
theorem Walking.same {tab : Addr} {H : Hp} {d : Addr} {o : Obj} {es : Dict} {H' H'' : Hp} (w : Walking tab H d o es H') (s : Same H' H'') : Walking tab H d o es H'' :=
  ⟨w.ext.trans (Same.ext s), Tabs.same w.tabs s, s _ _ w.dict, fun e he => (w.ways e he).same fun b xs h => s _ _ h⟩
/-- the list that is made may change -/
theorem Walking.put {tab : Addr} {H : Hp} {d D : Addr} {o : Obj} {es : Dict} {H' : Hp} {ys zs : List V} (w : Walking tab H d o es H') (n : NewN H D) (h : H' D = some (.lst ys)) : Walking tab H d o es (upd H' D (.lst zs)) := by
  have tup : ∀ b xs, H' b = some (.tup xs) → upd H' D (.lst zs) b = some (.tup xs) := fun b xs hb => (upd_ne (ne_of hb h (fun z => nomatch z))).trans hb
  refine ⟨ext_putN w.ext n, Tabs.kept w.tabs kept_upd h (fun ps z => nomatch z) (fun c q z => by unfold CodeO at z; cases z), (upd_ne (ne_of w.dict h (fun z => nomatch z))).trans w.dict, fun e he => (w.ways e he).same tup⟩
theorem Walking.start {tab : Addr} {H H1 : Hp} {d p : Addr} {es : Dict} (e1 : ExtN H H1) (t1 : Tabs (Tab1 tab) H1) (nd : H d = none) (wd : WaysAt H1 d es) (hp : H1 p = none) (o : Obj) (u : HO) : Walking tab H d o es (upd (upd H1 p u) d (.frz o (.dT (encD es)))) := by
  have dp : d ≠ p := ne_of_none wd.dict hp
  have s2 := Same.upd (o := u) hp
  have k3 : Kept d (upd H1 p u) (upd (upd H1 p u) d (.frz o (.dT (encD es)))) := kept_upd
  have at_ : upd H1 p u d = some (.dT (encD es)) := s2 _ _ wd.dict
  refine ⟨ext_put (ext_new e1 hp) nd, Tabs.kept (Tabs.same t1 s2) k3 at_ (fun ps z => nomatch z) dT_code, upd_same, fun e he => ((wd.ways e he).same fun b xs h => s2 _ _ h).same (Kept.tups k3 at_)⟩
section
variable {P : Program} {w : World} {K : PySem.W.Frag} {mg : Str → Option Value} {base : Heap} {C CA : Addr}
def spTP (C CA tab : Addr) : Sp := fun vs H Q _ => ∃ (x ac g : Addr) (h : Pn06.House), vs = [.ref x] ∧ HouseAt C CA H x ac g h ∧ HouseOk h ∧ Tabs (Tab1 tab) H ∧ ∀ H' p, ExtN H H' → Tabs (Tab1 tab) H' → NewN H p → H' p = some (.lst ((Pn06Neutral.out (Pn06.step h .plan).2).map V.int)) → Q (.ref p) H'
theorem scTP : FnScope ["self", "plans", "best", "state", "way"] ["self"] (defScope sTP) := ⟨rfl, rfl, rfl, by decide +kernel, rfl, by decide +kernel, by decide +kernel⟩
theorem ok_TP {f fW fI tab : Addr} {fd fdW fdI : FuncData} (F : Fun K "tell_plan" "House.tell_plan" sTP f fd) (T : TxH K mg C CA) (TA : TxA mg) (TP : TxP mg) (GW : FnOk P w K mg base CX0 5 fW fdW ["self"] (spWY C CA tab)) (bW : Binds K fdW ["self"] []) (mW : Meth K C "ways" fW)
    (GI : FnOk P w K mg base CX0 1 fI fdI ["self", "state"] (spIW C CA)) (bI : Binds K fdI ["self", "state"] []) (mI : Meth K C "is_as_wished" fI) :
    FnOk P w K mg base CX0 6 f fd ["self"] (spTP C CA tab) := by
  refine F.ok scTP (fun vs H Q E h => ?_) (fun cdv A outer s H vs Q E hr h => ?_)
  · obtain ⟨x, ac, g, h, rfl, _⟩ := h
    rfl
  · obtain ⟨x, ac, g, h, rfl, hA, ok, tabs, k⟩ := h
    have units : (A.deeper (envOfC "House.tell_plan" (defScope sTP) s.heap.objs.size f cdv)).units + 3 < cLine := Nat.lt_of_le_of_lt (Nat.add_le_add_left (by decide : 3 ≤ 64) _) hr.units
    refine ⟨_, pss_cons (ps_setLc (i := 1) (own := [("state", 3), ("way", 4)]) (g := gTup K 2 (gCons (gName 3) (gCons (gName 4) gNil))) (tt := tB (tMeth C "is_as_wished" (spIW C CA) [] L2.E0 (tVar 0) (tCons (tVar 3) tNil))) (te := tVar 4) rfl scTP.nd rfl rfl (sw_true rfl rfl rfl (by decide +kernel))
        (pi_pairs (pe_bm0 PySem.F.plainAttrs_dict PySem.F.slot_dict_items PySem.F.type_dict_items DX.mt_itemsT (pe_meth0 (pv 0) T.cl mW GW hr bW .nil pass0)))
        (blkOk_by (own := [("state", 3), ("way", 4)]) (N := ["self", "plans", "best", "state", "way"]) (sc := defScope sTP) (by decide +kernel))
        (fun _ _ _ _ _ => pg_tup rfl (pgs_cons (pg_name (i := 3) scTP.nd rfl (Or.inl rfl)) (pgs_cons (pg_name (i := 4) scTP.nd rfl (Or.inl rfl)) pgs_nil)))
        (fun _ _ _ _ _ => pts_one (pt_val (pe_meth (pv 0) T.cl mI GI (hr.mono (by decide)) bI .nil pass0 (pa_cons (pv 3) pa_nil)))) (fun _ _ _ _ _ => pv 4))
      (pss_cons (ps_if (pt_cmp (pc_eqI (pe_callB call_len_seq (by rfl) TA.len PySem.boot_len (pa_cons (pv 1) pa_nil)) pe_int)) (pss_one (ps_ret (pe_lst (pa_cons (pe_gint rfl TP.noPlan) pa_nil)))) pss_nil)
      (pss_cons (ps_set (i := 2) scTP.nd rfl (Or.inl rfl) (pe_callB (cr_minW rfl units) (by rfl) TA.min (by decide +kernel) (pa_cons (pv 1) pa_nil)))
      (pss_one (ps_ret (pe_op op_cat (pe_lst (pa_cons (pe_ix ix_tup (pv 2) pe_int (fun _ _ => rfl)) pa_nil)) (pe_callTy call_list_of (by rfl) TA.list (by decide +kernel) (pa_cons (pe_ix ix_tup (pv 2) pe_int (fun _ _ => rfl)) pa_nil))))))), ?_⟩
    obtain ⟨dx, rl, am, wa, xs, A1⟩ := id hA
    refine ⟨_, rfl, x, dx, _, rfl, A1.obj, rfl, x, ac, g, h, rfl, hA, ok, tabs, fun H1 d es e1 t1 nd wd set few short => ?_⟩
    refine ⟨.inr (.inr (.inl ⟨rfl, .inr ⟨_, wd.dict⟩⟩)), d, _, rfl, rfl, wd.dict, fun p hp => ?_⟩
    refine ⟨p, d, _, rfl, upd_same, (upd_ne (ne_of_none wd.dict hp)).trans wd.dict, fun o D nD => ?_⟩
    have w0 := Walking.start e1 t1 nd wd hp o (DX.itemsO p d)
    have nD' : NewN H D := .of w0.ext nD
    refine lc_pairs (own := [3, 4]) (fun i H' => Walking tab H d o es H' ∧ H' D = some (.lst ((((es.take i).filter fun e => h.wish.done e.1).map (·.2.1)).map V.ref))) ?_ (fun i H' q => q.1.dict) ?_ ?_
    · exact ⟨w0.same (Same.upd nD), upd_same⟩
    · rintro i key v T0 q H' hi ⟨wk, hD⟩ new hq
      obtain ⟨e, he, z⟩ := map_at hi
      cases z
      have em := List.mem_of_getElem? he
      have s2 := Same.upd (o := .tup [.ref q, .ref e.2.1]) new
      have wk2 := wk.same s2
      have len : e.1.in_.length = h.task.rooms.length := (walk_valid ok.wf ok.s1 (set.real _ (has_mem em)).2).in_.len
      have hA2 := hA.ext wk2.ext
      obtain ⟨dx2, rl2, am2, wa2, xs2, A2⟩ := id hA2
      have more : ((es.take (i + 1)).filter fun e => h.wish.done e.1) = ((es.take i).filter fun e => h.wish.done e.1) ++ (if h.wish.done e.1 = true then [e] else []) := by
        rw [take_more he, List.filter_append]
        congr 1
        by_cases c : h.wish.done e.1 = true
        · simp [c]
        · simp [c]
      refine ⟨T0, _, rfl, SqT.of upd_same, rfl, _, _, rfl, _, _, rfl, rfl, rfl, ?_⟩
      refine ⟨_, rfl, x, dx2, _, rfl, A2.obj, rfl, _, rfl, x, ac, g, q, h, e.1, rfl, hA2, ok, by rw [← skey_kV]; exact s2 _ _ hq, len, fun H3 s3 => ⟨_, rfl, ?_⟩⟩
      have wk3 := wk2.same s3
      have hD3 := s3 _ _ (s2 _ _ hD)
      refine ifb (fun c => ?_) (fun c => ?_)
      · refine ⟨_, rfl, _, hD3, ?_, wk3.put nD' hD3, ?_⟩
        · rw [List.length_map]
          exact list_few (Nat.le_trans (by rw [List.length_take]; omega) few) _ _
        · rw [upd_same, more, if_pos c]
          simp
      · refine ⟨wk3, ?_⟩
        rw [more, if_neg (by simp [c]), List.append_nil]
        exact hD3
    · rintro H2 ⟨wk, hD⟩
      rw [show (encD es).length = es.length by simp [encD], List.take_length] at hD
      have plan : ∀ {b}, Best h.task h.start h.wish.done b → h.task.plan h.start h.wish = b := fun hb => Best.uniq (plan_best ok.wf ok.s1 h.wish) hb
      generalize eL : es.filter (fun e => h.wish.done e.1) = L at hD
      have inL : ∀ e, e ∈ L ↔ e ∈ es ∧ h.wish.done e.1 = true := fun e => by rw [← eL, List.mem_filter]
      refine ⟨_, rfl, D, _, rfl, .inl (SqL.of hD), _, _, rfl, rfl, _, rfl, ?_⟩
      rw [List.length_map, List.length_map]
      refine ifd (fun c => ?_) (fun c => ?_)
      · have e : L = [] := List.eq_nil_of_length_eq_zero (by omega)
        have z : h.task.plan h.start h.wish = none := plan (set.none_ fun y ⟨a, hy⟩ => Bool.eq_false_iff.mpr fun d => by
          have q := (inL (y.1, a, y.2)).mpr ⟨hy, d⟩
          rw [e] at q
          cases q)
        refine ⟨by show 1 ≤ sizeLine; decide, fun q hq => ?_⟩
        refine k _ q (ext_new wk.ext hq) (Tabs.same wk.tabs (Same.upd hq)) (.of wk.ext hq) ?_
        rw [upd_same]
        simp only [Pn06.step, z]
        rfl
      · refine ⟨_, rfl, D, L.map (·.2.1), L.map (·.2.2), rfl, SqL.of hD, by simp, ?_, fun i a p ha hp => ?_, fun a p ha hp way least => ?_⟩
        · rw [List.length_map]; omega
        · obtain ⟨e, he, rfl⟩ := map_at ha
          obtain ⟨e', he', rfl⟩ := map_at hp
          rw [he] at he'
          cases he'
          exact wk.ways e ((inL e).mp (List.mem_of_getElem? he)).1
        · obtain ⟨e, he, rfl⟩ := List.mem_map.mp hp
          obtain ⟨he1, he2⟩ := (inL e).mp he
          have z : h.task.plan h.start h.wish = some e.2.2 := plan (set.plan (has_mem he1) he2 fun y ⟨b, hy⟩ dy => least _ (List.mem_map.mpr ⟨_, (inL _).mpr ⟨hy, dy⟩, rfl⟩))
          obtain ⟨t, h1, h2⟩ := way
          have lenP : e.2.2.2.length ≤ 512 := short e he1
          refine ⟨_, rfl, a, _, _, _, rfl, rfl, SqT.of h1, at_of (j := 0) (v := nv e.2.2.1) rfl rfl, by show 1 ≤ sizeLine; decide, fun q hq => ?_⟩
          have s1 := Same.upd (o := .lst [nv e.2.2.1]) hq
          refine ⟨_, rfl, a, _, _, _, rfl, rfl, SqT.of (s1 _ _ h1), at_of (j := 2) (v := .ref t) rfl rfl, t, _, rfl, .inr (SqT.of (s1 _ _ h2)), fun r hr' => ?_⟩
          have qr : q ≠ r := ne_of_none upd_same hr'
          have s2 := s1.trans (Same.upd (o := .lst (nvs e.2.2.2)) hr')
          refine ⟨q, r, _, _, rfl, rfl, (upd_ne qr).trans upd_same, upd_same, ?_, fun b hb => ?_⟩
          · rw [List.length_map]
            exact Nat.le_trans (by show 1 + _ ≤ 2000; omega) (by decide)
          · refine k _ b ((ext_new (wk.ext.trans (Same.ext s2)) hb)) (Tabs.same wk.tabs (s2.trans (Same.upd hb))) (.of (wk.ext.trans (Same.ext s2)) hb) ?_
            rw [upd_same]
            simp only [Pn06.step, z, Pn06Neutral.out]
            simp [nvs, nv]
end
end Tk
namespace Tk
open L2 LamX NdefX PySem PySem.Spec PyProof.Rows
/-! ### the front, by the ends that are as wished -/
def endsOf (w : Pn06.Wish) (i : Nat) (es : Dict) : List (Nat × Nat) := (es.filter fun e => w.done e.1).map fun e => (e.1.in_.getD i 0, e.2.2.1)
theorem mem_costs {w : Pn06.Wish} {i x c : Nat} {es : Dict} : c ∈ costs (endsOf w i es) x ↔ ∃ e ∈ es, enough w i x e.1 = true ∧ e.2.2.1 = c := by
  unfold costs endsOf
  simp only [List.mem_map, List.mem_filter, decide_eq_true_eq]
  constructor
  · rintro ⟨_, ⟨⟨e, ⟨he, hd⟩, rfl⟩, hx⟩, rfl⟩
    exact ⟨e, he, enough_iff.mpr ⟨hd, hx⟩, rfl⟩
  · rintro ⟨e, he, hn, rfl⟩
    obtain ⟨hd, hx⟩ := enough_iff.mp hn
    exact ⟨_, ⟨⟨e, ⟨he, hd⟩, rfl⟩, hx⟩, rfl⟩
theorem costs_least {t : Pn06.Task} {u0 : Pn06.State} {es : Dict} (set : Settled t u0 (Has es)) (w : Pn06.Wish) (i x : Nat) : Least t u0 (enough w i x) (minOf (costs (endsOf w i es) x)) := by
  cases e : minOf (costs (endsOf w i es) x) with
  | none =>
    have no := minOf_none e
    refine set.noLeast fun y ⟨a, hy⟩ => Bool.eq_false_iff.mpr fun z => ?_
    have q : y.2.1 ∈ costs (endsOf w i es) x := mem_costs.mpr ⟨_, hy, z, rfl⟩
    rw [no] at q
    cases q
  | some c =>
    obtain ⟨m, least⟩ := minOf_some e
    obtain ⟨f, hf, hn, rfl⟩ := mem_costs.mp m
    exact set.least (has_mem hf) hn fun y ⟨a, hy⟩ z => least _ (mem_costs.mpr ⟨_, hy, z, rfl⟩)
theorem filterMap_same {α β : Type} {f g : α → Option β} : ∀ {l : List α}, (∀ x ∈ l, f x = g x) → l.filterMap f = l.filterMap g
  | [], _ => rfl
  | a :: l, h => by
    have ih := filterMap_same (f := f) (g := g) (l := l) fun x hx => h x (List.mem_cons_of_mem _ hx)
    rw [List.filterMap_cons, List.filterMap_cons, h a List.mem_cons_self, ih]
theorem frontE_eq {h : Pn06.House} (ok : HouseOk h) {es : Dict} (set : Settled h.task h.start (Has es)) (i : Nat) : frontE (endsOf h.wish i es) (h.task.rooms.getD i 0) = h.task.front h.start h.wish i := by
  have eq : ∀ x, minOf (costs (endsOf h.wish i es) x) = leastS h.task h.start h.wish i x := fun x => Least.uniq (costs_least set h.wish i x) (leastS_ok ok.wf ok.s1 h.wish i x)
  rw [front_eq]
  unfold frontE
  refine filterMap_same fun x hx => ?_
  have lx : x < h.task.rooms.getD i 0 + 1 := List.mem_range.mp hx
  unfold front1
  rw [eq, eq]
  have L1 := leastS_ok ok.wf ok.s1 h.wish i x
  have L2 := leastS_ok ok.wf ok.s1 h.wish i (x + 1)
  cases e1 : leastS h.task h.start h.wish i x with
  | none => rfl
  | some c =>
    rw [e1] at L1
    by_cases lt : x < h.task.rooms.getD i 0
    · cases e2 : leastS h.task h.start h.wish i (x + 1) with
      | none => simp
      | some d =>
        rw [e2] at L2
        obtain ⟨⟨l, v, hl, hv, hd⟩, _⟩ := L2
        have le : c ≤ d := by
          rw [← hd]
          obtain ⟨a, b⟩ := enough_iff.mp hv
          exact L1.2 l v hl (enough_iff.mpr ⟨a, by omega⟩)
        show (if c < d then some (x, c) else none) = if x < h.task.rooms.getD i 0 ∧ some d = some c then none else some (x, c)
        by_cases q : c = d
        · rw [if_neg (by omega), if_pos ⟨lt, by rw [q]⟩]
        · rw [if_pos (by omega), if_neg (fun z => q (Option.some.inj z.2).symm)]
    · have none_ : leastS h.task h.start h.wish i (x + 1) = none := by
        cases e2 : leastS h.task h.start h.wish i (x + 1) with
        | none => rfl
        | some d =>
          rw [e2] at L2
          obtain ⟨⟨l, v, hl, hv, hd⟩, _⟩ := L2
          obtain ⟨a, b⟩ := enough_iff.mp hv
          have r := OkIn.get i (walk_valid ok.wf ok.s1 hl).in_
          omega
      rw [none_]
      simp [lt]
section
variable {P : Program} {w : World} {K : PySem.W.Frag} {mg : Str → Option Value} {base : Heap} {C CA : Addr}
def spTF (C CA tab : Addr) : Sp := fun vs H Q _ => ∃ (x ac g : Addr) (h : Pn06.House) (i : Nat), vs = [.ref x, nv i] ∧ HouseAt C CA H x ac g h ∧ HouseOk h ∧ Tabs (Tab1 tab) H ∧ ∀ H' p, ExtN H H' → Tabs (Tab1 tab) H' → NewN H p → H' p = some (.lst ((Pn06Neutral.out (Pn06.step h (.front i)).2).map V.int)) → Q (.ref p) H'
theorem scTF : FnScope ["self", "store", "ends", "amounts", "told", "amount", "cost", "state", "way"] ["self", "store"] (defScope sTF) := ⟨rfl, rfl, rfl, by decide +kernel, rfl, by decide +kernel, by decide +kernel⟩
theorem ok_TF {f fW fI fF tab : Addr} {fd fdW fdI fdF : FuncData} (F : Fun K "tell_front" "House.tell_front" sTF f fd) (T : TxH K mg C CA) (TA : TxA mg) (TP : TxP mg) (GW : FnOk P w K mg base CX0 5 fW fdW ["self"] (spWY C CA tab)) (bW : Binds K fdW ["self"] []) (mW : Meth K C "ways" fW)
    (GI : FnOk P w K mg base CX0 1 fI fdI ["self", "state"] (spIW C CA)) (bI : Binds K fdI ["self", "state"] []) (mI : Meth K C "is_as_wished" fI)
    (GF : FnOk P w K mg base CX0 2 fF fdF ["ends", "room"] spFR) (kF : PySem.W.keepIn K (.ref fF) = true) (bF : Binds K fdF ["ends", "room"] []) (gF : mg "front_amounts" = some (.ref fF)) :
    FnOk P w K mg base CX0 6 f fd ["self", "store"] (spTF C CA tab) := by
  refine F.ok scTF (fun vs H Q E h => ?_) (fun cdv A outer s H vs Q E hr h => ?_)
  · obtain ⟨x, ac, g, h, i, rfl, _⟩ := h
    rfl
  · obtain ⟨x, ac, g, h, i, rfl, hA, ok, tabs, k⟩ := h
    refine ⟨_, pss_cons (ps_if (pt_cmp (pc_ge (pv 1) (pe_callB call_len_seq (by rfl) TA.len PySem.boot_len (pa_cons (pe_fld (pv 0) rfl) pa_nil)))) (pss_one (ps_ret (pe_lst (pa_cons (pe_gint rfl TP.noStore) pa_nil)))) pss_nil)
      (pss_cons (ps_setLc (i := 2) (own := [("state", 7), ("way", 8)]) (g := gTup K 2 (gCons (gName 7) (gCons (gName 8) gNil))) (tt := tB (tMeth C "is_as_wished" (spIW C CA) [] L2.E0 (tVar 0) (tCons (tVar 7) tNil)))
          (te := tTup (tCons (tOp (rIxT K) (tVar 7) (tOp (rI0 fun i j => V.int (i + j)) (tC (.int 1)) (tVar 1))) (tCons (tOp (rIxT K) (tVar 8) (tC (.int 0))) tNil))) rfl scTF.nd rfl rfl (sw_true rfl rfl rfl (by decide +kernel))
        (pi_pairs (pe_bm0 PySem.F.plainAttrs_dict PySem.F.slot_dict_items PySem.F.type_dict_items DX.mt_itemsT (pe_meth0 (pv 0) T.cl mW GW hr bW .nil pass0)))
        (blkOk_by (own := [("state", 7), ("way", 8)]) (N := ["self", "store", "ends", "amounts", "told", "amount", "cost", "state", "way"]) (sc := defScope sTF) (by decide +kernel))
        (fun _ _ _ _ _ => pg_tup rfl (pgs_cons (pg_name (i := 7) scTF.nd rfl (Or.inl rfl)) (pgs_cons (pg_name (i := 8) scTF.nd rfl (Or.inl rfl)) pgs_nil)))
        (fun _ _ _ _ _ => pts_one (pt_val (pe_meth (pv 0) T.cl mI GI (hr.mono (by decide)) bI .nil pass0 (pa_cons (pv 7) pa_nil))))
        (fun _ _ _ _ _ => pe_tup (pa_cons (pe_ix ix_tup (pv 7) (pe_op op_add pe_int (pv 1)) (fun _ _ => rfl)) (pa_cons (pe_ix ix_tup (pv 8) pe_int (fun _ _ => rfl)) pa_nil))))
      (pss_cons (ps_set (i := 3) scTF.nd rfl (Or.inl rfl) (pe_call GF (hr.mono (by decide)) rfl gF kF bF .nil pass0 (pa_cons (pv 2) (pa_cons (pe_ix ix_list (pe_fld (pv 0) rfl) (pv 1) (fun _ _ => rfl)) pa_nil))))
      (pss_cons (ps_set (i := 4) scTF.nd rfl (Or.inl rfl) (pe_lst (pa_cons (pe_callB call_len_seq (by rfl) TA.len PySem.boot_len (pa_cons (pv 3) pa_nil)) pa_nil)))
      (pss_cons (ps_for PassesOwn.never rfl (pi_list (pv 3)) (pg_tup rfl (pgs_cons (pg_name (i := 5) scTF.nd rfl (Or.inl rfl)) (pgs_cons (pg_name (i := 6) scTF.nd rfl (Or.inl rfl)) pgs_nil)))
        (pss_one (ps_expr (pe_bm PySem.F.plainAttrs_list PySem.F.slot_list_extend PySem.F.type_list_extend mt_extend (pv 4) (pa_cons (pe_lst (pa_cons (pv 5) (pa_cons (pv 6) pa_nil))) pa_nil)))))
      (pss_one (ps_ret (pv 4))))))), ?_⟩
    obtain ⟨dx, rl, am, wa, xs, A1⟩ := id hA
    refine ⟨_, rfl, _, rfl, x, C, dx, _, .ref rl, rfl, A1.obj, T.cl, T.n2, rfl, rl, _, rfl, .inl (SqL.of A1.hrl), _, _, rfl, rfl, _, rfl, ?_⟩
    rw [List.length_map]
    refine ifd (fun c => ?_) (fun c => ?_)
    · refine ⟨by show 1 ≤ sizeLine; decide, fun q hq => ?_⟩
      refine k _ q (Same.ext (Same.upd hq)) (Tabs.same tabs (Same.upd hq)) (.none hq) ?_
      rw [upd_same]
      simp only [Pn06.step]
      rw [if_pos (by omega)]
      rfl
    · have li : i < h.task.rooms.length := by omega
      refine ⟨_, rfl, x, dx, _, rfl, A1.obj, rfl, x, ac, g, h, rfl, hA, ok, tabs, fun H1 d es e1 t1 nd wd set few short => ?_⟩
      refine ⟨.inr (.inr (.inl ⟨rfl, .inr ⟨_, wd.dict⟩⟩)), d, _, rfl, rfl, wd.dict, fun p hp => ?_⟩
      refine ⟨p, d, _, rfl, upd_same, (upd_ne (ne_of_none wd.dict hp)).trans wd.dict, fun o D nD => ?_⟩
      have w0 := Walking.start e1 t1 nd wd hp o (DX.itemsO p d)
      have nD' : NewN H D := .of w0.ext nD
      refine lc_pairs (own := [7, 8]) (fun n H' => Walking tab H d o es H' ∧ ∃ as, PairsAt H' D as (endsOf h.wish i (es.take n))) ?_ (fun n H' q => q.1.dict) ?_ ?_
      · exact ⟨w0.same (Same.upd nD), [], upd_same, rfl, fun j a e ha => by simp at ha⟩
      · rintro n key v T0 q H' hi ⟨wk, as, pa⟩ new hq
        obtain ⟨e, he, z⟩ := map_at hi
        cases z
        have em := List.mem_of_getElem? he
        have s2 := Same.upd (o := .tup [.ref q, .ref e.2.1]) new
        have wk2 := wk.same s2
        have len : e.1.in_.length = h.task.rooms.length := (walk_valid ok.wf ok.s1 (set.real _ (has_mem em)).2).in_.len
        have hA2 := hA.ext wk2.ext
        obtain ⟨dx2, rl2, am2, wa2, xs2, A2⟩ := id hA2
        have more : endsOf h.wish i (es.take (n + 1)) = endsOf h.wish i (es.take n) ++ (if h.wish.done e.1 = true then [(e.1.in_.getD i 0, e.2.2.1)] else []) := by
          unfold endsOf
          rw [take_more he, List.filter_append, List.map_append]
          congr 1
          by_cases c : h.wish.done e.1 = true
          · simp [c]
          · simp [c]
        have tupq : (upd H' T0 (.tup [.ref q, .ref e.2.1])) q = some (.tup (stv e.1)) := by rw [← skey_kV]; exact s2 _ _ hq
        refine ⟨T0, _, rfl, SqT.of upd_same, rfl, _, _, rfl, _, _, rfl, rfl, rfl, ?_⟩
        refine ⟨_, rfl, x, dx2, _, rfl, A2.obj, rfl, _, rfl, x, ac, g, q, h, e.1, rfl, hA2, ok, tupq, len, fun H3 s3 => ⟨_, rfl, ?_⟩⟩
        have wk3 := wk2.same s3
        have pa3 := (pa.same s2).same s3
        refine ifb (fun c => ?_) (fun c => ?_)
        · obtain ⟨t, h1, h2⟩ := wk3.ways e em
          have item : (stv e.1)[1 + i]? = some (nv (e.1.in_.getD i 0)) := by
            rw [Nat.add_comm]
            show (nvs e.1.in_)[i]? = _
            exact nv_at (by omega)
          refine ⟨_, rfl, _, rfl, _, _, rfl, rfl, q, _, _, _, rfl, rfl, SqT.of (s3 _ _ tupq), at_of (j := 1 + i) (show (1 : Int) + (i : Int) = ((1 + i : Nat) : Int) by omega) item, _, rfl, e.2.1, _, _, _, rfl, rfl, SqT.of h1, at_of (j := 0) (v := nv e.2.2.1) rfl rfl, by show 2 ≤ sizeLine; decide, fun r hr' => ?_⟩
          have s4 := Same.upd (o := .tup [nv (e.1.in_.getD i 0), nv e.2.2.1]) hr'
          have pa4 := pa3.same s4
          have wk4 := wk3.same s4
          refine ⟨_, pa4.list, ?_, wk4.put nD' pa4.list, as ++ [r], ?_⟩
          · rw [List.length_map, pa.len]
            exact list_few (Nat.le_trans (by rw [List.length_take]; omega) few) _ _
          · have q := pa4.snoc (e := (e.1.in_.getD i 0, e.2.2.1)) (Ne.symm (ne_of_none pa3.list hr')) upd_same
            rw [more, if_pos c]
            rw [List.map_append] at q
            exact q
        · refine ⟨wk3, as, ?_⟩
          rw [more, if_neg (by simp [c]), List.append_nil]
          exact pa3
      · rintro H2 ⟨wk, as, pa⟩
        rw [show (encD es).length = es.length by simp [encD], List.take_length] at pa
        have hA2 := hA.ext wk.ext
        obtain ⟨dx2, rl2, am2, wa2, xs2, A2⟩ := id hA2
        have rooms : (nvs h.task.rooms)[i]? = some (nv (h.task.rooms.getD i 0)) := nv_at li
        have room7 : h.task.rooms.getD i 0 ≤ 7 := by
          have m : h.task.rooms.getD i 0 ∈ h.task.rooms := by
            rw [List.getD_eq_getElem?_getD, List.getElem?_eq_getElem li]
            exact List.getElem_mem li
          exact (ok.r2 _ m).2
        have fewE : (endsOf h.wish i es).length ≤ 1000 := by
          unfold endsOf
          rw [List.length_map]
          exact Nat.le_trans (Nat.le_trans (List.length_filter_le _ _) few) (by decide)
        refine ⟨_, rfl, _, rfl, x, C, dx2, _, .ref rl2, rfl, A2.obj, T.cl, T.n2, rfl, _, rfl, rl2, _, _, _, rfl, rfl, SqL.of A2.hrl, at_of (j := i) rfl rooms, D, as, endsOf h.wish i es, h.task.rooms.getD i 0, rfl, pa, fewE, room7, fun H3 p3 bs s3 n3 pb => ?_⟩
        have small : (h.task.front h.start h.wish i).length ≤ 8 := by
          rw [← frontE_eq ok set]
          unfold frontE
          refine Nat.le_trans (List.length_filterMap_le _ _) ?_
          rw [List.length_range]
          omega
        rw [frontE_eq ok set] at pb
        generalize efr : h.task.front h.start h.wish i = fr at pb small
        have wk3 := wk.same s3
        have lenF : (bs.map V.ref).length = fr.length := by rw [List.length_map, pb.len]
        refine ⟨_, rfl, p3, _, rfl, .inl (SqL.of pb.list), by show 1 ≤ sizeLine; decide, fun q hq => ?_⟩
        rw [lenF]
        have s4 := Same.upd (o := .lst [V.int (fr.length : Int)]) hq
        refine ⟨_, rfl, p3, rfl, ⟨_, SqL.of (s4 _ _ pb.list)⟩, for_list (K := K) (a := p3) (xs := bs.map V.ref) (fun n σ H' => (∃ v5 v6 v7 v8, σ = [some (.ref x), some (nv i), some (.ref D), some (.ref p3), some (.ref q), v5, v6, v7, v8]) ∧ Same H3 H' ∧ H' q = some (.lst (nvs (fr.length :: (fr.take n).flatMap fun e => [e.1, e.2])))) ?_ ?_ ?_ ?_⟩
        · exact ⟨⟨_, _, _, _, rfl⟩, s4, upd_same⟩
        · rintro n σ H' _ ⟨_, sm, _⟩
          exact SqL.of (sm _ _ pb.list)
        · rintro n v σ H' hv ⟨⟨v5, v6, v7, v8, rfl⟩, sm, hq'⟩
          obtain ⟨a, ha, rfl⟩ := map_at hv
          have ln : n < fr.length := by rw [← pb.len]; exact (List.getElem?_eq_some_iff.mp ha).1
          have he : fr[n]? = some fr[n] := List.getElem?_eq_getElem ln
          have tup := sm _ _ (pb.pair n a _ ha he)
          have lenT : ((fr.take n).flatMap fun e => [e.1, e.2]).length ≤ 16 := by
            have two : ∀ l : List (Nat × Nat), (l.flatMap fun e => [e.1, e.2]).length = 2 * l.length := fun l => by
              induction l with
              | nil => rfl
              | cons b l ih => rw [List.flatMap_cons, List.length_append, ih]; simp only [List.length_cons, List.length_nil]; omega
            rw [two, List.length_take]
            omega
          refine ⟨a, _, rfl, SqT.of tup, rfl, _, _, rfl, _, _, rfl, rfl, ?_⟩
          refine ⟨_, rfl, .inl ⟨rfl, _, SqL.of hq'⟩, _, rfl, _, rfl, by show 2 ≤ sizeLine; decide, fun t ht => ?_⟩
          have s5 := Same.upd (o := .lst [nv fr[n].1, nv fr[n].2]) ht
          have qt : q ≠ t := ne_of_none hq' ht
          refine ⟨q, t, _, _, rfl, rfl, s5 _ _ hq', upd_same, ?_, ⟨_, _, _, _, rfl⟩, same_put (sm.trans s5) hq, ?_⟩
          · simp only [List.length_map, List.length_cons, List.length_nil]
            exact Nat.le_trans (by omega : _ ≤ 100) (by decide)
          · rw [upd_same, take_more he, List.flatMap_append]
            simp [nvs]
        · rintro σ H' ⟨⟨v5, v6, v7, v8, rfl⟩, sm, hq'⟩
          rw [lenF, List.take_length] at hq'
          have wk5 := wk3.same sm
          refine ⟨_, rfl, k H' q wk5.ext wk5.tabs (.of wk3.ext hq) ?_⟩
          rw [hq']
          simp only [Pn06.step]
          rw [if_neg (by omega), efr]
          simp [Pn06Neutral.out, nvs, nv, List.map_flatMap]
end
end Tk
namespace Tk
open L2 LamX NdefX PySem PySem.Spec PyProof.Rows
theorem far_all {t : Pn06.Task} : ∀ {l : List Nat} {u v : Pn06.State} (n : Nat), walk t u l = some v → Pn06.far t n u l = (n + l.length, v)
  | [], u, v, n, h => by cases h; rfl
  | k :: l, u, v, n, h => by
    simp only [walk] at h
    cases e : t.then_ u k with
    | none => rw [e] at h; cases h
    | some y =>
      rw [e] at h
      simp only [Pn06.far, e, far_all (n + 1) h, List.length_cons]
      rw [Nat.add_assoc, Nat.add_comm 1]
theorem far_stop {t : Pn06.Task} : ∀ {l : List Nat} {i k : Nat} {u v : Pn06.State} (n : Nat), walk t u (l.take i) = some v → l[i]? = some k → t.then_ v k = none → Pn06.far t n u l = (n + i, v)
  | [], i, k, u, v, n, _, h, _ => by simp at h
  | a :: l, 0, k, u, v, n, h1, h2, h3 => by
    cases h1
    have e : a = k := by simpa using h2
    subst e
    simp only [Pn06.far, h3]
    rfl
  | a :: l, i + 1, k, u, v, n, h1, h2, h3 => by
    simp only [List.take_succ_cons, walk] at h1
    cases e : t.then_ u a with
    | none => rw [e] at h1; cases h1
    | some y =>
      rw [e] at h1
      have q := far_stop (n + 1) h1 (by simpa using h2) h3
      simp only [Pn06.far, e, q]
      rw [Nat.add_assoc, Nat.add_comm 1]
theorem three_new {H H1 : Hp} (sm : Same H H1) {q r b : Addr} {o1 o2 o3 : HO} (h1 : H1 q = none) (h2 : upd H1 q o1 r = none) (h3 : upd (upd H1 q o1) r o2 b = none) : Same H (upd (upd (upd H1 q o1) r o2) b o3) ∧ H b = none := by
  have s1 := sm.trans (Same.upd (o := o1) h1)
  have s2 := s1.trans (Same.upd (o := o2) h2)
  exact ⟨s2.trans (Same.upd h3), s2.free h3⟩
section
variable {P : Program} {w : World} {K : PySem.W.Frag} {mg : Str → Option Value} {base : Heap} {C CA : Addr}
def spBN (C CA : Addr) : Sp := fun vs H Q _ => ∃ (x ac g s : Addr) (h : Pn06.House) (n : Nat) (u : Pn06.State), vs = [.ref x, nv n, .ref s] ∧ HouseAt C CA H x ac g h ∧ HouseOk h ∧ H s = some (.tup (stv u)) ∧ u.in_.length = h.task.rooms.length ∧ gives H (h.task.then_ u n) Q
theorem scBN : FnScope ["self", "number", "state"] ["self", "number", "state"] (defScope sBN) := ⟨rfl, rfl, rfl, by decide +kernel, rfl, by decide +kernel, by decide +kernel⟩
theorem ok_BN {f fS : Addr} {fd fdS : FuncData} (F : Fun K "state_behind_numbered" "House.state_behind_numbered" sBN f fd) (T : TxH K mg C CA) (TA : TxA mg)
    (GS : FnOk P w K mg base CX0 2 fS fdS ["act", "state", "rooms"] (spSB CA)) (kS : PySem.W.keepIn K (.ref fS) = true) (bS : Binds K fdS ["act", "state", "rooms"] []) (gS : mg "state_behind" = some (.ref fS)) : FnOk P w K mg base CX0 3 f fd ["self", "number", "state"] (spBN C CA) := by
  refine F.ok scBN (fun vs H Q E h => ?_) (fun cdv A outer s H vs Q E hr h => ?_)
  · obtain ⟨x, ac, g, s, h, n, u, rfl, _⟩ := h
    rfl
  · obtain ⟨x, ac, g, s', h, n, u, rfl, ⟨dx, rl, am, wa, xs, A1⟩, ok, hs, lu, k⟩ := h
    refine ⟨_, pss_cons (ps_if (pt_cmp (pc_ge (pv 1) (pe_callB call_len_seq (by rfl) TA.len PySem.boot_len (pa_cons (pe_fld (pv 0) rfl) pa_nil)))) (pss_one (ps_ret pe_non)) pss_nil)
      (pss_one (ps_ret (pe_call GS hr rfl gS kS bS .nil pass0 (pa_cons (pe_ix ix_list (pe_fld (pv 0) rfl) (pv 1) (fun _ _ => rfl)) (pa_cons (pv 2) (pa_cons (pe_fld (pv 0) rfl) pa_nil)))))), ?_⟩
    refine ⟨_, rfl, _, rfl, x, C, dx, _, .ref ac, rfl, A1.obj, T.cl, T.n3, rfl, ac, _, rfl, .inl (SqL.of A1.hac), _, _, rfl, rfl, _, rfl, ?_⟩
    rw [List.length_map, A1.len]
    refine ifd (fun c => ?_) (fun c => ?_)
    · rw [then_out (by omega)] at k
      exact k H (Same.refl H)
    · have ln : n < h.task.acts.length := by omega
      have lx : n < xs.length := by rw [A1.len]; exact ln
      have hx : xs[n]? = some xs[n] := List.getElem?_eq_getElem lx
      have ha : h.task.acts[n]? = some h.task.acts[n] := List.getElem?_eq_getElem ln
      obtain ⟨sl, bs, q⟩ := A1.acts n _ _ hx ha
      rw [then_of ha] at k
      refine ⟨_, rfl, x, C, dx, _, .ref ac, rfl, A1.obj, T.cl, T.n3, rfl, _, rfl, ac, _, _, _, rfl, rfl, SqL.of A1.hac, at_of (j := n) (v := .ref xs[n]) rfl (by rw [List.getElem?_map, hx]; rfl), _, rfl, _, rfl, x, C, dx, _, .ref rl, rfl, A1.obj, T.cl, T.n2, rfl, ?_⟩
      exact ⟨xs[n], sl, s', rl, bs, h.task.acts[n], u, h.task.rooms, rfl, q.act, hs, A1.hrl, (ok.a2 _ (List.getElem_mem ln)).parts, lu, ok.r1, k⟩
def spCK (C CA : Addr) : Sp := fun vs H Q _ => ∃ (x ac g nl : Addr) (h : Pn06.House) (l : List Nat), vs = [.ref x, .ref nl] ∧ HouseAt C CA H x ac g h ∧ HouseOk h ∧ H nl = some (.lst (nvs l)) ∧ ∀ H' p, Same H H' → H p = none → H' p = some (.lst ((Pn06Neutral.out (Pn06.step h (.check l)).2).map V.int)) → Q (.ref p) H'
theorem scCK : FnScope ["self", "numbers", "state", "cost", "done", "number", "behind"] ["self", "numbers"] (defScope sCK) := ⟨rfl, rfl, rfl, by decide +kernel, rfl, by decide +kernel, by decide +kernel⟩
theorem ok_CK {f fS fB fI : Addr} {fd fdS fdB fdI : FuncData} (F : Fun K "check" "House.check" sCK f fd) (T : TxH K mg C CA) (TA : TxA mg) (TP : TxP mg) (GS : FnOk P w K mg base CX0 1 fS fdS ["self"] (spST C CA)) (bS : Binds K fdS ["self"] []) (mS : Meth K C "start_state" fS)
    (GB : FnOk P w K mg base CX0 3 fB fdB ["self", "number", "state"] (spBN C CA)) (bB : Binds K fdB ["self", "number", "state"] []) (mB : Meth K C "state_behind_numbered" fB)
    (GI : FnOk P w K mg base CX0 1 fI fdI ["self", "state"] (spIW C CA)) (bI : Binds K fdI ["self", "state"] []) (mI : Meth K C "is_as_wished" fI) : FnOk P w K mg base CX0 4 f fd ["self", "numbers"] (spCK C CA) := by
  refine F.ok scCK (fun vs H Q E h => ?_) (fun cdv A outer s H vs Q E hr h => ?_)
  · obtain ⟨x, ac, g, nl, h, l, rfl, _⟩ := h
    rfl
  · obtain ⟨x, ac, g, nl, h, l, rfl, hA, ok, hl, k⟩ := h
    refine ⟨_, pss_cons (ps_set (i := 2) scCK.nd rfl (Or.inl rfl) (pe_meth0 (pv 0) T.cl mS GS (hr.mono (by decide)) bS .nil pass0))
      (pss_cons (ps_set (i := 3) scCK.nd rfl (Or.inl rfl) pe_int)
      (pss_cons (ps_for PassesOwn.never rfl (pi_enum (by rfl) TA.enumerate (pa_cons (pv 1) pa_nil)) (pg_tup rfl (pgs_cons (pg_name (i := 4) scCK.nd rfl (Or.inl rfl)) (pgs_cons (pg_name (i := 5) scCK.nd rfl (Or.inl rfl)) pgs_nil)))
        (pss_cons (ps_set (i := 6) scCK.nd rfl (Or.inl rfl) (pe_meth (pv 0) T.cl mB GB hr bB .nil pass0 (pa_cons (pv 5) (pa_cons (pv 2) pa_nil))))
        (pss_cons (ps_if (pt_cmp (pc_isN (pv 6))) (pss_one (ps_ret (pe_op op_cat (pe_lst (pa_cons (pe_gint rfl TP.notDone) (pa_cons (pv 4) pa_nil))) (pe_callTy call_list_of (by rfl) TA.list (by decide +kernel) (pa_cons (pv 2) pa_nil))))) pss_nil)
        (pss_cons (ps_set (i := 2) scCK.nd rfl (Or.inl rfl) (pv 6))
        (pss_one (ps_set (i := 3) scCK.nd rfl (Or.inl rfl) (pe_op op_add (pv 3) (pe_fld (pe_ix ix_list (pe_fld (pv 0) rfl) (pv 5) (fun _ _ => rfl)) rfl))))))))
      (pss_cons (ps_if (pt_not (pt_val (pe_meth (pv 0) T.cl mI GI (hr.mono (by decide)) bI .nil pass0 (pa_cons (pv 2) pa_nil)))) (pss_one (ps_ret (pe_op op_cat (pe_lst (pa_cons (pe_gint rfl TP.notWished) pa_nil)) (pe_callTy call_list_of (by rfl) TA.list (by decide +kernel) (pa_cons (pv 2) pa_nil))))) pss_nil)
      (pss_one (ps_ret (pe_op op_cat (pe_lst (pa_cons (pv 3) pa_nil)) (pe_callTy call_list_of (by rfl) TA.list (by decide +kernel) (pa_cons (pv 2) pa_nil)))))))), ?_⟩
    obtain ⟨dx, rl, am, wa, xs, A1⟩ := id hA
    have few : ∀ {u : Pn06.State}, u.in_.length = h.task.rooms.length → (stv u).length ≤ 3 := fun {u} e => by
      have := ok.r1
      show (nvs (u.s :: u.in_)).length ≤ 3
      rw [List.length_map, List.length_cons]
      omega
    have lenOf : ∀ {l' : List Nat} {u : Pn06.State}, walk h.task h.start l' = some u → u.in_.length = h.task.rooms.length := fun hw => (walk_valid ok.wf ok.s1 hw).in_.len
    refine ⟨_, rfl, x, dx, _, rfl, A1.obj, rfl, x, ac, g, h, rfl, hA, ok, fun H1 p s1 np hp => ?_⟩
    refine ⟨_, rfl, nl, _, rfl, SqL.of (s1 _ _ hl), ?_⟩
    refine for_it (walk_enum (K := K) (a := nl) (xs := nvs l)) (fun i σ H' => ∃ sp u v4 v5 v6, σ = [some (.ref x), some (.ref nl), some (.ref sp), some (nv (h.task.price (l.take i))), v4, v5, v6] ∧ Same H H' ∧ H' sp = some (.tup (stv u)) ∧ walk h.task h.start (l.take i) = some u) ?_ ?_ ?_ ?_
    · exact ⟨p, h.start, _, _, _, rfl, s1, hp, rfl⟩
    · rintro i σ H' _ ⟨_, _, _, _, _, _, sm, _⟩
      exact SqL.of (sm _ _ hl)
    · rintro i v σ H' H2 li ⟨sp, u, v4, v5, v6, rfl, sm, hsp, hw⟩ ⟨T0, y, z, rfl, new, rfl, hy, hz⟩
      cases hy
      obtain ⟨n, hn, rfl⟩ := map_at hz
      have s2 := Same.upd (o := .tup [V.int (i : Nat), nv n]) new
      have sm2 := sm.trans s2
      refine ⟨T0, _, rfl, SqT.of upd_same, rfl, _, _, rfl, _, _, rfl, rfl, ?_⟩
      refine ⟨_, rfl, x, dx, _, rfl, sm2 _ _ A1.obj, rfl, _, rfl, _, rfl, x, ac, g, sp, h, n, u, rfl, hA.same sm2, ok, s2 _ _ hsp, lenOf hw, fun H3 s3 => ?_⟩
      have sm3 := sm2.trans s3
      cases e : h.task.then_ u n with
      | none =>
        refine ⟨_, rfl, _, rfl, ?_⟩
        have hsp3 := s3 _ _ (s2 _ _ hsp)
        refine ⟨_, rfl, by show 2 ≤ sizeLine; decide, fun q hq => ?_⟩
        have s4 := Same.upd (o := .lst [V.int (-5), V.int (i : Nat)]) hq
        refine ⟨_, rfl, sp, _, rfl, .inr (SqT.of (s4 _ _ hsp3)), fun r hr' => ?_⟩
        have qr : q ≠ r := ne_of_none upd_same hr'
        refine ⟨q, r, _, _, rfl, rfl, (upd_ne qr).trans upd_same, upd_same, ?_, fun b hb => ?_⟩
        · exact Nat.le_trans (by have := few (lenOf hw); show 2 + _ ≤ 10; omega) (by decide)
        · obtain ⟨f1, f2⟩ := three_new (o3 := .lst ([V.int (-5), V.int (i : Nat)] ++ stv u)) sm3 hq hr' hb
          refine k _ b f1 f2 ?_
          have far := far_stop (n := 0) hw hn e
          rw [upd_same]
          simp only [Pn06.step, far]
          rw [if_pos (by have := (List.getElem?_eq_some_iff.mp hn).1; omega)]
          simp [Pn06Neutral.out, nvs, nv]
      | some v =>
        intro t nt ht
        refine ⟨_, rfl, _, rfl, ?_⟩
        have ln := then_lt e
        have lx : n < xs.length := by rw [A1.len]; exact ln
        have hx : xs[n]? = some xs[n] := List.getElem?_eq_getElem lx
        have ha : h.task.acts[n]? = some h.task.acts[n] := List.getElem?_eq_getElem ln
        obtain ⟨sl, bs, q⟩ := A1.acts n _ _ hx ha
        obtain ⟨dy, hy⟩ := q.act.obj
        have cost : (h.task.act n).cost = h.task.acts[n].cost := by unfold Pn06.Task.act; rw [List.getD_eq_getElem?_getD, ha]; rfl
        refine ⟨_, rfl, ?_⟩
        refine ⟨_, rfl, _, rfl, x, C, dx, _, .ref ac, rfl, sm3 _ _ A1.obj, T.cl, T.n3, rfl, _, rfl, ac, _, _, _, rfl, rfl, SqL.of (sm3 _ _ A1.hac), at_of (j := n) (v := .ref xs[n]) rfl (by rw [List.getElem?_map, hx]; rfl), xs[n], CA, dy, _, nv h.task.acts[n].cost, rfl, sm3 _ _ hy, T.acl, T.a5, rfl, _, _, rfl, rfl, ?_⟩
        refine ⟨t, v, some (V.int (i : Nat)), some (nv n), some (.ref t), ?_, sm3, ht, ?_⟩
        · rw [take_more hn, price_snoc, cost]
          rfl
        · rw [take_more hn, walk_snoc, hw]
          exact e
    · rintro σ H2 ⟨sp, u, v4, v5, v6, rfl, sm, hsp, hw⟩
      rw [List.length_map, List.take_length] at hw
      have far := far_all (n := 0) hw
      refine ⟨_, rfl, x, dx, _, rfl, sm _ _ A1.obj, rfl, _, rfl, x, ac, g, sp, h, u, rfl, hA.same sm, ok, hsp, lenOf hw, fun H3 s3 => ⟨_, rfl, ?_⟩⟩
      have sm3 := sm.trans s3
      have hsp3 := s3 _ _ hsp
      simp only [Pn06.step, far] at k
      rw [if_neg (by omega)] at k
      refine ifnb (fun c => ?_) (fun c => ?_)
      · rw [if_pos c] at k
        refine ⟨by show 1 ≤ sizeLine; decide, fun q hq => ?_⟩
        have s4 := Same.upd (o := .lst [V.int (-3)]) hq
        refine ⟨_, rfl, sp, _, rfl, .inr (SqT.of (s4 _ _ hsp3)), fun r hr' => ?_⟩
        have qr : q ≠ r := ne_of_none upd_same hr'
        refine ⟨q, r, _, _, rfl, rfl, (upd_ne qr).trans upd_same, upd_same, ?_, fun b hb => ?_⟩
        · exact Nat.le_trans (by have := few (lenOf hw); show 1 + _ ≤ 10; omega) (by decide)
        · obtain ⟨f1, f2⟩ := three_new (o3 := .lst ([V.int (-3)] ++ stv u)) sm3 hq hr' hb
          refine k _ b f1 f2 ?_
          rw [upd_same]
          simp [Pn06Neutral.out, nvs, nv]
      · rw [if_neg (by simp [c])] at k
        refine ⟨_, rfl, by show 1 ≤ sizeLine; decide, fun q hq => ?_⟩
        have s4 := Same.upd (o := .lst [nv (h.task.price (l.take (nvs l).length))]) hq
        refine ⟨_, rfl, sp, _, rfl, .inr (SqT.of (s4 _ _ hsp3)), fun r hr' => ?_⟩
        have qr : q ≠ r := ne_of_none upd_same hr'
        refine ⟨q, r, _, _, rfl, rfl, (upd_ne qr).trans upd_same, upd_same, ?_, fun b hb => ?_⟩
        · exact Nat.le_trans (by have := few (lenOf hw); show 1 + _ ≤ 10; omega) (by decide)
        · obtain ⟨f1, f2⟩ := three_new (o3 := .lst ([nv (h.task.price (l.take (nvs l).length))] ++ stv u)) sm3 hq hr' hb
          refine k _ b f1 f2 ?_
          rw [upd_same, List.length_map, List.take_length]
          simp [Pn06Neutral.out, nvs, nv]
end
end Tk
namespace Tk
open L2 LamX NdefX PySem PySem.Spec PyProof.Rows
abbrev sAC : Stmt := top 50
structure TxN (mg : Str → Option Value) : Prop where
  begins : GI mg "BEGINS" 0
  act : GI mg "ACT" 1
  start : GI mg "START" 2
  wish : GI mg "WISH" 3
  plan : GI mg "PLAN" 4
  front : GI mg "FRONT" 5
  check : GI mg "CHECK" 6
  reach : GI mg "REACH" 7
theorem skip {n m : Int} {A B : Prop} (h : n ≠ m) (b : B) : if decide (n = m) = true then A else B := by
  rw [decide_eq_false h, if_neg Bool.false_ne_true]
  exact b
theorem hit {n m : Int} {A B : Prop} (h : n = m) (a : A) : if decide (n = m) = true then A else B := by
  rw [decide_eq_true h, if_pos rfl]
  exact a
/-- all but tables and what stands at x and at ac stays -/
def Kept2N (x ac : Addr) (H H' : Hp) : Prop := ∀ b o, H b = some o → (∀ ps, o ≠ .tbl ps) → b ≠ x → b ≠ ac → H' b = some o
theorem Kept2.n {x ac : Addr} {H H' : Hp} (k : Kept2 x ac H H') : Kept2N x ac H H' := fun b o h _ n m => k b o h n m
theorem ext_kept2 {x ac : Addr} {H H' : Hp} (k : ExtN H H') : Kept2N x ac H H' := fun b o h t _ _ => k b o h t
/-- one call on a house -/
def spACT (C CA CC tab : Addr) : Sp := fun vs H Q _ => ∃ (x ac g c wa la : Addr) (as : List Addr) (ys : List V) (h : Pn06.House) (y : Pn06.Call), vs = [.ref x, .ref c] ∧ HouseAt C CA H x ac g h ∧ HouseOk h ∧ small y ∧ H g = some (.lst ys) ∧
  CallAt CC H c wa la as (wire y).1 (wire y).2.1 (wire y).2.2 ∧ (wa ≠ ac ∧ wa ≠ g ∧ la ≠ ac ∧ la ≠ g ∧ ac ∉ as ∧ g ∉ as) ∧ Tabs (Tab1 tab) H ∧
  ∀ (H' : Hp) (ac' q : Addr), (ac' = ac ∨ H ac' = none) → HouseAt C CA H' x ac' g (Pn06.step h y).1 → Kept2N x ac H H' → Tabs (Tab1 tab) H' → NewN H q → H' q = some (.lst (outV (Pn06.step h y).2)) → Q (.ref q) H'
theorem ins_code {C dx : Addr} {fs : List (Str × V)} : ∀ c q, HO.ins C dx fs ≠ CodeO c q := fun c q z => by unfold CodeO at z; cases z
theorem lst_code {xs : List V} : ∀ c q, HO.lst xs ≠ CodeO c q := fun c q z => by unfold CodeO at z; cases z
section
variable {P : Program} {w : World} {K : PySem.W.Frag} {mg : Str → Option Value} {base : Heap} {C CA CR CC : Addr}
theorem scAC : FnScope ["house", "call"] ["house", "call"] (defScope sAC) := ⟨rfl, rfl, rfl, by decide +kernel, rfl, by decide +kernel, by decide +kernel⟩
theorem ok_AC {f f0 f1 f2 f3 f4 f5 f6 f7 tab : Addr} {fd fd0 fd1 fd2 fd3 fd4 fd5 fd6 fd7 : FuncData} (F : Fun K "answer_call" "answer_call" sAC f fd) (T : TxH K mg C CA) (TR : TxR K mg CR CC) (TN : TxN mg)
    (G0 : FnOk P w K mg base CX0 2 f0 fd0 ["self", "fact_count", "rooms"] (spHB C CA)) (b0 : Binds K fd0 ["self", "fact_count", "rooms"] []) (m0 : Meth K C "begin" f0)
    (G1 : FnOk P w K mg base CX0 3 f1 fd1 ["self", "numbers", "stores"] (spHA C CA)) (b1 : Binds K fd1 ["self", "numbers", "stores"] []) (m1 : Meth K C "add_act" f1)
    (G2 : FnOk P w K mg base CX0 3 f2 fd2 ["self", "so", "amounts"] (spHS C CA)) (b2 : Binds K fd2 ["self", "so", "amounts"] []) (m2 : Meth K C "set_start" f2)
    (G3 : FnOk P w K mg base CX0 3 f3 fd3 ["self", "facts", "amounts"] (spHW C CA)) (b3 : Binds K fd3 ["self", "facts", "amounts"] []) (m3 : Meth K C "set_wish" f3)
    (G4 : FnOk P w K mg base CX0 6 f4 fd4 ["self"] (spTP C CA tab)) (b4 : Binds K fd4 ["self"] []) (m4 : Meth K C "tell_plan" f4)
    (G5 : FnOk P w K mg base CX0 6 f5 fd5 ["self", "store"] (spTF C CA tab)) (b5 : Binds K fd5 ["self", "store"] []) (m5 : Meth K C "tell_front" f5)
    (G6 : FnOk P w K mg base CX0 4 f6 fd6 ["self", "numbers"] (spCK C CA)) (b6 : Binds K fd6 ["self", "numbers"] []) (m6 : Meth K C "check" f6)
    (G7 : FnOk P w K mg base CX0 6 f7 fd7 ["self"] (spCR C CA tab)) (b7 : Binds K fd7 ["self"] []) (m7 : Meth K C "count_reached" f7)
    : FnOk P w K mg base CX0 7 f fd ["house", "call"] (spACT C CA CC tab) := by
  refine F.ok scAC (fun vs H Q E h => ?_) (fun cdv A outer s H vs Q E hr h => ?_)
  · obtain ⟨x, ac, g, c, wa, la, as, ys, h, y, rfl, _⟩ := h
    rfl
  · obtain ⟨x, ac, g, c, wa, la, as, ys, h, y, rfl, hA, ok, sm, hg, ca, ⟨w1, w2, l1, l2, a1, a2⟩, tabs, k⟩ := h
    refine ⟨_, pss_cons (ps_if (pt_cmp (pc_eqI (pe_fld (pv 1) rfl) (pe_gint rfl TN.begins))) (pss_one (ps_ret (pe_lst (pa_cons (pe_meth (pv 0) T.cl m0 G0 (hr.mono (by decide)) b0 .nil pass0 (pa_cons (pe_ix ix_list (pe_fld (pv 1) rfl) pe_int (fun _ _ => rfl)) (pa_cons (pe_ix ix_list (pe_fld (pv 1) rfl) pe_int (fun _ _ => rfl)) pa_nil))) pa_nil)))) pss_nil)
      (pss_cons (ps_if (pt_cmp (pc_eqI (pe_fld (pv 1) rfl) (pe_gint rfl TN.act))) (pss_one (ps_ret (pe_lst (pa_cons (pe_meth (pv 0) T.cl m1 G1 (hr.mono (by decide)) b1 .nil pass0 (pa_cons (pe_ix ix_list (pe_fld (pv 1) rfl) pe_int (fun _ _ => rfl)) (pa_cons (pe_slice sl_list (pe_fld (pv 1) rfl) (po_some pe_int) po_none) pa_nil))) pa_nil)))) pss_nil)
      (pss_cons (ps_if (pt_cmp (pc_eqI (pe_fld (pv 1) rfl) (pe_gint rfl TN.start))) (pss_one (ps_ret (pe_lst (pa_cons (pe_meth (pv 0) T.cl m2 G2 (hr.mono (by decide)) b2 .nil pass0 (pa_cons (pe_ix ix_list (pe_fld (pv 1) rfl) pe_int (fun _ _ => rfl)) (pa_cons (pe_ix ix_list (pe_fld (pv 1) rfl) pe_int (fun _ _ => rfl)) pa_nil))) pa_nil)))) pss_nil)
      (pss_cons (ps_if (pt_cmp (pc_eqI (pe_fld (pv 1) rfl) (pe_gint rfl TN.wish))) (pss_one (ps_ret (pe_lst (pa_cons (pe_meth (pv 0) T.cl m3 G3 (hr.mono (by decide)) b3 .nil pass0 (pa_cons (pe_ix ix_list (pe_fld (pv 1) rfl) pe_int (fun _ _ => rfl)) (pa_cons (pe_ix ix_list (pe_fld (pv 1) rfl) pe_int (fun _ _ => rfl)) pa_nil))) pa_nil)))) pss_nil)
      (pss_cons (ps_if (pt_cmp (pc_eqI (pe_fld (pv 1) rfl) (pe_gint rfl TN.plan))) (pss_one (ps_ret (pe_meth0 (pv 0) T.cl m4 G4 hr b4 .nil pass0))) pss_nil)
      (pss_cons (ps_if (pt_cmp (pc_eqI (pe_fld (pv 1) rfl) (pe_gint rfl TN.front))) (pss_one (ps_ret (pe_meth (pv 0) T.cl m5 G5 hr b5 .nil pass0 (pa_cons (pe_ix ix_list (pe_fld (pv 1) rfl) pe_int (fun _ _ => rfl)) pa_nil)))) pss_nil)
      (pss_cons (ps_if (pt_cmp (pc_eqI (pe_fld (pv 1) rfl) (pe_gint rfl TN.check))) (pss_one (ps_ret (pe_meth (pv 0) T.cl m6 G6 (hr.mono (by decide)) b6 .nil pass0 (pa_cons (pe_ix ix_list (pe_fld (pv 1) rfl) pe_int (fun _ _ => rfl)) pa_nil)))) pss_nil)
      (pss_cons (ps_if (pt_cmp (pc_eqI (pe_fld (pv 1) rfl) (pe_gint rfl TN.reach))) (pss_one (ps_ret (pe_lst (pa_cons (pe_meth0 (pv 0) T.cl m7 G7 hr b7 .nil pass0) pa_nil)))) pss_nil)
      (pss_one ps_never)))))))), ?_⟩
    obtain ⟨dx, rl, am, wi, xs, A1⟩ := id hA
    obtain ⟨dc, hc⟩ := ca.obj
    -- the answer of one number
    have one : ∀ {H1 : Hp} {ac' : Addr} {v : Int}, (ac' = ac ∨ H ac' = none) → HouseAt C CA H1 x ac' g (Pn06.step h y).1 → Kept2N x ac H H1 → Tabs (Tab1 tab) H1 → (∀ q, H1 q = none → NewN H q) → outV (Pn06.step h y).2 = [V.int v] → ∀ q, H1 q = none → Q (.ref q) (upd H1 q (.lst [V.int v])) := fun {H1 ac' v} e1 e2 e3 e4 e6 e5 q hq => by
      have sq := Same.upd (o := .lst [V.int v]) hq
      exact k _ ac' q e1 (e2.same sq) (fun b o hb t n m => sq _ _ (e3 b o hb t n m)) (Tabs.same e4 sq) (e6 q hq) (by rw [upd_same, e5])
    have kx : ∀ {H1 : Hp} {ac' : Addr} {h' : Pn06.House}, Kept x H H1 → HouseAt C CA H1 x ac' g h' → Tabs (Tab1 tab) H1 ∧ ∀ q, H1 q = none → NewN H q := fun {H1 ac' h'} kp hh => by
      obtain ⟨dx', rl', am', wi', xs', A2⟩ := id hh
      refine ⟨Tabs.kept tabs kp A1.obj (fun ps z => nomatch z) ins_code, fun q hq => .none (kp.free hq ?_)⟩
      exact Ne.symm (ne_of_none A2.obj hq)

    cases y with
    | begins n l =>
      have hc : H c = some (.ins CC dc (caF 0 wa la)) := hc
      refine ⟨_, rfl, c, CC, dc, _, nv 0, rfl, hc, TR.ccl, TR.cN, rfl, _, _, rfl, rfl, _, rfl, hit (by decide) ?_⟩
      obtain ⟨b, rfl⟩ : ∃ b, as = [b] := List.length_eq_one_iff.mp ca.rows.len
      have hb : H b = some (.lst (nvs l)) := ca.rows.row 0 b l rfl rfl
      refine ⟨_, rfl, x, dx, _, rfl, A1.obj, rfl, _, rfl, c, CC, dc, _, .ref wa, rfl, hc, TR.ccl, TR.cW, rfl, wa, _, _, _, rfl, rfl, SqL.of ca.wh, at_of (j := 0) (v := nv n) rfl rfl,
        _, rfl, c, CC, dc, _, .ref la, rfl, hc, TR.ccl, TR.cL, rfl, la, _, _, _, rfl, rfl, SqL.of ca.ls, at_of (j := 0) (v := .ref b) rfl rfl, x, ac, g, b, _, h, n, l, rfl, hA, hg, ?_, hb, fun H1 ac' e1 e2 kp => ⟨by show 1 ≤ sizeLine; decide, one e1 e2 (Kept2.n kp.kept2) (kx kp e2).1 (kx kp e2).2 ?_⟩⟩
      · exact fun z => a2 (z ▸ List.mem_singleton.mpr rfl)
      · simp only [Pn06.step]
        split <;> rfl
    | act r ps =>
      have hc : H c = some (.ins CC dc (caF 1 wa la)) := hc
      refine ⟨_, rfl, c, CC, dc, _, nv 1, rfl, hc, TR.ccl, TR.cN, rfl, _, _, rfl, rfl, _, rfl, skip (by decide) ?_⟩
      refine ⟨_, rfl, c, CC, dc, _, nv 1, rfl, hc, TR.ccl, TR.cN, rfl, _, _, rfl, rfl, _, rfl, hit (by decide) ?_⟩
      obtain ⟨b, bs, rfl⟩ : ∃ b bs, as = b :: bs := List.exists_cons_of_length_eq_add_one ca.rows.len
      have hb : H b = some (.lst (nvs r)) := ca.rows.row 0 b r rfl rfl
      refine ⟨_, rfl, x, dx, _, rfl, A1.obj, rfl, _, rfl, c, CC, dc, _, .ref la, rfl, hc, TR.ccl, TR.cL, rfl, la, _, _, _, rfl, rfl, SqL.of ca.ls, at_of (j := 0) (v := .ref b) rfl rfl,
        _, rfl, c, CC, dc, _, .ref la, rfl, hc, TR.ccl, TR.cL, rfl, _, rfl, la, _, rfl, SqL.of ca.ls, fun p hp => ?_⟩
      rw [cut_one]
      have s1 := Same.upd (o := .lst (bs.map V.ref)) hp
      refine ⟨x, ac, g, b, p, bs, h, r, ps, rfl, hA.same s1, ok.a1, s1 _ _ hb, upd_same, Ne.symm (ne_of_none A1.hac hp), Ne.symm (ne_of_none hg hp), fun z => a1 (List.mem_cons_of_mem _ z), fun z => a2 (List.mem_cons_of_mem _ z), ?_, fun H1 e2 kp => ⟨by show 1 ≤ sizeLine; decide, one (.inl rfl) e2 (fun b' o hb' _ n m => kp _ _ (s1 _ _ hb') m) ?_ (fun q hq => ?_) ?_⟩⟩
      · exact ⟨by simpa [wire] using ca.rows.len, fun i q t hq ht => s1 _ _ (ca.rows.row (i + 1) q t (by simpa using hq) (by simpa [wire] using ht))⟩
      · exact Tabs.kept (Tabs.same tabs s1) kp (s1 _ _ A1.hac) (fun ps z => nomatch z) lst_code
      · obtain ⟨dx', rl', am', wi', xs', A2⟩ := id e2
        exact .none (s1.free (kp.free hq (Ne.symm (ne_of_none A2.hac hq))))
      · simp only [Pn06.step]
        split
        · rfl
        · split <;> rfl
    | start n l =>
      have hc : H c = some (.ins CC dc (caF 2 wa la)) := hc
      refine ⟨_, rfl, c, CC, dc, _, nv 2, rfl, hc, TR.ccl, TR.cN, rfl, _, _, rfl, rfl, _, rfl, skip (by decide) ?_⟩
      refine ⟨_, rfl, c, CC, dc, _, nv 2, rfl, hc, TR.ccl, TR.cN, rfl, _, _, rfl, rfl, _, rfl, skip (by decide) ?_⟩
      refine ⟨_, rfl, c, CC, dc, _, nv 2, rfl, hc, TR.ccl, TR.cN, rfl, _, _, rfl, rfl, _, rfl, hit (by decide) ?_⟩
      obtain ⟨b, rfl⟩ : ∃ b, as = [b] := List.length_eq_one_iff.mp ca.rows.len
      have hb : H b = some (.lst (nvs l)) := ca.rows.row 0 b l rfl rfl
      refine ⟨_, rfl, x, dx, _, rfl, A1.obj, rfl, _, rfl, c, CC, dc, _, .ref wa, rfl, hc, TR.ccl, TR.cW, rfl, wa, _, _, _, rfl, rfl, SqL.of ca.wh, at_of (j := 0) (v := nv n) rfl rfl,
        _, rfl, c, CC, dc, _, .ref la, rfl, hc, TR.ccl, TR.cL, rfl, la, _, _, _, rfl, rfl, SqL.of ca.ls, at_of (j := 0) (v := .ref b) rfl rfl, x, ac, g, b, h, n, l, rfl, hA, hb, ?_, ?_, fun H1 e2 kp => ⟨by show 1 ≤ sizeLine; decide, one (.inl rfl) e2 (Kept2.n kp.kept2) (kx kp e2).1 (kx kp e2).2 ?_⟩⟩
      · exact fun z => a1 (z ▸ List.mem_singleton.mpr rfl)
      · exact fun z => a2 (z ▸ List.mem_singleton.mpr rfl)
      · simp only [Pn06.step]
        split <;> rfl
    | wish n l =>
      have hc : H c = some (.ins CC dc (caF 3 wa la)) := hc
      refine ⟨_, rfl, c, CC, dc, _, nv 3, rfl, hc, TR.ccl, TR.cN, rfl, _, _, rfl, rfl, _, rfl, skip (by decide) ?_⟩
      refine ⟨_, rfl, c, CC, dc, _, nv 3, rfl, hc, TR.ccl, TR.cN, rfl, _, _, rfl, rfl, _, rfl, skip (by decide) ?_⟩
      refine ⟨_, rfl, c, CC, dc, _, nv 3, rfl, hc, TR.ccl, TR.cN, rfl, _, _, rfl, rfl, _, rfl, skip (by decide) ?_⟩
      refine ⟨_, rfl, c, CC, dc, _, nv 3, rfl, hc, TR.ccl, TR.cN, rfl, _, _, rfl, rfl, _, rfl, hit (by decide) ?_⟩
      obtain ⟨b, rfl⟩ : ∃ b, as = [b] := List.length_eq_one_iff.mp ca.rows.len
      have hb : H b = some (.lst (nvs l)) := ca.rows.row 0 b l rfl rfl
      refine ⟨_, rfl, x, dx, _, rfl, A1.obj, rfl, _, rfl, c, CC, dc, _, .ref wa, rfl, hc, TR.ccl, TR.cW, rfl, wa, _, _, _, rfl, rfl, SqL.of ca.wh, at_of (j := 0) (v := nv n) rfl rfl,
        _, rfl, c, CC, dc, _, .ref la, rfl, hc, TR.ccl, TR.cL, rfl, la, _, _, _, rfl, rfl, SqL.of ca.ls, at_of (j := 0) (v := .ref b) rfl rfl, x, ac, g, b, h, n, l, rfl, hA, hb, ?_, ?_, fun H1 e2 kp => ⟨by show 1 ≤ sizeLine; decide, one (.inl rfl) e2 (Kept2.n kp.kept2) (kx kp e2).1 (kx kp e2).2 ?_⟩⟩
      · exact fun z => a1 (z ▸ List.mem_singleton.mpr rfl)
      · exact fun z => a2 (z ▸ List.mem_singleton.mpr rfl)
      · simp only [Pn06.step]
        split <;> rfl
    | plan =>
      have hc : H c = some (.ins CC dc (caF 4 wa la)) := hc
      refine ⟨_, rfl, c, CC, dc, _, nv 4, rfl, hc, TR.ccl, TR.cN, rfl, _, _, rfl, rfl, _, rfl, skip (by decide) ?_⟩
      refine ⟨_, rfl, c, CC, dc, _, nv 4, rfl, hc, TR.ccl, TR.cN, rfl, _, _, rfl, rfl, _, rfl, skip (by decide) ?_⟩
      refine ⟨_, rfl, c, CC, dc, _, nv 4, rfl, hc, TR.ccl, TR.cN, rfl, _, _, rfl, rfl, _, rfl, skip (by decide) ?_⟩
      refine ⟨_, rfl, c, CC, dc, _, nv 4, rfl, hc, TR.ccl, TR.cN, rfl, _, _, rfl, rfl, _, rfl, skip (by decide) ?_⟩
      refine ⟨_, rfl, c, CC, dc, _, nv 4, rfl, hc, TR.ccl, TR.cN, rfl, _, _, rfl, rfl, _, rfl, hit (by decide) ?_⟩
      exact ⟨_, rfl, x, dx, _, rfl, A1.obj, rfl, x, ac, g, h, rfl, hA, ok, tabs, fun H1 p e1 t1 n1 hp => k H1 ac p (.inl rfl) (hA.ext e1) (ext_kept2 e1) t1 n1 hp⟩
    | front i =>
      have hc : H c = some (.ins CC dc (caF 5 wa la)) := hc
      refine ⟨_, rfl, c, CC, dc, _, nv 5, rfl, hc, TR.ccl, TR.cN, rfl, _, _, rfl, rfl, _, rfl, skip (by decide) ?_⟩
      refine ⟨_, rfl, c, CC, dc, _, nv 5, rfl, hc, TR.ccl, TR.cN, rfl, _, _, rfl, rfl, _, rfl, skip (by decide) ?_⟩
      refine ⟨_, rfl, c, CC, dc, _, nv 5, rfl, hc, TR.ccl, TR.cN, rfl, _, _, rfl, rfl, _, rfl, skip (by decide) ?_⟩
      refine ⟨_, rfl, c, CC, dc, _, nv 5, rfl, hc, TR.ccl, TR.cN, rfl, _, _, rfl, rfl, _, rfl, skip (by decide) ?_⟩
      refine ⟨_, rfl, c, CC, dc, _, nv 5, rfl, hc, TR.ccl, TR.cN, rfl, _, _, rfl, rfl, _, rfl, skip (by decide) ?_⟩
      refine ⟨_, rfl, c, CC, dc, _, nv 5, rfl, hc, TR.ccl, TR.cN, rfl, _, _, rfl, rfl, _, rfl, hit (by decide) ?_⟩
      refine ⟨_, rfl, x, dx, _, rfl, A1.obj, rfl, _, rfl, c, CC, dc, _, .ref wa, rfl, hc, TR.ccl, TR.cW, rfl, wa, _, _, _, rfl, rfl, SqL.of ca.wh, at_of (j := 0) (v := nv i) rfl rfl, x, ac, g, h, i, rfl, hA, ok, tabs, fun H1 p e1 t1 n1 hp => k H1 ac p (.inl rfl) ?_ (ext_kept2 e1) t1 n1 hp⟩
      have e : (Pn06.step h (.front i)).1 = h := by
        simp only [Pn06.step]
        split <;> rfl
      rw [e]
      exact hA.ext e1
    | check l =>
      have hc : H c = some (.ins CC dc (caF 6 wa la)) := hc
      refine ⟨_, rfl, c, CC, dc, _, nv 6, rfl, hc, TR.ccl, TR.cN, rfl, _, _, rfl, rfl, _, rfl, skip (by decide) ?_⟩
      refine ⟨_, rfl, c, CC, dc, _, nv 6, rfl, hc, TR.ccl, TR.cN, rfl, _, _, rfl, rfl, _, rfl, skip (by decide) ?_⟩
      refine ⟨_, rfl, c, CC, dc, _, nv 6, rfl, hc, TR.ccl, TR.cN, rfl, _, _, rfl, rfl, _, rfl, skip (by decide) ?_⟩
      refine ⟨_, rfl, c, CC, dc, _, nv 6, rfl, hc, TR.ccl, TR.cN, rfl, _, _, rfl, rfl, _, rfl, skip (by decide) ?_⟩
      refine ⟨_, rfl, c, CC, dc, _, nv 6, rfl, hc, TR.ccl, TR.cN, rfl, _, _, rfl, rfl, _, rfl, skip (by decide) ?_⟩
      refine ⟨_, rfl, c, CC, dc, _, nv 6, rfl, hc, TR.ccl, TR.cN, rfl, _, _, rfl, rfl, _, rfl, skip (by decide) ?_⟩
      refine ⟨_, rfl, c, CC, dc, _, nv 6, rfl, hc, TR.ccl, TR.cN, rfl, _, _, rfl, rfl, _, rfl, hit (by decide) ?_⟩
      obtain ⟨b, rfl⟩ : ∃ b, as = [b] := List.length_eq_one_iff.mp ca.rows.len
      have hb : H b = some (.lst (nvs l)) := ca.rows.row 0 b l rfl rfl
      exact ⟨_, rfl, x, dx, _, rfl, A1.obj, rfl, _, rfl, c, CC, dc, _, .ref la, rfl, hc, TR.ccl, TR.cL, rfl, la, _, _, _, rfl, rfl, SqL.of ca.ls, at_of (j := 0) (v := .ref b) rfl rfl, x, ac, g, b, h, l, rfl, hA, ok, hb, fun H1 p s1 n1 hp => k H1 ac p (.inl rfl) (hA.same s1) (ext_kept2 (Same.ext s1)) (Tabs.same tabs s1) (.none n1) hp⟩
    | reach =>
      have hc : H c = some (.ins CC dc (caF 7 wa la)) := hc
      refine ⟨_, rfl, c, CC, dc, _, nv 7, rfl, hc, TR.ccl, TR.cN, rfl, _, _, rfl, rfl, _, rfl, skip (by decide) ?_⟩
      refine ⟨_, rfl, c, CC, dc, _, nv 7, rfl, hc, TR.ccl, TR.cN, rfl, _, _, rfl, rfl, _, rfl, skip (by decide) ?_⟩
      refine ⟨_, rfl, c, CC, dc, _, nv 7, rfl, hc, TR.ccl, TR.cN, rfl, _, _, rfl, rfl, _, rfl, skip (by decide) ?_⟩
      refine ⟨_, rfl, c, CC, dc, _, nv 7, rfl, hc, TR.ccl, TR.cN, rfl, _, _, rfl, rfl, _, rfl, skip (by decide) ?_⟩
      refine ⟨_, rfl, c, CC, dc, _, nv 7, rfl, hc, TR.ccl, TR.cN, rfl, _, _, rfl, rfl, _, rfl, skip (by decide) ?_⟩
      refine ⟨_, rfl, c, CC, dc, _, nv 7, rfl, hc, TR.ccl, TR.cN, rfl, _, _, rfl, rfl, _, rfl, skip (by decide) ?_⟩
      refine ⟨_, rfl, c, CC, dc, _, nv 7, rfl, hc, TR.ccl, TR.cN, rfl, _, _, rfl, rfl, _, rfl, skip (by decide) ?_⟩
      refine ⟨_, rfl, c, CC, dc, _, nv 7, rfl, hc, TR.ccl, TR.cN, rfl, _, _, rfl, rfl, _, rfl, hit (by decide) ?_⟩
      exact ⟨_, rfl, x, dx, _, rfl, A1.obj, rfl, x, ac, g, h, rfl, hA, ok, tabs, fun H1 e1 t1 => ⟨by show 1 ≤ sizeLine; decide, one (.inl rfl) (hA.ext e1) (ext_kept2 e1) t1 (fun q hq => .of e1 hq) rfl⟩⟩
end
end Tk
namespace Tk
open L2 LamX NdefX PySem PySem.Spec PyProof.Rows
def spANST (K : PySem.W.Frag) (tab : Addr) : Sp := fun vs H Q _ => ∃ (a : Addr) (l : List Nat) (xs : List Pn06.Call), vs = [.ref a] ∧ SqL K H a (nvs l) ∧ l = xs.flatMap enc ∧ (∀ y ∈ xs, small y) ∧ (run Pn06.init xs).length ≤ 1000060 ∧ Tabs (Tab1 tab) H ∧
  ∀ (H' : Hp) (p : Addr), H' p = some (.lst ((run Pn06.init xs).map V.int)) → Q (.ref p) H'
theorem ext_seq {K : PySem.W.Frag} {H H' : Hp} {a : Addr} {xs : List V} (e : ExtN H H') (h : SqL K H a xs) : SqL K H' a xs := by
  rcases h with h | h
  · rcases h with h | ⟨o, h⟩
    · exact .inl (.inl (e a _ h (fun ps z => nomatch z)))
    · exact .inl (.inr ⟨o, e a _ h (fun ps z => nomatch z)⟩)
  · exact .inr h
theorem Kept2N.ins {x ac : Addr} {H H' : Hp} {r C dr dx C' : Addr} {fs fs' : List (Str × V)} {zs : List V} (k : Kept2N x ac H H') (hr : H r = some (.ins C dr fs)) (hx : H x = some (.ins C' dx fs')) (hac : H ac = some (.lst zs)) (hl : fs.length ≠ fs'.length) : H' r = some (.ins C dr fs) := by
  refine k _ _ hr (fun ps z => nomatch z) (fun z => ?_) (Ne.symm (ins_ne hr hac))
  rw [z, hx] at hr
  injection hr with q
  injection q with _ _ q
  exact hl (by rw [q])
section
variable {P : Program} {w : World} {K : PySem.W.Frag} {mg : Str → Option Value} {base : Heap} {C CA CR CC : Addr}
theorem ok_ANST {f tab fA fR fM fI fH : Addr} {fd fdA fdR fdM fdI fdH : FuncData} (F : Fun K "answers" "answers" sANS f fd) (T : TxH K mg C CA) (TR : TxR K mg CR CC)
    (GA : FnOk P w K mg base CX0 7 fA fdA ["house", "call"] (spACT C CA CC tab)) (kpA : PySem.W.keepIn K (.ref fA) = true) (bA : Binds K fdA ["house", "call"] []) (gA : mg "answer_call" = some (.ref fA))
    (GR : FnOk P w K mg base CX0 4 fR fdR ["self"] (spRC K CR CC)) (bR : Binds K fdR ["self"] []) (mR : Meth K CR "read_call" fR)
    (GM : FnOk P w K mg base CX0 1 fM fdM ["self"] (spRM K CR)) (bM : Binds K fdM ["self"] []) (mM : Meth K CR "has_more" fM)
    (MI : Mk K CR fI) (GI : FnOk P w K mg base CX0 1 fI fdI ["self", "numbers"] (spRI CR)) (bI : Binds K fdI ["self", "numbers"] [])
    (MH : Mk K C fH) (GH : FnOk P w K mg base CX0 2 fH fdH ["self"] (spHI C CA)) (bH : Binds K fdH ["self"] []) :
    FnOk P w K mg base CX0 8 f fd ["calls"] (spANST K tab) := by
  refine F.ok scANS (fun vs H Q E h => ?_) (fun cdv A outer s H vs Q E hr h => ?_)
  · obtain ⟨a, l, xs, rfl, _⟩ := h
    rfl
  · obtain ⟨a, l, xs, rfl, hA, hl, hsm, hlen, tabs, k⟩ := h
    refine ⟨_, pss_cons (ps_set (i := 1) scANS.nd rfl (Or.inl rfl) (pe_make0 MH GH (hr.mono (by decide)) rfl T.gC bH .nil pass0))
      (pss_cons (ps_set (i := 2) scANS.nd rfl (Or.inl rfl) (pe_make MI GI (hr.mono (by decide)) rfl TR.gC bI .nil pass0 (pa_cons (pv 0) pa_nil)))
      (pss_cons (ps_set (i := 3) scANS.nd rfl (Or.inl rfl) (pe_lst pa_nil))
      (pss_cons (ps_while PassesOwn.never (pt_val (pe_meth0 (pv 2) TR.cl mM GM (hr.mono (by decide)) bM .nil pass0))
        (pss_cons (ps_set (i := 4) scANS.nd rfl (Or.inl rfl) (pe_call GA hr rfl gA kpA bA .nil pass0 (pa_cons (pv 1) (pa_cons (pe_meth0 (pv 2) TR.cl mR GR (hr.mono (by decide)) bR .nil pass0) pa_nil))))
        (pss_cons (ps_expr (pe_bm PySem.F.plainAttrs_list PySem.F.slot_list_append PySem.F.type_list_append mt_append (pv 3) (pa_cons (pe_callB call_len_seq (by rfl) T.len PySem.boot_len (pa_cons (pv 4) pa_nil)) pa_nil)))
        (pss_one (ps_expr (pe_bm PySem.F.plainAttrs_list PySem.F.slot_list_extend PySem.F.type_list_extend mt_extend (pv 3) (pa_cons (pv 4) pa_nil)))))))
      (pss_one (ps_ret (pv 3)))))), ?_⟩
    -- house = House()
    intro x dx nx ndx nex
    refine ⟨x, dx, rfl, upd_same, fun H1 ac hac hH1 k1 => ⟨rfl, ?_⟩⟩
    have s1 : Same H H1 := Same.made nx ndx k1
    -- reader = Reader(calls)
    refine ⟨_, rfl, fun r dr nr ndr ner => ?_⟩
    refine ⟨r, dr, a, rfl, upd_same, fun H2 ⟨dr2, hr2⟩ k2 => ⟨rfl, ?_⟩⟩
    have s2 : Same H1 H2 := Same.made nr ndr k2
    have hH2 := hH1.same s2
    -- given = []
    refine ⟨Nat.zero_le _, fun g hg => ?_⟩
    have s3 : Same H2 (upd H2 g (.lst [])) := Same.upd hg
    have hH3 := (hH2.regard hg).same s3
    have hr3 := s3 _ _ hr2
    have hg0 : H g = none := Same.free (s1.trans s2) hg
    have hr0 : H r = none := Same.free s1 nr
    have hx0 : H x = none := nx
    have hac0 : H ac = none := by
      have q1 : ac ≠ x := fun z => by rw [z, upd_same] at hac; cases hac
      rw [upd_ne q1] at hac
      have q2 : ac ≠ dx := fun z => by rw [z, upd_same] at hac; cases hac
      rw [upd_ne q2] at hac
      exact hac
    refine while_by (fun σ H' => ∃ (p : Nat) (ac dr : Addr) (h : Pn06.House) (ys : List Pn06.Call) (out : List Int) (v : Option V), σ = [some (.ref a), some (.ref x), some (.ref r), some (.ref g), v] ∧ ExtN H H' ∧ Tabs (Tab1 tab) H' ∧ NewN H ac ∧
        H' r = some (.ins CR dr (rdF a p)) ∧ l.drop p = ys.flatMap enc ∧ (∀ y ∈ ys, small y) ∧ HouseAt C CA H' x ac g h ∧ HouseOk h ∧ H' g = some (.lst (out.map V.int)) ∧ run Pn06.init xs = out ++ run h ys)
      (fun σ H' => match H' r with | some (.ins _ _ [_, (_, .int p)]) => l.length - p.toNat | _ => 0) ?_ ?_ ?_
    · refine ⟨0, ac, dr2, Pn06.init, xs, [], none, rfl, Same.ext ((s1.trans s2).trans s3), Tabs.same tabs ((s1.trans s2).trans s3), .none hac0, hr3, hl, hsm, hH3, init_ok, upd_same, rfl⟩
    · rintro σ H3 ⟨p, ac, dr, h, ys, out, v, rfl, sm, tb3, ac0, hr3, hd, hys, hH, hok, hg3, hrun⟩
      refine ⟨_, rfl, r, dr, _, rfl, hr3, rfl, r, a, l, p, rfl, ⟨dr, hr3⟩, ext_seq sm hA, _, rfl, ?_⟩
      refine ifd (fun c => ?_) (fun c => ?_)
      · -- a turn
        cases ys with
        | nil =>
          have := congrArg List.length hd
          rw [List.length_drop] at this
          simp at this
          omega
        | cons y ys =>
          have hy := hys y (by simp)
          rw [List.flatMap_cons] at hd
          refine ⟨_, rfl, _, rfl, r, dr, _, rfl, hr3, rfl, r, a, l, p, (wire y).1, (wire y).2.1, (wire y).2.2, _, rfl, ⟨dr, hr3⟩, ext_seq sm hA, wire_rows hy, hd, fun H4 c4 wa la as p' ⟨dr4, hr4⟩ hd4 k4 hC w0 l0 a0 => ?_⟩
          have hH4 := hH.ins hr3 (by show (2 : Nat) ≠ 6; decide) (by show (2 : Nat) ≠ 7; decide) k4
          have gr : g ≠ r := ins_ne hr3 hg3
          have hg4 := k4 _ _ hg3 gr
          obtain ⟨dx5, rl5, am5, wa5, xs5, A5⟩ := id hH
          have nac : ∀ b, H3 b = none → b ≠ ac := fun b hb => Ne.symm (ne_of_none A5.hac hb)
          have ng : ∀ b, H3 b = none → b ≠ g := fun b hb => Ne.symm (ne_of_none hg3 hb)
          have sm4 : ExtN H H4 := fun b o e t => k4 b o (sm b o e t) (fun z => by rw [z, hr0] at e; cases e)
          have tb4 := Tabs.kept tb3 k4 hr3 (fun ps z => nomatch z) ins_code
          refine ⟨x, ac, g, c4, wa, la, as, _, h, y, rfl, hH4, hok, hy, hg4, hC, ⟨nac _ w0, ng _ w0, nac _ l0, ng _ l0, fun z => nac _ (a0 _ z) rfl, fun z => ng _ (a0 _ z) rfl⟩, tb4, fun H5 ac' q hac' hH5 k5 tb5 q0 q5 => ?_⟩
          obtain ⟨dx6, rl6, am6, wa6, xs6, A6⟩ := id hH4
          have hg5 : H5 g = some (.lst (out.map V.int)) := k5 _ _ hg4 (fun ps z => nomatch z) (ins_ne A6.obj hg4) (Ne.symm A6.acg)
          have hr5 := Kept2N.ins k5 hr4 A6.obj A6.hac (by show (2 : Nat) ≠ 7; decide)
          have qg : q ≠ g := Ne.symm (q0.ne hg4 (fun ps z => nomatch z))
          have sm5 : ExtN H H5 := fun b o e t => k5 b o (sm4 b o e t) t (fun z => by rw [z, hx0] at e; cases e) (ac0.ne e t)
          have ac0' : NewN H ac' := by
            rcases hac' with rfl | e
            · exact ac0
            · exact .of sm4 e
          have hlen' : (out ++ run h (y :: ys)).length ≤ 1000060 := by rw [← hrun]; exact hlen
          simp only [run, List.length_append, List.length_cons] at hlen'
          have big : (2000000 : Nat) < sizeLine := by decide
          -- given.append(len(answer))
          refine ⟨_, rfl, .inl ⟨rfl, _, SqL.of hg5⟩, _, rfl, q, _, rfl, .inl (SqL.of q5), g, _, _, rfl, rfl, hg5, ?_, ?_⟩
          · rw [List.length_map]; omega
          have k6 : ∀ o, Kept g H5 (upd H5 g o) := fun o => kept_upd
          -- given.extend(answer)
          refine ⟨_, rfl, .inl ⟨rfl, _, SqL.of upd_same⟩, _, rfl, g, q, _, _, rfl, rfl, upd_same, k6 _ _ _ q5 qg, ?_, ?_⟩
          · simp only [List.length_append, List.length_map, List.length_cons, List.length_nil]; omega
          have k7 : ∀ o o', Kept g H5 (upd (upd H5 g o) g o') := fun o o' => kept_upd.trans kept_upd
          have tb7 := fun o o' => Tabs.kept tb5 (k7 o o') hg5 (fun ps z => nomatch z) lst_code
          refine ⟨⟨p', ac', dr4, (Pn06.step h y).1, ys, out ++ (((Pn06Neutral.out (Pn06.step h y).2).length : Int) :: Pn06Neutral.out (Pn06.step h y).2), _, rfl, ?_, tb7 _ _, ac0', k7 _ _ _ _ hr5 (Ne.symm gr), hd4, fun z hz => hys z (by simp [hz]), hH5.apart hg5 (k7 _ _), step_ok hok y, ?_, ?_⟩, ?_⟩
          · exact fun b o e t => k7 _ _ b o (sm5 b o e t) (fun z => by rw [z, hg0] at e; cases e)
          · rw [upd_same]
            simp [List.map_append, outV]
          · rw [hrun]; simp [run]
          · have e1 : upd (upd H5 g (.lst (out.map V.int ++ [V.int ((outV (Pn06.step h y).2).length : Int)]))) g (.lst (out.map V.int ++ [V.int ((outV (Pn06.step h y).2).length : Int)] ++ outV (Pn06.step h y).2)) r = some (.ins CR dr4 (rdF a p')) := k7 _ _ _ _ hr5 (Ne.symm gr)
            show (match upd (upd H5 g (.lst (out.map V.int ++ [V.int ((outV (Pn06.step h y).2).length : Int)]))) g (.lst (out.map V.int ++ [V.int ((outV (Pn06.step h y).2).length : Int)] ++ outV (Pn06.step h y).2)) r with | some (.ins _ _ [_, (_, .int p)]) => l.length - p.toNat | _ => 0) < (match H3 r with | some (.ins _ _ [_, (_, .int p)]) => l.length - p.toNat | _ => 0)
            rw [e1, hr3]
            show l.length - ((p' : Int)).toNat < l.length - ((p : Int)).toNat
            rw [Int.toNat_natCast, Int.toNat_natCast]
            have q1 := congrArg List.length hd
            have q2 := congrArg List.length hd4
            rw [List.length_drop, List.length_append] at q1
            rw [List.length_drop] at q2
            have := enc_pos y
            omega
      · cases ys with
        | nil =>
          refine ⟨_, rfl, k H3 g ?_⟩
          rw [hg3, hrun]
          simp [run]
        | cons y ys =>
          have := congrArg List.length hd
          rw [List.length_drop, List.flatMap_cons, List.length_append] at this
          have := enc_pos y
          omega
    · rintro σ H3 Q1 Q2 hm ⟨v, hv, r', dr', fs', e1, e2, e3, r2, a2, l2, p2, e4, e5, e6, c, ec, hq⟩
      exact ⟨v, hv, r', dr', fs', e1, e2, e3, r2, a2, l2, p2, e4, e5, e6, c, ec, hm _ _ hq⟩
end
end Tk
namespace Tk
open L2 LamX NdefX PySem PySem.Spec PyProof.Rows
open PySem.W (Codec WData)
theorem known1 {w : World} {K : PySem.W.Frag} {h : Heap} {q : Program} {loose : List Str} {mean : ExcName → Option Value} {mg mb : Str → Option Value} {fa : Addr} {rec : DefRec} (Tp : Top q loose mean mg mb h) (X : K.In h) (hfa : mg "answers" = some (.ref fa))
    (isRec : (recsOf q).find? (fun e => e.name == ("cheapest_state" : Str)) = some rec)
    {C_Act C_Call C_Reader C_UnknownCall C_House f_d0 f_d1 f_d2 f_d3 f_d4 f_d5 f_d6 f_d7 f_d8 f_d9 f_d10 f_d11 f_d12 f_d13 f_d14 f_d15 f_d16 f_d17 f_d18 f_d19 f_d20 f_d21 f_d22 c_d22 tb_d22 f_d23 f_d24 f_d25 f_d26 f_d27 f_d28 f_d29 f_d30 f_d31 f_d32 f_d33 f_d34 f_d35 f_d36 f_d37 f_d38 f_d39 f_d40 f_d41 : Addr} {od_d0 an_d0 od_d1 an_d1 od_d2 an_d2 od_d3 an_d3 od_d4 an_d4 od_d5 an_d5 od_d6 an_d6 od_d7 an_d7 od_d8 an_d8 od_d9 an_d9 od_d10 an_d10 od_d11 an_d11 od_d12 an_d12 od_d13 an_d13 od_d14 an_d14 od_d15 an_d15 od_d16 an_d16 od_d17 an_d17 od_d18 an_d18 od_d19 an_d19 od_d20 an_d20 od_d21 an_d21 od_d22 an_d22 od_d23 an_d23 od_d24 an_d24 od_d25 an_d25 od_d26 an_d26 od_d27 an_d27 od_d28 an_d28 od_d29 an_d29 od_d30 an_d30 od_d31 an_d31 od_d32 an_d32 od_d33 an_d33 od_d34 an_d34 od_d35 an_d35 od_d36 an_d36 od_d37 an_d37 od_d38 an_d38 od_d39 an_d39 od_d40 an_d40 od_d41 an_d41 : Option Addr} {sl_d0 sl_d1 sl_d2 sl_d3 sl_d4 sl_d5 sl_d6 sl_d7 sl_d8 sl_d9 sl_d10 sl_d11 sl_d12 sl_d13 sl_d14 sl_d15 sl_d16 sl_d17 sl_d18 sl_d19 sl_d20 sl_d21 sl_d22 sl_d23 sl_d24 sl_d25 sl_d26 sl_d27 sl_d28 sl_d29 sl_d30 sl_d31 sl_d32 sl_d33 sl_d34 sl_d35 sl_d36 sl_d37 sl_d38 sl_d39 sl_d40 sl_d41 : Array (Option Value)} {oc_d0 kV_d0 dc_d0 pm_d0 cd_d0 ct_d0 oc_d1 kV_d1 dc_d1 pm_d1 cd_d1 ct_d1 oc_d2 kV_d2 dc_d2 pm_d2 cd_d2 ct_d2 oc_d3 kV_d3 dc_d3 pm_d3 cd_d3 ct_d3 oc_d4 kV_d4 dc_d4 pm_d4 cd_d4 ct_d4 oc_d5 kV_d5 dc_d5 pm_d5 cd_d5 ct_d5 oc_d6 kV_d6 dc_d6 pm_d6 cd_d6 ct_d6 oc_d7 kV_d7 dc_d7 pm_d7 cd_d7 ct_d7 oc_d8 kV_d8 dc_d8 pm_d8 cd_d8 ct_d8 oc_d9 kV_d9 dc_d9 pm_d9 cd_d9 ct_d9 oc_d10 kV_d10 dc_d10 pm_d10 cd_d10 ct_d10 oc_d11 kV_d11 dc_d11 pm_d11 cd_d11 ct_d11 oc_d12 kV_d12 dc_d12 pm_d12 cd_d12 ct_d12 oc_d13 kV_d13 dc_d13 pm_d13 cd_d13 ct_d13 oc_d14 kV_d14 dc_d14 pm_d14 cd_d14 ct_d14 oc_d15 kV_d15 dc_d15 pm_d15 cd_d15 ct_d15 oc_d16 kV_d16 dc_d16 pm_d16 cd_d16 ct_d16 oc_d17 kV_d17 dc_d17 pm_d17 cd_d17 ct_d17 oc_d18 kV_d18 dc_d18 pm_d18 cd_d18 ct_d18 oc_d19 kV_d19 dc_d19 pm_d19 cd_d19 ct_d19 oc_d20 kV_d20 dc_d20 pm_d20 cd_d20 ct_d20 oc_d21 kV_d21 dc_d21 pm_d21 cd_d21 ct_d21 oc_d22 kV_d22 dc_d22 pm_d22 ct_d22 oc_d23 kV_d23 dc_d23 pm_d23 cd_d23 ct_d23 oc_d24 kV_d24 dc_d24 pm_d24 cd_d24 ct_d24 oc_d25 kV_d25 dc_d25 pm_d25 cd_d25 ct_d25 oc_d26 kV_d26 dc_d26 pm_d26 cd_d26 ct_d26 oc_d27 kV_d27 dc_d27 pm_d27 cd_d27 ct_d27 oc_d28 kV_d28 dc_d28 pm_d28 cd_d28 ct_d28 oc_d29 kV_d29 dc_d29 pm_d29 cd_d29 ct_d29 oc_d30 kV_d30 dc_d30 pm_d30 cd_d30 ct_d30 oc_d31 kV_d31 dc_d31 pm_d31 cd_d31 ct_d31 oc_d32 kV_d32 dc_d32 pm_d32 cd_d32 ct_d32 oc_d33 kV_d33 dc_d33 pm_d33 cd_d33 ct_d33 oc_d34 kV_d34 dc_d34 pm_d34 cd_d34 ct_d34 oc_d35 kV_d35 dc_d35 pm_d35 cd_d35 ct_d35 oc_d36 kV_d36 dc_d36 pm_d36 cd_d36 ct_d36 oc_d37 kV_d37 dc_d37 pm_d37 cd_d37 ct_d37 oc_d38 kV_d38 dc_d38 pm_d38 cd_d38 ct_d38 oc_d39 kV_d39 dc_d39 pm_d39 cd_d39 ct_d39 oc_d40 kV_d40 dc_d40 pm_d40 cd_d40 ct_d40 oc_d41 kV_d41 dc_d41 pm_d41 cd_d41 ct_d41 : Value} {t_MOST_FACTS t_MOST_STORES t_MOST_ROOM t_MOST_COST t_ACT_NUMBERS t_STORE_NUMBERS t_BEGINS t_ACT t_START t_WISH t_PLAN t_FRONT t_CHECK t_REACH t_DONE t_WRONG t_NO_STORE t_NOT_AS_WISHED t_NOT_TO_BE_DONE t_NO_PLAN t_FULL t_MOST_ACTS : Tok}
    (aC_Act : PySem.W.nsIn K mainGlobals "Act" = some (some (.ref C_Act)))
    (pg_Act : PySem.W.plainGet K C_Act Str.empty = true)
    (hd_Act : PySem.W.hasDictIn K C_Act = true)
    (po_Act : PySem.W.plainOver K C_Act = true)
    (sa_Act : PySem.W.findIn K (.ref C_Act) "__setattr__" = some (some (.builtin "object.__setattr__")))
    (mk_Act : PySem.W.makesIn K C_Act = true)
    (kc_Act : PySem.W.keepIn K (.ref C_Act) = true)
    (n_Act_needed : PySem.W.findIn K (.ref C_Act) "needed" = some none)
    (n_Act_barred : PySem.W.findIn K (.ref C_Act) "barred" = some none)
    (n_Act_brought : PySem.W.findIn K (.ref C_Act) "brought" = some none)
    (n_Act_taken : PySem.W.findIn K (.ref C_Act) "taken" = some none)
    (n_Act_cost : PySem.W.findIn K (.ref C_Act) "cost" = some none)
    (n_Act_stores : PySem.W.findIn K (.ref C_Act) "stores" = some none)
    (aC_Call : PySem.W.nsIn K mainGlobals "Call" = some (some (.ref C_Call)))
    (pg_Call : PySem.W.plainGet K C_Call Str.empty = true)
    (hd_Call : PySem.W.hasDictIn K C_Call = true)
    (po_Call : PySem.W.plainOver K C_Call = true)
    (sa_Call : PySem.W.findIn K (.ref C_Call) "__setattr__" = some (some (.builtin "object.__setattr__")))
    (mk_Call : PySem.W.makesIn K C_Call = true)
    (kc_Call : PySem.W.keepIn K (.ref C_Call) = true)
    (n_Call_number : PySem.W.findIn K (.ref C_Call) "number" = some none)
    (n_Call_wholes : PySem.W.findIn K (.ref C_Call) "wholes" = some none)
    (n_Call_lists : PySem.W.findIn K (.ref C_Call) "lists" = some none)
    (aC_Reader : PySem.W.nsIn K mainGlobals "Reader" = some (some (.ref C_Reader)))
    (pg_Reader : PySem.W.plainGet K C_Reader Str.empty = true)
    (hd_Reader : PySem.W.hasDictIn K C_Reader = true)
    (po_Reader : PySem.W.plainOver K C_Reader = true)
    (sa_Reader : PySem.W.findIn K (.ref C_Reader) "__setattr__" = some (some (.builtin "object.__setattr__")))
    (mk_Reader : PySem.W.makesIn K C_Reader = true)
    (kc_Reader : PySem.W.keepIn K (.ref C_Reader) = true)
    (n_Reader_numbers : PySem.W.findIn K (.ref C_Reader) "numbers" = some none)
    (n_Reader_place : PySem.W.findIn K (.ref C_Reader) "place" = some none)
    (aC_UnknownCall : PySem.W.nsIn K mainGlobals "UnknownCall" = some (some (.ref C_UnknownCall)))
    (xF_UnknownCall : PySem.W.excIn K C_UnknownCall [.type "Exception", .type "BaseException", .type "object"] "Exception.__new__" = true)
    (kF_UnknownCall : PySem.W.keepIn K (.ref C_UnknownCall) = true)
    (bF_UnknownCall : PySem.W.subIn K (.ref C_UnknownCall) (.type "BaseException") = some true)
    (tF_UnknownCall : PySem.W.typeIn K (.ref C_UnknownCall) = some (.type "type"))
    (aC_House : PySem.W.nsIn K mainGlobals "House" = some (some (.ref C_House)))
    (pg_House : PySem.W.plainGet K C_House Str.empty = true)
    (hd_House : PySem.W.hasDictIn K C_House = true)
    (po_House : PySem.W.plainOver K C_House = true)
    (sa_House : PySem.W.findIn K (.ref C_House) "__setattr__" = some (some (.builtin "object.__setattr__")))
    (mk_House : PySem.W.makesIn K C_House = true)
    (kc_House : PySem.W.keepIn K (.ref C_House) = true)
    (n_House_fact_count : PySem.W.findIn K (.ref C_House) "fact_count" = some none)
    (n_House_rooms : PySem.W.findIn K (.ref C_House) "rooms" = some none)
    (n_House_acts : PySem.W.findIn K (.ref C_House) "acts" = some none)
    (n_House_so : PySem.W.findIn K (.ref C_House) "so" = some none)
    (n_House_amounts : PySem.W.findIn K (.ref C_House) "amounts" = some none)
    (n_House_wished_facts : PySem.W.findIn K (.ref C_House) "wished_facts" = some none)
    (n_House_wished_amounts : PySem.W.findIn K (.ref C_House) "wished_amounts" = some none)
    (a_d0 : PySem.W.findIn K (.ref C_Act) "__init__" = some (some (.ref f_d0)))
    (i_d0 : PySem.W.isFn K (.ref f_d0) = true)
    (l_d0 : K.lookup f_d0 = some ⟨oc_d0, od_d0, .func (PySem.W.fnOf "__init__" "Act.__init__" (defArgs (inClass (top 1) 0)) (defBody (inClass (top 1) 0)) (defScope (inClass (top 1) 0)) .none kV_d0 dc_d0 pm_d0 an_d0 cd_d0 ct_d0), sl_d0⟩)
    (c_d0 : PySem.W.codeIn K cd_d0 "Act.__init__" = true)
    (k_d0 : PySem.W.keepIn K (.ref f_d0) = true)
    (a_d1 : PySem.W.nsIn K mainGlobals "facts_allow" = some (some (.ref f_d1)))
    (l_d1 : K.lookup f_d1 = some ⟨oc_d1, od_d1, .func (PySem.W.fnOf "facts_allow" "facts_allow" (defArgs (top 2)) (defBody (top 2)) (defScope (top 2)) .none kV_d1 dc_d1 pm_d1 an_d1 cd_d1 ct_d1), sl_d1⟩)
    (c_d1 : PySem.W.codeIn K cd_d1 "facts_allow" = true)
    (k_d1 : PySem.W.keepIn K (.ref f_d1) = true)
    (a_d2 : PySem.W.nsIn K mainGlobals "facts_behind" = some (some (.ref f_d2)))
    (l_d2 : K.lookup f_d2 = some ⟨oc_d2, od_d2, .func (PySem.W.fnOf "facts_behind" "facts_behind" (defArgs (top 3)) (defBody (top 3)) (defScope (top 3)) .none kV_d2 dc_d2 pm_d2 an_d2 cd_d2 ct_d2), sl_d2⟩)
    (c_d2 : PySem.W.codeIn K cd_d2 "facts_behind" = true)
    (k_d2 : PySem.W.keepIn K (.ref f_d2) = true)
    (a_d3 : PySem.W.nsIn K mainGlobals "amount_behind" = some (some (.ref f_d3)))
    (l_d3 : K.lookup f_d3 = some ⟨oc_d3, od_d3, .func (PySem.W.fnOf "amount_behind" "amount_behind" (defArgs (top 4)) (defBody (top 4)) (defScope (top 4)) .none kV_d3 dc_d3 pm_d3 an_d3 cd_d3 ct_d3), sl_d3⟩)
    (c_d3 : PySem.W.codeIn K cd_d3 "amount_behind" = true)
    (k_d3 : PySem.W.keepIn K (.ref f_d3) = true)
    (a_d4 : PySem.W.nsIn K mainGlobals "state_behind" = some (some (.ref f_d4)))
    (l_d4 : K.lookup f_d4 = some ⟨oc_d4, od_d4, .func (PySem.W.fnOf "state_behind" "state_behind" (defArgs (top 5)) (defBody (top 5)) (defScope (top 5)) .none kV_d4 dc_d4 pm_d4 an_d4 cd_d4 ct_d4), sl_d4⟩)
    (c_d4 : PySem.W.codeIn K cd_d4 "state_behind" = true)
    (k_d4 : PySem.W.keepIn K (.ref f_d4) = true)
    (a_d5 : PySem.W.nsIn K mainGlobals "fact_count_fits" = some (some (.ref f_d5)))
    (l_d5 : K.lookup f_d5 = some ⟨oc_d5, od_d5, .func (PySem.W.fnOf "fact_count_fits" "fact_count_fits" (defArgs (top 13)) (defBody (top 13)) (defScope (top 13)) .none kV_d5 dc_d5 pm_d5 an_d5 cd_d5 ct_d5), sl_d5⟩)
    (c_d5 : PySem.W.codeIn K cd_d5 "fact_count_fits" = true)
    (k_d5 : PySem.W.keepIn K (.ref f_d5) = true)
    (a_d6 : PySem.W.nsIn K mainGlobals "rooms_fit" = some (some (.ref f_d6)))
    (l_d6 : K.lookup f_d6 = some ⟨oc_d6, od_d6, .func (PySem.W.fnOf "rooms_fit" "rooms_fit" (defArgs (top 14)) (defBody (top 14)) (defScope (top 14)) .none kV_d6 dc_d6 pm_d6 an_d6 cd_d6 ct_d6), sl_d6⟩)
    (c_d6 : PySem.W.codeIn K cd_d6 "rooms_fit" = true)
    (k_d6 : PySem.W.keepIn K (.ref f_d6) = true)
    (a_d7 : PySem.W.nsIn K mainGlobals "facts_fit" = some (some (.ref f_d7)))
    (l_d7 : K.lookup f_d7 = some ⟨oc_d7, od_d7, .func (PySem.W.fnOf "facts_fit" "facts_fit" (defArgs (top 15)) (defBody (top 15)) (defScope (top 15)) .none kV_d7 dc_d7 pm_d7 an_d7 cd_d7 ct_d7), sl_d7⟩)
    (c_d7 : PySem.W.codeIn K cd_d7 "facts_fit" = true)
    (k_d7 : PySem.W.keepIn K (.ref f_d7) = true)
    (a_d8 : PySem.W.nsIn K mainGlobals "amounts_fit" = some (some (.ref f_d8)))
    (l_d8 : K.lookup f_d8 = some ⟨oc_d8, od_d8, .func (PySem.W.fnOf "amounts_fit" "amounts_fit" (defArgs (top 16)) (defBody (top 16)) (defScope (top 16)) .none kV_d8 dc_d8 pm_d8 an_d8 cd_d8 ct_d8), sl_d8⟩)
    (c_d8 : PySem.W.codeIn K cd_d8 "amounts_fit" = true)
    (k_d8 : PySem.W.keepIn K (.ref f_d8) = true)
    (a_d9 : PySem.W.nsIn K mainGlobals "act_numbers_fit" = some (some (.ref f_d9)))
    (l_d9 : K.lookup f_d9 = some ⟨oc_d9, od_d9, .func (PySem.W.fnOf "act_numbers_fit" "act_numbers_fit" (defArgs (top 17)) (defBody (top 17)) (defScope (top 17)) .none kV_d9 dc_d9 pm_d9 an_d9 cd_d9 ct_d9), sl_d9⟩)
    (c_d9 : PySem.W.codeIn K cd_d9 "act_numbers_fit" = true)
    (k_d9 : PySem.W.keepIn K (.ref f_d9) = true)
    (a_d10 : PySem.W.nsIn K mainGlobals "act_store_fits" = some (some (.ref f_d10)))
    (l_d10 : K.lookup f_d10 = some ⟨oc_d10, od_d10, .func (PySem.W.fnOf "act_store_fits" "act_store_fits" (defArgs (top 18)) (defBody (top 18)) (defScope (top 18)) .none kV_d10 dc_d10 pm_d10 an_d10 cd_d10 ct_d10), sl_d10⟩)
    (c_d10 : PySem.W.codeIn K cd_d10 "act_store_fits" = true)
    (k_d10 : PySem.W.keepIn K (.ref f_d10) = true)
    (a_d11 : PySem.W.nsIn K mainGlobals "act_stores_fit" = some (some (.ref f_d11)))
    (l_d11 : K.lookup f_d11 = some ⟨oc_d11, od_d11, .func (PySem.W.fnOf "act_stores_fit" "act_stores_fit" (defArgs (top 19)) (defBody (top 19)) (defScope (top 19)) .none kV_d11 dc_d11 pm_d11 an_d11 cd_d11 ct_d11), sl_d11⟩)
    (c_d11 : PySem.W.codeIn K cd_d11 "act_stores_fit" = true)
    (k_d11 : PySem.W.keepIn K (.ref f_d11) = true)
    (a_d12 : PySem.W.nsIn K mainGlobals "least_cost" = some (some (.ref f_d12)))
    (l_d12 : K.lookup f_d12 = some ⟨oc_d12, od_d12, .func (PySem.W.fnOf "least_cost" "least_cost" (defArgs (top 21)) (defBody (top 21)) (defScope (top 21)) .none kV_d12 dc_d12 pm_d12 an_d12 cd_d12 ct_d12), sl_d12⟩)
    (c_d12 : PySem.W.codeIn K cd_d12 "least_cost" = true)
    (k_d12 : PySem.W.keepIn K (.ref f_d12) = true)
    (a_d13 : PySem.W.nsIn K mainGlobals "front_amounts" = some (some (.ref f_d13)))
    (l_d13 : K.lookup f_d13 = some ⟨oc_d13, od_d13, .func (PySem.W.fnOf "front_amounts" "front_amounts" (defArgs (top 22)) (defBody (top 22)) (defScope (top 22)) .none kV_d13 dc_d13 pm_d13 an_d13 cd_d13 ct_d13), sl_d13⟩)
    (c_d13 : PySem.W.codeIn K cd_d13 "front_amounts" = true)
    (k_d13 : PySem.W.keepIn K (.ref f_d13) = true)
    (a_d14 : PySem.W.findIn K (.ref C_Call) "__init__" = some (some (.ref f_d14)))
    (i_d14 : PySem.W.isFn K (.ref f_d14) = true)
    (l_d14 : K.lookup f_d14 = some ⟨oc_d14, od_d14, .func (PySem.W.fnOf "__init__" "Call.__init__" (defArgs (inClass (top 24) 0)) (defBody (inClass (top 24) 0)) (defScope (inClass (top 24) 0)) .none kV_d14 dc_d14 pm_d14 an_d14 cd_d14 ct_d14), sl_d14⟩)
    (c_d14 : PySem.W.codeIn K cd_d14 "Call.__init__" = true)
    (k_d14 : PySem.W.keepIn K (.ref f_d14) = true)
    (a_d15 : PySem.W.findIn K (.ref C_Reader) "__init__" = some (some (.ref f_d15)))
    (i_d15 : PySem.W.isFn K (.ref f_d15) = true)
    (l_d15 : K.lookup f_d15 = some ⟨oc_d15, od_d15, .func (PySem.W.fnOf "__init__" "Reader.__init__" (defArgs (inClass (top 25) 0)) (defBody (inClass (top 25) 0)) (defScope (inClass (top 25) 0)) .none kV_d15 dc_d15 pm_d15 an_d15 cd_d15 ct_d15), sl_d15⟩)
    (c_d15 : PySem.W.codeIn K cd_d15 "Reader.__init__" = true)
    (k_d15 : PySem.W.keepIn K (.ref f_d15) = true)
    (a_d16 : PySem.W.findIn K (.ref C_Reader) "has_more" = some (some (.ref f_d16)))
    (i_d16 : PySem.W.isFn K (.ref f_d16) = true)
    (l_d16 : K.lookup f_d16 = some ⟨oc_d16, od_d16, .func (PySem.W.fnOf "has_more" "Reader.has_more" (defArgs (inClass (top 25) 1)) (defBody (inClass (top 25) 1)) (defScope (inClass (top 25) 1)) .none kV_d16 dc_d16 pm_d16 an_d16 cd_d16 ct_d16), sl_d16⟩)
    (c_d16 : PySem.W.codeIn K cd_d16 "Reader.has_more" = true)
    (k_d16 : PySem.W.keepIn K (.ref f_d16) = true)
    (a_d17 : PySem.W.findIn K (.ref C_Reader) "read_number" = some (some (.ref f_d17)))
    (i_d17 : PySem.W.isFn K (.ref f_d17) = true)
    (l_d17 : K.lookup f_d17 = some ⟨oc_d17, od_d17, .func (PySem.W.fnOf "read_number" "Reader.read_number" (defArgs (inClass (top 25) 2)) (defBody (inClass (top 25) 2)) (defScope (inClass (top 25) 2)) .none kV_d17 dc_d17 pm_d17 an_d17 cd_d17 ct_d17), sl_d17⟩)
    (c_d17 : PySem.W.codeIn K cd_d17 "Reader.read_number" = true)
    (k_d17 : PySem.W.keepIn K (.ref f_d17) = true)
    (a_d18 : PySem.W.findIn K (.ref C_Reader) "read_list" = some (some (.ref f_d18)))
    (i_d18 : PySem.W.isFn K (.ref f_d18) = true)
    (l_d18 : K.lookup f_d18 = some ⟨oc_d18, od_d18, .func (PySem.W.fnOf "read_list" "Reader.read_list" (defArgs (inClass (top 25) 3)) (defBody (inClass (top 25) 3)) (defScope (inClass (top 25) 3)) .none kV_d18 dc_d18 pm_d18 an_d18 cd_d18 ct_d18), sl_d18⟩)
    (c_d18 : PySem.W.codeIn K cd_d18 "Reader.read_list" = true)
    (k_d18 : PySem.W.keepIn K (.ref f_d18) = true)
    (a_d19 : PySem.W.findIn K (.ref C_Reader) "read_lists" = some (some (.ref f_d19)))
    (i_d19 : PySem.W.isFn K (.ref f_d19) = true)
    (l_d19 : K.lookup f_d19 = some ⟨oc_d19, od_d19, .func (PySem.W.fnOf "read_lists" "Reader.read_lists" (defArgs (inClass (top 25) 4)) (defBody (inClass (top 25) 4)) (defScope (inClass (top 25) 4)) .none kV_d19 dc_d19 pm_d19 an_d19 cd_d19 ct_d19), sl_d19⟩)
    (c_d19 : PySem.W.codeIn K cd_d19 "Reader.read_lists" = true)
    (k_d19 : PySem.W.keepIn K (.ref f_d19) = true)
    (a_d20 : PySem.W.findIn K (.ref C_Reader) "read_call" = some (some (.ref f_d20)))
    (i_d20 : PySem.W.isFn K (.ref f_d20) = true)
    (l_d20 : K.lookup f_d20 = some ⟨oc_d20, od_d20, .func (PySem.W.fnOf "read_call" "Reader.read_call" (defArgs (inClass (top 25) 5)) (defBody (inClass (top 25) 5)) (defScope (inClass (top 25) 5)) .none kV_d20 dc_d20 pm_d20 an_d20 cd_d20 ct_d20), sl_d20⟩)
    (c_d20 : PySem.W.codeIn K cd_d20 "Reader.read_call" = true)
    (k_d20 : PySem.W.keepIn K (.ref f_d20) = true)
    (a_d21 : PySem.W.nsIn K mainGlobals "longer_way" = some (some (.ref f_d21)))
    (l_d21 : K.lookup f_d21 = some ⟨oc_d21, od_d21, .func (PySem.W.fnOf "longer_way" "longer_way" (defArgs (top 27)) (defBody (top 27)) (defScope (top 27)) .none kV_d21 dc_d21 pm_d21 an_d21 cd_d21 ct_d21), sl_d21⟩)
    (c_d21 : PySem.W.codeIn K cd_d21 "longer_way" = true)
    (k_d21 : PySem.W.keepIn K (.ref f_d21) = true)
    (a_d22 : PySem.W.nsIn K mainGlobals "cheapest_state" = some (some (.ref f_d22)))
    (l_d22 : K.lookup f_d22 = some ⟨oc_d22, od_d22, .func (PySem.W.fnOf "cheapest_state" "cheapest_state" (defArgs (top 28)) (defBody (top 28)) (defScope (top 28)) .none kV_d22 dc_d22 pm_d22 an_d22 (.ref c_d22) ct_d22), sl_d22⟩)
    (cc_d22 : PySem.W.codeIn K (.ref c_d22) "cheapest_state" = true)
    (t_d22 : PySem.W.tabIn K "cheapest_state" = some (c_d22, tb_d22))
    (u_d22 : K.lookup tb_d22 = none)
    (k_d22 : PySem.W.keepIn K (.ref f_d22) = true)
    (a_d23 : PySem.W.nsIn K mainGlobals "offer_way" = some (some (.ref f_d23)))
    (l_d23 : K.lookup f_d23 = some ⟨oc_d23, od_d23, .func (PySem.W.fnOf "offer_way" "offer_way" (defArgs (top 29)) (defBody (top 29)) (defScope (top 29)) .none kV_d23 dc_d23 pm_d23 an_d23 cd_d23 ct_d23), sl_d23⟩)
    (c_d23 : PySem.W.codeIn K cd_d23 "offer_way" = true)
    (k_d23 : PySem.W.keepIn K (.ref f_d23) = true)
    (a_d24 : PySem.W.nsIn K mainGlobals "best_ways" = some (some (.ref f_d24)))
    (l_d24 : K.lookup f_d24 = some ⟨oc_d24, od_d24, .func (PySem.W.fnOf "best_ways" "best_ways" (defArgs (top 30)) (defBody (top 30)) (defScope (top 30)) .none kV_d24 dc_d24 pm_d24 an_d24 cd_d24 ct_d24), sl_d24⟩)
    (c_d24 : PySem.W.codeIn K cd_d24 "best_ways" = true)
    (k_d24 : PySem.W.keepIn K (.ref f_d24) = true)
    (a_d25 : PySem.W.findIn K (.ref C_House) "__init__" = some (some (.ref f_d25)))
    (i_d25 : PySem.W.isFn K (.ref f_d25) = true)
    (l_d25 : K.lookup f_d25 = some ⟨oc_d25, od_d25, .func (PySem.W.fnOf "__init__" "House.__init__" (defArgs (inClass (top 49) 0)) (defBody (inClass (top 49) 0)) (defScope (inClass (top 49) 0)) .none kV_d25 dc_d25 pm_d25 an_d25 cd_d25 ct_d25), sl_d25⟩)
    (c_d25 : PySem.W.codeIn K cd_d25 "House.__init__" = true)
    (k_d25 : PySem.W.keepIn K (.ref f_d25) = true)
    (a_d26 : PySem.W.findIn K (.ref C_House) "lay_anew" = some (some (.ref f_d26)))
    (i_d26 : PySem.W.isFn K (.ref f_d26) = true)
    (l_d26 : K.lookup f_d26 = some ⟨oc_d26, od_d26, .func (PySem.W.fnOf "lay_anew" "House.lay_anew" (defArgs (inClass (top 49) 1)) (defBody (inClass (top 49) 1)) (defScope (inClass (top 49) 1)) .none kV_d26 dc_d26 pm_d26 an_d26 cd_d26 ct_d26), sl_d26⟩)
    (c_d26 : PySem.W.codeIn K cd_d26 "House.lay_anew" = true)
    (k_d26 : PySem.W.keepIn K (.ref f_d26) = true)
    (a_d27 : PySem.W.findIn K (.ref C_House) "begin" = some (some (.ref f_d27)))
    (i_d27 : PySem.W.isFn K (.ref f_d27) = true)
    (l_d27 : K.lookup f_d27 = some ⟨oc_d27, od_d27, .func (PySem.W.fnOf "begin" "House.begin" (defArgs (inClass (top 49) 2)) (defBody (inClass (top 49) 2)) (defScope (inClass (top 49) 2)) .none kV_d27 dc_d27 pm_d27 an_d27 cd_d27 ct_d27), sl_d27⟩)
    (c_d27 : PySem.W.codeIn K cd_d27 "House.begin" = true)
    (k_d27 : PySem.W.keepIn K (.ref f_d27) = true)
    (a_d28 : PySem.W.findIn K (.ref C_House) "add_act" = some (some (.ref f_d28)))
    (i_d28 : PySem.W.isFn K (.ref f_d28) = true)
    (l_d28 : K.lookup f_d28 = some ⟨oc_d28, od_d28, .func (PySem.W.fnOf "add_act" "House.add_act" (defArgs (inClass (top 49) 3)) (defBody (inClass (top 49) 3)) (defScope (inClass (top 49) 3)) .none kV_d28 dc_d28 pm_d28 an_d28 cd_d28 ct_d28), sl_d28⟩)
    (c_d28 : PySem.W.codeIn K cd_d28 "House.add_act" = true)
    (k_d28 : PySem.W.keepIn K (.ref f_d28) = true)
    (a_d29 : PySem.W.findIn K (.ref C_House) "state_fits" = some (some (.ref f_d29)))
    (i_d29 : PySem.W.isFn K (.ref f_d29) = true)
    (l_d29 : K.lookup f_d29 = some ⟨oc_d29, od_d29, .func (PySem.W.fnOf "state_fits" "House.state_fits" (defArgs (inClass (top 49) 4)) (defBody (inClass (top 49) 4)) (defScope (inClass (top 49) 4)) .none kV_d29 dc_d29 pm_d29 an_d29 cd_d29 ct_d29), sl_d29⟩)
    (c_d29 : PySem.W.codeIn K cd_d29 "House.state_fits" = true)
    (k_d29 : PySem.W.keepIn K (.ref f_d29) = true)
    (a_d30 : PySem.W.findIn K (.ref C_House) "set_start" = some (some (.ref f_d30)))
    (i_d30 : PySem.W.isFn K (.ref f_d30) = true)
    (l_d30 : K.lookup f_d30 = some ⟨oc_d30, od_d30, .func (PySem.W.fnOf "set_start" "House.set_start" (defArgs (inClass (top 49) 5)) (defBody (inClass (top 49) 5)) (defScope (inClass (top 49) 5)) .none kV_d30 dc_d30 pm_d30 an_d30 cd_d30 ct_d30), sl_d30⟩)
    (c_d30 : PySem.W.codeIn K cd_d30 "House.set_start" = true)
    (k_d30 : PySem.W.keepIn K (.ref f_d30) = true)
    (a_d31 : PySem.W.findIn K (.ref C_House) "set_wish" = some (some (.ref f_d31)))
    (i_d31 : PySem.W.isFn K (.ref f_d31) = true)
    (l_d31 : K.lookup f_d31 = some ⟨oc_d31, od_d31, .func (PySem.W.fnOf "set_wish" "House.set_wish" (defArgs (inClass (top 49) 6)) (defBody (inClass (top 49) 6)) (defScope (inClass (top 49) 6)) .none kV_d31 dc_d31 pm_d31 an_d31 cd_d31 ct_d31), sl_d31⟩)
    (c_d31 : PySem.W.codeIn K cd_d31 "House.set_wish" = true)
    (k_d31 : PySem.W.keepIn K (.ref f_d31) = true)
    (a_d32 : PySem.W.findIn K (.ref C_House) "start_state" = some (some (.ref f_d32)))
    (i_d32 : PySem.W.isFn K (.ref f_d32) = true)
    (l_d32 : K.lookup f_d32 = some ⟨oc_d32, od_d32, .func (PySem.W.fnOf "start_state" "House.start_state" (defArgs (inClass (top 49) 7)) (defBody (inClass (top 49) 7)) (defScope (inClass (top 49) 7)) .none kV_d32 dc_d32 pm_d32 an_d32 cd_d32 ct_d32), sl_d32⟩)
    (c_d32 : PySem.W.codeIn K cd_d32 "House.start_state" = true)
    (k_d32 : PySem.W.keepIn K (.ref f_d32) = true)
    (a_d33 : PySem.W.findIn K (.ref C_House) "is_as_wished" = some (some (.ref f_d33)))
    (i_d33 : PySem.W.isFn K (.ref f_d33) = true)
    (l_d33 : K.lookup f_d33 = some ⟨oc_d33, od_d33, .func (PySem.W.fnOf "is_as_wished" "House.is_as_wished" (defArgs (inClass (top 49) 8)) (defBody (inClass (top 49) 8)) (defScope (inClass (top 49) 8)) .none kV_d33 dc_d33 pm_d33 an_d33 cd_d33 ct_d33), sl_d33⟩)
    (c_d33 : PySem.W.codeIn K cd_d33 "House.is_as_wished" = true)
    (k_d33 : PySem.W.keepIn K (.ref f_d33) = true)
    (a_d34 : PySem.W.findIn K (.ref C_House) "ways" = some (some (.ref f_d34)))
    (i_d34 : PySem.W.isFn K (.ref f_d34) = true)
    (l_d34 : K.lookup f_d34 = some ⟨oc_d34, od_d34, .func (PySem.W.fnOf "ways" "House.ways" (defArgs (inClass (top 49) 9)) (defBody (inClass (top 49) 9)) (defScope (inClass (top 49) 9)) .none kV_d34 dc_d34 pm_d34 an_d34 cd_d34 ct_d34), sl_d34⟩)
    (c_d34 : PySem.W.codeIn K cd_d34 "House.ways" = true)
    (k_d34 : PySem.W.keepIn K (.ref f_d34) = true)
    (a_d35 : PySem.W.findIn K (.ref C_House) "tell_plan" = some (some (.ref f_d35)))
    (i_d35 : PySem.W.isFn K (.ref f_d35) = true)
    (l_d35 : K.lookup f_d35 = some ⟨oc_d35, od_d35, .func (PySem.W.fnOf "tell_plan" "House.tell_plan" (defArgs (inClass (top 49) 10)) (defBody (inClass (top 49) 10)) (defScope (inClass (top 49) 10)) .none kV_d35 dc_d35 pm_d35 an_d35 cd_d35 ct_d35), sl_d35⟩)
    (c_d35 : PySem.W.codeIn K cd_d35 "House.tell_plan" = true)
    (k_d35 : PySem.W.keepIn K (.ref f_d35) = true)
    (a_d36 : PySem.W.findIn K (.ref C_House) "tell_front" = some (some (.ref f_d36)))
    (i_d36 : PySem.W.isFn K (.ref f_d36) = true)
    (l_d36 : K.lookup f_d36 = some ⟨oc_d36, od_d36, .func (PySem.W.fnOf "tell_front" "House.tell_front" (defArgs (inClass (top 49) 11)) (defBody (inClass (top 49) 11)) (defScope (inClass (top 49) 11)) .none kV_d36 dc_d36 pm_d36 an_d36 cd_d36 ct_d36), sl_d36⟩)
    (c_d36 : PySem.W.codeIn K cd_d36 "House.tell_front" = true)
    (k_d36 : PySem.W.keepIn K (.ref f_d36) = true)
    (a_d37 : PySem.W.findIn K (.ref C_House) "state_behind_numbered" = some (some (.ref f_d37)))
    (i_d37 : PySem.W.isFn K (.ref f_d37) = true)
    (l_d37 : K.lookup f_d37 = some ⟨oc_d37, od_d37, .func (PySem.W.fnOf "state_behind_numbered" "House.state_behind_numbered" (defArgs (inClass (top 49) 12)) (defBody (inClass (top 49) 12)) (defScope (inClass (top 49) 12)) .none kV_d37 dc_d37 pm_d37 an_d37 cd_d37 ct_d37), sl_d37⟩)
    (c_d37 : PySem.W.codeIn K cd_d37 "House.state_behind_numbered" = true)
    (k_d37 : PySem.W.keepIn K (.ref f_d37) = true)
    (a_d38 : PySem.W.findIn K (.ref C_House) "check" = some (some (.ref f_d38)))
    (i_d38 : PySem.W.isFn K (.ref f_d38) = true)
    (l_d38 : K.lookup f_d38 = some ⟨oc_d38, od_d38, .func (PySem.W.fnOf "check" "House.check" (defArgs (inClass (top 49) 13)) (defBody (inClass (top 49) 13)) (defScope (inClass (top 49) 13)) .none kV_d38 dc_d38 pm_d38 an_d38 cd_d38 ct_d38), sl_d38⟩)
    (c_d38 : PySem.W.codeIn K cd_d38 "House.check" = true)
    (k_d38 : PySem.W.keepIn K (.ref f_d38) = true)
    (a_d39 : PySem.W.findIn K (.ref C_House) "count_reached" = some (some (.ref f_d39)))
    (i_d39 : PySem.W.isFn K (.ref f_d39) = true)
    (l_d39 : K.lookup f_d39 = some ⟨oc_d39, od_d39, .func (PySem.W.fnOf "count_reached" "House.count_reached" (defArgs (inClass (top 49) 14)) (defBody (inClass (top 49) 14)) (defScope (inClass (top 49) 14)) .none kV_d39 dc_d39 pm_d39 an_d39 cd_d39 ct_d39), sl_d39⟩)
    (c_d39 : PySem.W.codeIn K cd_d39 "House.count_reached" = true)
    (k_d39 : PySem.W.keepIn K (.ref f_d39) = true)
    (a_d40 : PySem.W.nsIn K mainGlobals "answer_call" = some (some (.ref f_d40)))
    (l_d40 : K.lookup f_d40 = some ⟨oc_d40, od_d40, .func (PySem.W.fnOf "answer_call" "answer_call" (defArgs (top 50)) (defBody (top 50)) (defScope (top 50)) .none kV_d40 dc_d40 pm_d40 an_d40 cd_d40 ct_d40), sl_d40⟩)
    (c_d40 : PySem.W.codeIn K cd_d40 "answer_call" = true)
    (k_d40 : PySem.W.keepIn K (.ref f_d40) = true)
    (a_d41 : PySem.W.nsIn K mainGlobals "answers" = some (some (.ref f_d41)))
    (l_d41 : K.lookup f_d41 = some ⟨oc_d41, od_d41, .func (PySem.W.fnOf "answers" "answers" (defArgs (top 51)) (defBody (top 51)) (defScope (top 51)) .none kV_d41 dc_d41 pm_d41 an_d41 cd_d41 ct_d41), sl_d41⟩)
    (c_d41 : PySem.W.codeIn K cd_d41 "answers" = true)
    (k_d41 : PySem.W.keepIn K (.ref f_d41) = true)
    (g_MOST_FACTS : PySem.W.nsIn K mainGlobals "MOST_FACTS" = some (some (.int (3) t_MOST_FACTS)))
    (g_MOST_STORES : PySem.W.nsIn K mainGlobals "MOST_STORES" = some (some (.int (2) t_MOST_STORES)))
    (g_MOST_ROOM : PySem.W.nsIn K mainGlobals "MOST_ROOM" = some (some (.int (7) t_MOST_ROOM)))
    (g_MOST_COST : PySem.W.nsIn K mainGlobals "MOST_COST" = some (some (.int (1000) t_MOST_COST)))
    (g_ACT_NUMBERS : PySem.W.nsIn K mainGlobals "ACT_NUMBERS" = some (some (.int (5) t_ACT_NUMBERS)))
    (g_STORE_NUMBERS : PySem.W.nsIn K mainGlobals "STORE_NUMBERS" = some (some (.int (4) t_STORE_NUMBERS)))
    (g_BEGINS : PySem.W.nsIn K mainGlobals "BEGINS" = some (some (.int (0) t_BEGINS)))
    (g_ACT : PySem.W.nsIn K mainGlobals "ACT" = some (some (.int (1) t_ACT)))
    (g_START : PySem.W.nsIn K mainGlobals "START" = some (some (.int (2) t_START)))
    (g_WISH : PySem.W.nsIn K mainGlobals "WISH" = some (some (.int (3) t_WISH)))
    (g_PLAN : PySem.W.nsIn K mainGlobals "PLAN" = some (some (.int (4) t_PLAN)))
    (g_FRONT : PySem.W.nsIn K mainGlobals "FRONT" = some (some (.int (5) t_FRONT)))
    (g_CHECK : PySem.W.nsIn K mainGlobals "CHECK" = some (some (.int (6) t_CHECK)))
    (g_REACH : PySem.W.nsIn K mainGlobals "REACH" = some (some (.int (7) t_REACH)))
    (g_DONE : PySem.W.nsIn K mainGlobals "DONE" = some (some (.int (0) t_DONE)))
    (g_WRONG : PySem.W.nsIn K mainGlobals "WRONG" = some (some (.int (-1) t_WRONG)))
    (g_NO_STORE : PySem.W.nsIn K mainGlobals "NO_STORE" = some (some (.int (-2) t_NO_STORE)))
    (g_NOT_AS_WISHED : PySem.W.nsIn K mainGlobals "NOT_AS_WISHED" = some (some (.int (-3) t_NOT_AS_WISHED)))
    (g_NOT_TO_BE_DONE : PySem.W.nsIn K mainGlobals "NOT_TO_BE_DONE" = some (some (.int (-5) t_NOT_TO_BE_DONE)))
    (g_NO_PLAN : PySem.W.nsIn K mainGlobals "NO_PLAN" = some (some (.int (-6) t_NO_PLAN)))
    (g_FULL : PySem.W.nsIn K mainGlobals "FULL" = some (some (.int (-7) t_FULL)))
    (g_MOST_ACTS : PySem.W.nsIn K mainGlobals "MOST_ACTS" = some (some (.int (8) t_MOST_ACTS)))
    (b_enumerate : PySem.W.nsIn K mainGlobals "enumerate" = some none)
    (b_len : PySem.W.nsIn K mainGlobals "len" = some none)
    (b_list : PySem.W.nsIn K mainGlobals "list" = some none)
    (b_min : PySem.W.nsIn K mainGlobals "min" = some none)
    (b_range : PySem.W.nsIn K mainGlobals "range" = some none)
    (b_tuple : PySem.W.nsIn K mainGlobals "tuple" = some none)
    (b_zip : PySem.W.nsIn K mainGlobals "zip" = some none) :
    Known1 PySem.Challenge.rw_tankplans_s01_answers w K CX0 8 ["calls"] mg fa h := by
  have G := Tp.g
  have e := hfa.symm.trans (PySem.W.mg_of X G a_d41)
  cases e
  have F_d0 := fun_mk (st := inClass (top 1) 0) l_d0 c_d0 k_d0
  have b_d0 := F_d0.binds (ps := ["self", "numbers", "stores"]) fun _ _ _ _ _ _ us hl => match us, hl with | [_, _, _], _ => rfl
  have M_Act : Mk K C_Act f_d0 := ⟨mk_Act, a_d0, i_d0, kc_Act⟩
  have F_d1 := fun_mk (st := top 2) l_d1 c_d1 k_d1
  have b_d1 := F_d1.binds (ps := ["act", "facts"]) fun _ _ _ _ _ _ us hl => match us, hl with | [_, _], _ => rfl
  have q_d1 := PySem.W.mg_of X G a_d1
  have F_d2 := fun_mk (st := top 3) l_d2 c_d2 k_d2
  have b_d2 := F_d2.binds (ps := ["act", "facts"]) fun _ _ _ _ _ _ us hl => match us, hl with | [_, _], _ => rfl
  have q_d2 := PySem.W.mg_of X G a_d2
  have F_d3 := fun_mk (st := top 4) l_d3 c_d3 k_d3
  have b_d3 := F_d3.binds (ps := ["store", "amount", "room"]) fun _ _ _ _ _ _ us hl => match us, hl with | [_, _, _], _ => rfl
  have q_d3 := PySem.W.mg_of X G a_d3
  have F_d4 := fun_mk (st := top 5) l_d4 c_d4 k_d4
  have b_d4 := F_d4.binds (ps := ["act", "state", "rooms"]) fun _ _ _ _ _ _ us hl => match us, hl with | [_, _, _], _ => rfl
  have q_d4 := PySem.W.mg_of X G a_d4
  have F_d5 := fun_mk (st := top 13) l_d5 c_d5 k_d5
  have b_d5 := F_d5.binds (ps := ["fact_count"]) fun _ _ _ _ _ _ us hl => match us, hl with | [_], _ => rfl
  have q_d5 := PySem.W.mg_of X G a_d5
  have F_d6 := fun_mk (st := top 14) l_d6 c_d6 k_d6
  have b_d6 := F_d6.binds (ps := ["rooms"]) fun _ _ _ _ _ _ us hl => match us, hl with | [_], _ => rfl
  have q_d6 := PySem.W.mg_of X G a_d6
  have F_d7 := fun_mk (st := top 15) l_d7 c_d7 k_d7
  have b_d7 := F_d7.binds (ps := ["facts", "fact_count"]) fun _ _ _ _ _ _ us hl => match us, hl with | [_, _], _ => rfl
  have q_d7 := PySem.W.mg_of X G a_d7
  have F_d8 := fun_mk (st := top 16) l_d8 c_d8 k_d8
  have b_d8 := F_d8.binds (ps := ["amounts", "rooms"]) fun _ _ _ _ _ _ us hl => match us, hl with | [_, _], _ => rfl
  have q_d8 := PySem.W.mg_of X G a_d8
  have F_d9 := fun_mk (st := top 17) l_d9 c_d9 k_d9
  have b_d9 := F_d9.binds (ps := ["numbers", "fact_count"]) fun _ _ _ _ _ _ us hl => match us, hl with | [_, _], _ => rfl
  have q_d9 := PySem.W.mg_of X G a_d9
  have F_d10 := fun_mk (st := top 18) l_d10 c_d10 k_d10
  have b_d10 := F_d10.binds (ps := ["store", "room"]) fun _ _ _ _ _ _ us hl => match us, hl with | [_, _], _ => rfl
  have q_d10 := PySem.W.mg_of X G a_d10
  have F_d11 := fun_mk (st := top 19) l_d11 c_d11 k_d11
  have b_d11 := F_d11.binds (ps := ["stores", "rooms"]) fun _ _ _ _ _ _ us hl => match us, hl with | [_, _], _ => rfl
  have q_d11 := PySem.W.mg_of X G a_d11
  have F_d12 := fun_mk (st := top 21) l_d12 c_d12 k_d12
  have b_d12 := F_d12.binds (ps := ["ends", "amount"]) fun _ _ _ _ _ _ us hl => match us, hl with | [_, _], _ => rfl
  have q_d12 := PySem.W.mg_of X G a_d12
  have F_d13 := fun_mk (st := top 22) l_d13 c_d13 k_d13
  have b_d13 := F_d13.binds (ps := ["ends", "room"]) fun _ _ _ _ _ _ us hl => match us, hl with | [_, _], _ => rfl
  have q_d13 := PySem.W.mg_of X G a_d13
  have F_d14 := fun_mk (st := inClass (top 24) 0) l_d14 c_d14 k_d14
  have b_d14 := F_d14.binds (ps := ["self", "number", "wholes", "lists"]) fun _ _ _ _ _ _ us hl => match us, hl with | [_, _, _, _], _ => rfl
  have M_Call : Mk K C_Call f_d14 := ⟨mk_Call, a_d14, i_d14, kc_Call⟩
  have F_d15 := fun_mk (st := inClass (top 25) 0) l_d15 c_d15 k_d15
  have b_d15 := F_d15.binds (ps := ["self", "numbers"]) fun _ _ _ _ _ _ us hl => match us, hl with | [_, _], _ => rfl
  have M_Reader : Mk K C_Reader f_d15 := ⟨mk_Reader, a_d15, i_d15, kc_Reader⟩
  have F_d16 := fun_mk (st := inClass (top 25) 1) l_d16 c_d16 k_d16
  have b_d16 := F_d16.binds (ps := ["self"]) fun _ _ _ _ _ _ us hl => match us, hl with | [_], _ => rfl
  have m_d16 : Meth K C_Reader "has_more" f_d16 := ⟨a_d16, i_d16, k_d16⟩
  have F_d17 := fun_mk (st := inClass (top 25) 2) l_d17 c_d17 k_d17
  have b_d17 := F_d17.binds (ps := ["self"]) fun _ _ _ _ _ _ us hl => match us, hl with | [_], _ => rfl
  have m_d17 : Meth K C_Reader "read_number" f_d17 := ⟨a_d17, i_d17, k_d17⟩
  have F_d18 := fun_mk (st := inClass (top 25) 3) l_d18 c_d18 k_d18
  have b_d18 := F_d18.binds (ps := ["self"]) fun _ _ _ _ _ _ us hl => match us, hl with | [_], _ => rfl
  have m_d18 : Meth K C_Reader "read_list" f_d18 := ⟨a_d18, i_d18, k_d18⟩
  have F_d19 := fun_mk (st := inClass (top 25) 4) l_d19 c_d19 k_d19
  have b_d19 := F_d19.binds (ps := ["self"]) fun _ _ _ _ _ _ us hl => match us, hl with | [_], _ => rfl
  have m_d19 : Meth K C_Reader "read_lists" f_d19 := ⟨a_d19, i_d19, k_d19⟩
  have F_d20 := fun_mk (st := inClass (top 25) 5) l_d20 c_d20 k_d20
  have b_d20 := F_d20.binds (ps := ["self"]) fun _ _ _ _ _ _ us hl => match us, hl with | [_], _ => rfl
  have m_d20 : Meth K C_Reader "read_call" f_d20 := ⟨a_d20, i_d20, k_d20⟩
  have F_d21 := fun_mk (st := top 27) l_d21 c_d21 k_d21
  have b_d21 := F_d21.binds (ps := ["way", "number", "cost"]) fun _ _ _ _ _ _ us hl => match us, hl with | [_, _, _], _ => rfl
  have q_d21 := PySem.W.mg_of X G a_d21
  have F_d22 := fun_mk (st := top 28) l_d22 cc_d22 k_d22
  have b_d22 := F_d22.binds (ps := ["waiting"]) fun _ _ _ _ _ _ us hl => match us, hl with | [_], _ => rfl
  have q_d22 := PySem.W.mg_of X G a_d22
  have F_d23 := fun_mk (st := top 29) l_d23 c_d23 k_d23
  have b_d23 := F_d23.binds (ps := ["waiting", "state", "way"]) fun _ _ _ _ _ _ us hl => match us, hl with | [_, _, _], _ => rfl
  have q_d23 := PySem.W.mg_of X G a_d23
  have F_d24 := fun_mk (st := top 30) l_d24 c_d24 k_d24
  have b_d24 := F_d24.binds (ps := ["start", "acts", "rooms"]) fun _ _ _ _ _ _ us hl => match us, hl with | [_, _, _], _ => rfl
  have q_d24 := PySem.W.mg_of X G a_d24
  have F_d25 := fun_mk (st := inClass (top 49) 0) l_d25 c_d25 k_d25
  have b_d25 := F_d25.binds (ps := ["self"]) fun _ _ _ _ _ _ us hl => match us, hl with | [_], _ => rfl
  have M_House : Mk K C_House f_d25 := ⟨mk_House, a_d25, i_d25, kc_House⟩
  have F_d26 := fun_mk (st := inClass (top 49) 1) l_d26 c_d26 k_d26
  have b_d26 := F_d26.binds (ps := ["self", "fact_count", "rooms"]) fun _ _ _ _ _ _ us hl => match us, hl with | [_, _, _], _ => rfl
  have m_d26 : Meth K C_House "lay_anew" f_d26 := ⟨a_d26, i_d26, k_d26⟩
  have F_d27 := fun_mk (st := inClass (top 49) 2) l_d27 c_d27 k_d27
  have b_d27 := F_d27.binds (ps := ["self", "fact_count", "rooms"]) fun _ _ _ _ _ _ us hl => match us, hl with | [_, _, _], _ => rfl
  have m_d27 : Meth K C_House "begin" f_d27 := ⟨a_d27, i_d27, k_d27⟩
  have F_d28 := fun_mk (st := inClass (top 49) 3) l_d28 c_d28 k_d28
  have b_d28 := F_d28.binds (ps := ["self", "numbers", "stores"]) fun _ _ _ _ _ _ us hl => match us, hl with | [_, _, _], _ => rfl
  have m_d28 : Meth K C_House "add_act" f_d28 := ⟨a_d28, i_d28, k_d28⟩
  have F_d29 := fun_mk (st := inClass (top 49) 4) l_d29 c_d29 k_d29
  have b_d29 := F_d29.binds (ps := ["self", "facts", "amounts"]) fun _ _ _ _ _ _ us hl => match us, hl with | [_, _, _], _ => rfl
  have m_d29 : Meth K C_House "state_fits" f_d29 := ⟨a_d29, i_d29, k_d29⟩
  have F_d30 := fun_mk (st := inClass (top 49) 5) l_d30 c_d30 k_d30
  have b_d30 := F_d30.binds (ps := ["self", "so", "amounts"]) fun _ _ _ _ _ _ us hl => match us, hl with | [_, _, _], _ => rfl
  have m_d30 : Meth K C_House "set_start" f_d30 := ⟨a_d30, i_d30, k_d30⟩
  have F_d31 := fun_mk (st := inClass (top 49) 6) l_d31 c_d31 k_d31
  have b_d31 := F_d31.binds (ps := ["self", "facts", "amounts"]) fun _ _ _ _ _ _ us hl => match us, hl with | [_, _, _], _ => rfl
  have m_d31 : Meth K C_House "set_wish" f_d31 := ⟨a_d31, i_d31, k_d31⟩
  have F_d32 := fun_mk (st := inClass (top 49) 7) l_d32 c_d32 k_d32
  have b_d32 := F_d32.binds (ps := ["self"]) fun _ _ _ _ _ _ us hl => match us, hl with | [_], _ => rfl
  have m_d32 : Meth K C_House "start_state" f_d32 := ⟨a_d32, i_d32, k_d32⟩
  have F_d33 := fun_mk (st := inClass (top 49) 8) l_d33 c_d33 k_d33
  have b_d33 := F_d33.binds (ps := ["self", "state"]) fun _ _ _ _ _ _ us hl => match us, hl with | [_, _], _ => rfl
  have m_d33 : Meth K C_House "is_as_wished" f_d33 := ⟨a_d33, i_d33, k_d33⟩
  have F_d34 := fun_mk (st := inClass (top 49) 9) l_d34 c_d34 k_d34
  have b_d34 := F_d34.binds (ps := ["self"]) fun _ _ _ _ _ _ us hl => match us, hl with | [_], _ => rfl
  have m_d34 : Meth K C_House "ways" f_d34 := ⟨a_d34, i_d34, k_d34⟩
  have F_d35 := fun_mk (st := inClass (top 49) 10) l_d35 c_d35 k_d35
  have b_d35 := F_d35.binds (ps := ["self"]) fun _ _ _ _ _ _ us hl => match us, hl with | [_], _ => rfl
  have m_d35 : Meth K C_House "tell_plan" f_d35 := ⟨a_d35, i_d35, k_d35⟩
  have F_d36 := fun_mk (st := inClass (top 49) 11) l_d36 c_d36 k_d36
  have b_d36 := F_d36.binds (ps := ["self", "store"]) fun _ _ _ _ _ _ us hl => match us, hl with | [_, _], _ => rfl
  have m_d36 : Meth K C_House "tell_front" f_d36 := ⟨a_d36, i_d36, k_d36⟩
  have F_d37 := fun_mk (st := inClass (top 49) 12) l_d37 c_d37 k_d37
  have b_d37 := F_d37.binds (ps := ["self", "number", "state"]) fun _ _ _ _ _ _ us hl => match us, hl with | [_, _, _], _ => rfl
  have m_d37 : Meth K C_House "state_behind_numbered" f_d37 := ⟨a_d37, i_d37, k_d37⟩
  have F_d38 := fun_mk (st := inClass (top 49) 13) l_d38 c_d38 k_d38
  have b_d38 := F_d38.binds (ps := ["self", "numbers"]) fun _ _ _ _ _ _ us hl => match us, hl with | [_, _], _ => rfl
  have m_d38 : Meth K C_House "check" f_d38 := ⟨a_d38, i_d38, k_d38⟩
  have F_d39 := fun_mk (st := inClass (top 49) 14) l_d39 c_d39 k_d39
  have b_d39 := F_d39.binds (ps := ["self"]) fun _ _ _ _ _ _ us hl => match us, hl with | [_], _ => rfl
  have m_d39 : Meth K C_House "count_reached" f_d39 := ⟨a_d39, i_d39, k_d39⟩
  have F_d40 := fun_mk (st := top 50) l_d40 c_d40 k_d40
  have b_d40 := F_d40.binds (ps := ["house", "call"]) fun _ _ _ _ _ _ us hl => match us, hl with | [_, _], _ => rfl
  have q_d40 := PySem.W.mg_of X G a_d40
  have F_d41 := fun_mk (st := top 51) l_d41 c_d41 k_d41
  have b_d41 := F_d41.binds (ps := ["calls"]) fun _ _ _ _ _ _ us hl => match us, hl with | [_], _ => rfl
  have q_d41 := PySem.W.mg_of X G a_d41
  have q_Act := PySem.W.mg_of X G aC_Act
  have cl_Act : Cls K C_Act := ⟨pg_Act, hd_Act, po_Act, sa_Act⟩
  have q_Call := PySem.W.mg_of X G aC_Call
  have cl_Call : Cls K C_Call := ⟨pg_Call, hd_Call, po_Call, sa_Call⟩
  have q_Reader := PySem.W.mg_of X G aC_Reader
  have cl_Reader : Cls K C_Reader := ⟨pg_Reader, hd_Reader, po_Reader, sa_Reader⟩
  have q_UnknownCall := PySem.W.mg_of X G aC_UnknownCall
  have q_House := PySem.W.mg_of X G aC_House
  have cl_House : Cls K C_House := ⟨pg_House, hd_House, po_House, sa_House⟩
  have G_MOST_FACTS : GI mg "MOST_FACTS" (3) := ⟨_, PySem.W.mg_of X G g_MOST_FACTS⟩
  have G_MOST_STORES : GI mg "MOST_STORES" (2) := ⟨_, PySem.W.mg_of X G g_MOST_STORES⟩
  have G_MOST_ROOM : GI mg "MOST_ROOM" (7) := ⟨_, PySem.W.mg_of X G g_MOST_ROOM⟩
  have G_MOST_COST : GI mg "MOST_COST" (1000) := ⟨_, PySem.W.mg_of X G g_MOST_COST⟩
  have G_ACT_NUMBERS : GI mg "ACT_NUMBERS" (5) := ⟨_, PySem.W.mg_of X G g_ACT_NUMBERS⟩
  have G_STORE_NUMBERS : GI mg "STORE_NUMBERS" (4) := ⟨_, PySem.W.mg_of X G g_STORE_NUMBERS⟩
  have G_BEGINS : GI mg "BEGINS" (0) := ⟨_, PySem.W.mg_of X G g_BEGINS⟩
  have G_ACT : GI mg "ACT" (1) := ⟨_, PySem.W.mg_of X G g_ACT⟩
  have G_START : GI mg "START" (2) := ⟨_, PySem.W.mg_of X G g_START⟩
  have G_WISH : GI mg "WISH" (3) := ⟨_, PySem.W.mg_of X G g_WISH⟩
  have G_PLAN : GI mg "PLAN" (4) := ⟨_, PySem.W.mg_of X G g_PLAN⟩
  have G_FRONT : GI mg "FRONT" (5) := ⟨_, PySem.W.mg_of X G g_FRONT⟩
  have G_CHECK : GI mg "CHECK" (6) := ⟨_, PySem.W.mg_of X G g_CHECK⟩
  have G_REACH : GI mg "REACH" (7) := ⟨_, PySem.W.mg_of X G g_REACH⟩
  have G_DONE : GI mg "DONE" (0) := ⟨_, PySem.W.mg_of X G g_DONE⟩
  have G_WRONG : GI mg "WRONG" (-1) := ⟨_, PySem.W.mg_of X G g_WRONG⟩
  have G_NO_STORE : GI mg "NO_STORE" (-2) := ⟨_, PySem.W.mg_of X G g_NO_STORE⟩
  have G_NOT_AS_WISHED : GI mg "NOT_AS_WISHED" (-3) := ⟨_, PySem.W.mg_of X G g_NOT_AS_WISHED⟩
  have G_NOT_TO_BE_DONE : GI mg "NOT_TO_BE_DONE" (-5) := ⟨_, PySem.W.mg_of X G g_NOT_TO_BE_DONE⟩
  have G_NO_PLAN : GI mg "NO_PLAN" (-6) := ⟨_, PySem.W.mg_of X G g_NO_PLAN⟩
  have G_FULL : GI mg "FULL" (-7) := ⟨_, PySem.W.mg_of X G g_FULL⟩
  have G_MOST_ACTS : GI mg "MOST_ACTS" (8) := ⟨_, PySem.W.mg_of X G g_MOST_ACTS⟩
  have B_enumerate := PySem.W.mg_none_of X G b_enumerate
  have B_len := PySem.W.mg_none_of X G b_len
  have B_list := PySem.W.mg_none_of X G b_list
  have B_min := PySem.W.mg_none_of X G b_min
  have B_range := PySem.W.mg_none_of X G b_range
  have B_tuple := PySem.W.mg_none_of X G b_tuple
  have B_zip := PySem.W.mg_none_of X G b_zip
  have TF : TxF mg := ⟨G_MOST_FACTS, G_MOST_STORES, G_MOST_ROOM, G_MOST_COST, G_ACT_NUMBERS, G_STORE_NUMBERS, B_len, B_zip⟩
  have TR : TxR K mg C_Reader C_Call := ⟨cl_Reader, n_Reader_numbers, n_Reader_place, q_Reader, cl_Call, n_Call_number, n_Call_wholes, n_Call_lists, q_Call, B_len⟩
  have TH : TxH K mg C_House C_Act := ⟨cl_House, n_House_fact_count, n_House_rooms, n_House_acts, n_House_so, n_House_amounts, n_House_wished_facts, n_House_wished_amounts, q_House, cl_Act, n_Act_needed, n_Act_barred, n_Act_brought, n_Act_taken, n_Act_cost, n_Act_stores, q_Act, G_DONE, G_WRONG, G_FULL, G_MOST_ACTS, B_len⟩
  have TA : TxA mg := ⟨B_zip, B_tuple, B_list, B_len, B_enumerate, B_min, B_range⟩
  have TP : TxP mg := ⟨G_NO_STORE, G_NOT_AS_WISHED, G_NOT_TO_BE_DONE, G_NO_PLAN⟩
  have TN : TxN mg := ⟨G_BEGINS, G_ACT, G_START, G_WISH, G_PLAN, G_FRONT, G_CHECK, G_REACH⟩
  obtain ⟨code, empty⟩ := PySem.W.tab_of Tp X isRec t_d22
  refine ⟨PySem.W.fnOf "answers" "answers" (defArgs (top 51)) (defBody (top 51)) (defScope (top 51)) .none kV_d41 dc_d41 pm_d41 an_d41 cd_d41 ct_d41, c_d22, tb_d22, spANST K tb_d22, code, empty, u_d22, fun s us hu => match us, hu with | [_], _ => .of_eq rfl, fun base _ _ TB => ?_, ?_⟩
  · have oSB := ok_SB (P := PySem.Challenge.rw_tankplans_s01_answers.prog) (w := w) (base := base) F_d4 TH TA (ok_FA F_d1 TH) k_d1 b_d1 q_d1 (ok_FB F_d2 TH) k_d2 b_d2 q_d2 (ok_AB F_d3) k_d3 b_d3 q_d3
    have oBW := ok_BW F_d24 TH TA oSB k_d4 b_d4 q_d4 (ok_CH l_d22 cc_d22 TA TB) k_d22 b_d22 q_d22 (ok_OW F_d23) k_d23 b_d23 q_d23 (ok_LW F_d21) k_d21 b_d21 q_d21
    have oST := ok_ST (P := PySem.Challenge.rw_tankplans_s01_answers.prog) (w := w) (base := base) F_d32 TH TA
    have oIW := ok_IW (P := PySem.Challenge.rw_tankplans_s01_answers.prog) (w := w) (base := base) F_d33 TH TA
    have oWY := ok_WY F_d34 TH oST b_d32 m_d32 oBW k_d24 b_d24 q_d24
    have oTP := ok_TP F_d35 TH TA TP oWY b_d34 m_d34 oIW b_d33 m_d33
    have oFR := ok_FR (P := PySem.Challenge.rw_tankplans_s01_answers.prog) (w := w) (base := base) F_d13 TA (ok_LC F_d12 TA) k_d12 b_d12 q_d12
    have oTF := ok_TF F_d36 TH TA TP oWY b_d34 m_d34 oIW b_d33 m_d33 oFR k_d13 b_d13 q_d13
    have oBN := ok_BN F_d37 TH TA oSB k_d4 b_d4 q_d4
    have oCK := ok_CK F_d38 TH TA TP oST b_d32 m_d32 oBN b_d37 m_d37 oIW b_d33 m_d33
    have oCR := ok_CR F_d39 TH TA oWY b_d34 m_d34
    have o0 := ok_HB (P := PySem.Challenge.rw_tankplans_s01_answers.prog) (w := w) (base := base) F_d27 TH TF F_d26 b_d26 m_d26 F_d5 b_d5 q_d5 F_d6 b_d6 q_d6
    have o1 := ok_HA (P := PySem.Challenge.rw_tankplans_s01_answers.prog) (w := w) (base := base) F_d28 TH TF F_d9 b_d9 q_d9 F_d11 b_d11 q_d11 F_d7 b_d7 q_d7 F_d10 b_d10 q_d10 M_Act F_d0 b_d0
    have o2 := ok_HS (P := PySem.Challenge.rw_tankplans_s01_answers.prog) (w := w) (base := base) F_d30 TH TF F_d29 b_d29 m_d29 F_d7 b_d7 q_d7 F_d8 b_d8 q_d8
    have o3 := ok_HW (P := PySem.Challenge.rw_tankplans_s01_answers.prog) (w := w) (base := base) F_d31 TH TF F_d29 b_d29 m_d29 F_d7 b_d7 q_d7 F_d8 b_d8 q_d8
    have oAC := ok_AC F_d40 TH TR TN o0 b_d27 m_d27 o1 b_d28 m_d28 o2 b_d30 m_d30 o3 b_d31 m_d31 oTP b_d35 m_d35 oTF b_d36 m_d36 oCK b_d38 m_d38 oCR b_d39 m_d39
    exact ok_ANST F_d41 TH TR oAC k_d40 b_d40 q_d40 (ok_RC F_d20 TR F_d17 b_d17 m_d17 F_d18 b_d18 m_d18 F_d19 b_d19 m_d19 M_Call F_d14 b_d14) b_d20 m_d20 (ok_RM F_d16 TR) b_d16 m_d16 M_Reader (ok_RI F_d15 TR) b_d15 M_House (ok_HI F_d25 TH F_d26 b_d26 m_d26) b_d25
  · intro H0 xs a hO free hwi hask hx
    cases hx with
    | cons h1 h2 =>
      cases h2
      cases h1 with
      | lst hs ha =>
        have e := L2.ints_dw a.1 _ ha
        subst e
        have q : ((Codec.inLen 0 12600 a.1 && a.1.all (Codec.inInt 0 4294967295)) && true) = true := hwi
        rw [Bool.and_eq_true, Bool.and_eq_true] at q
        obtain ⟨ys, e1, e2, e3, e4⟩ := Tk.decode (l := a.1) hask (fun z hz => by
          exact (Codec.inInt_iff.mp (List.all_eq_true.mp q.1.2 z hz)).1)
        refine ⟨_, ys.flatMap Tk.enc, ys, rfl, ?_, rfl, e2, e4, ?_, fun H' p hp => ?_⟩
        · rw [e1, List.map_map] at hs
          exact Same.seq (Same.upd free) hs
        · intro t ht
          rw [List.mem_singleton.mp ht]
          exact TabS.nil upd_same
        · have e5 : PyPn06.answers a.1 = Tk.run Pn06.init ys := e3
          show L2.Dw K H' (.ref p) (WData.list ((PyPn06.answers a.1).map WData.int))
          rw [e5]
          exact .lst (L2.SqL.of hp) (L2.dw_ints _)
end Tk
open PySem PySem.W PyProof.Rows
set_option maxRecDepth 100000 in
set_option maxHeartbeats 0 in
theorem PySem.Challenge.cw_tankplans_s01_answers_holds : PySem.Challenge.rw_tankplans_s01_answers.Holds := by
  w_on; k_headS; (case hw => exact ⟨[.list [.int 4, .int 0, .int 0]], by decide +kernel, by decide +kernel⟩)
  k_fillS
  refine Tk.walk1 (r := PySem.Challenge.rw_tankplans_s01_answers) (k := 8) (CX := L2.CX0) (ps := ["calls"]) (by decide +kernel) rfl ⟨rfl, by decide, by decide⟩ (fun w h Y => PySem.W.kIn_of Y) ?F (fun _ _ _ _ z => z)
  case F =>
    intro w mean mg mb fa h Tp Y KX hmg
    refine' Tk.known1 Tp KX hmg ?isRec ?aC_Act ?pg_Act ?hd_Act ?po_Act ?sa_Act ?mk_Act ?kc_Act ?n_Act_needed ?n_Act_barred ?n_Act_brought ?n_Act_taken ?n_Act_cost ?n_Act_stores ?aC_Call ?pg_Call ?hd_Call ?po_Call ?sa_Call ?mk_Call ?kc_Call ?n_Call_number ?n_Call_wholes ?n_Call_lists ?aC_Reader ?pg_Reader ?hd_Reader ?po_Reader ?sa_Reader ?mk_Reader ?kc_Reader ?n_Reader_numbers ?n_Reader_place ?aC_UnknownCall ?xF_UnknownCall ?kF_UnknownCall ?bF_UnknownCall ?tF_UnknownCall ?aC_House ?pg_House ?hd_House ?po_House ?sa_House ?mk_House ?kc_House ?n_House_fact_count ?n_House_rooms ?n_House_acts ?n_House_so ?n_House_amounts ?n_House_wished_facts ?n_House_wished_amounts ?a_d0 ?i_d0 ?l_d0 ?c_d0 ?k_d0 ?a_d1 ?l_d1 ?c_d1 ?k_d1 ?a_d2 ?l_d2 ?c_d2 ?k_d2 ?a_d3 ?l_d3 ?c_d3 ?k_d3 ?a_d4 ?l_d4 ?c_d4 ?k_d4 ?a_d5 ?l_d5 ?c_d5 ?k_d5 ?a_d6 ?l_d6 ?c_d6 ?k_d6 ?a_d7 ?l_d7 ?c_d7 ?k_d7 ?a_d8 ?l_d8 ?c_d8 ?k_d8 ?a_d9 ?l_d9 ?c_d9 ?k_d9 ?a_d10 ?l_d10 ?c_d10 ?k_d10 ?a_d11 ?l_d11 ?c_d11 ?k_d11 ?a_d12 ?l_d12 ?c_d12 ?k_d12 ?a_d13 ?l_d13 ?c_d13 ?k_d13 ?a_d14 ?i_d14 ?l_d14 ?c_d14 ?k_d14 ?a_d15 ?i_d15 ?l_d15 ?c_d15 ?k_d15 ?a_d16 ?i_d16 ?l_d16 ?c_d16 ?k_d16 ?a_d17 ?i_d17 ?l_d17 ?c_d17 ?k_d17 ?a_d18 ?i_d18 ?l_d18 ?c_d18 ?k_d18 ?a_d19 ?i_d19 ?l_d19 ?c_d19 ?k_d19 ?a_d20 ?i_d20 ?l_d20 ?c_d20 ?k_d20 ?a_d21 ?l_d21 ?c_d21 ?k_d21 ?a_d22 ?l_d22 ?cc_d22 ?t_d22 ?u_d22 ?k_d22 ?a_d23 ?l_d23 ?c_d23 ?k_d23 ?a_d24 ?l_d24 ?c_d24 ?k_d24 ?a_d25 ?i_d25 ?l_d25 ?c_d25 ?k_d25 ?a_d26 ?i_d26 ?l_d26 ?c_d26 ?k_d26 ?a_d27 ?i_d27 ?l_d27 ?c_d27 ?k_d27 ?a_d28 ?i_d28 ?l_d28 ?c_d28 ?k_d28 ?a_d29 ?i_d29 ?l_d29 ?c_d29 ?k_d29 ?a_d30 ?i_d30 ?l_d30 ?c_d30 ?k_d30 ?a_d31 ?i_d31 ?l_d31 ?c_d31 ?k_d31 ?a_d32 ?i_d32 ?l_d32 ?c_d32 ?k_d32 ?a_d33 ?i_d33 ?l_d33 ?c_d33 ?k_d33 ?a_d34 ?i_d34 ?l_d34 ?c_d34 ?k_d34 ?a_d35 ?i_d35 ?l_d35 ?c_d35 ?k_d35 ?a_d36 ?i_d36 ?l_d36 ?c_d36 ?k_d36 ?a_d37 ?i_d37 ?l_d37 ?c_d37 ?k_d37 ?a_d38 ?i_d38 ?l_d38 ?c_d38 ?k_d38 ?a_d39 ?i_d39 ?l_d39 ?c_d39 ?k_d39 ?a_d40 ?l_d40 ?c_d40 ?k_d40 ?a_d41 ?l_d41 ?c_d41 ?k_d41 ?g_MOST_FACTS ?g_MOST_STORES ?g_MOST_ROOM ?g_MOST_COST ?g_ACT_NUMBERS ?g_STORE_NUMBERS ?g_BEGINS ?g_ACT ?g_START ?g_WISH ?g_PLAN ?g_FRONT ?g_CHECK ?g_REACH ?g_DONE ?g_WRONG ?g_NO_STORE ?g_NOT_AS_WISHED ?g_NOT_TO_BE_DONE ?g_NO_PLAN ?g_FULL ?g_MOST_ACTS ?b_enumerate ?b_len ?b_list ?b_min ?b_range ?b_tuple ?b_zip
    (case isRec => rfl)
    (case aC_Act => k_is)
    (case pg_Act => k_is)
    (case hd_Act => k_is)
    (case po_Act => k_is)
    (case sa_Act => k_is)
    (case mk_Act => k_is)
    (case kc_Act => k_is)
    (case n_Act_needed => k_is)
    (case n_Act_barred => k_is)
    (case n_Act_brought => k_is)
    (case n_Act_taken => k_is)
    (case n_Act_cost => k_is)
    (case n_Act_stores => k_is)
    (case aC_Call => k_is)
    (case pg_Call => k_is)
    (case hd_Call => k_is)
    (case po_Call => k_is)
    (case sa_Call => k_is)
    (case mk_Call => k_is)
    (case kc_Call => k_is)
    (case n_Call_number => k_is)
    (case n_Call_wholes => k_is)
    (case n_Call_lists => k_is)
    (case aC_Reader => k_is)
    (case pg_Reader => k_is)
    (case hd_Reader => k_is)
    (case po_Reader => k_is)
    (case sa_Reader => k_is)
    (case mk_Reader => k_is)
    (case kc_Reader => k_is)
    (case n_Reader_numbers => k_is)
    (case n_Reader_place => k_is)
    (case aC_UnknownCall => k_is)
    (case xF_UnknownCall => k_exc)
    (case kF_UnknownCall => k_is)
    (case bF_UnknownCall => k_is)
    (case tF_UnknownCall => k_is)
    (case aC_House => k_is)
    (case pg_House => k_is)
    (case hd_House => k_is)
    (case po_House => k_is)
    (case sa_House => k_is)
    (case mk_House => k_is)
    (case kc_House => k_is)
    (case n_House_fact_count => k_is)
    (case n_House_rooms => k_is)
    (case n_House_acts => k_is)
    (case n_House_so => k_is)
    (case n_House_amounts => k_is)
    (case n_House_wished_facts => k_is)
    (case n_House_wished_amounts => k_is)
    (case a_d0 => k_is)
    (case i_d0 => k_is)
    (case l_d0 => k_is)
    (case c_d0 => k_is)
    (case k_d0 => k_is)
    (case a_d1 => k_is)
    (case l_d1 => k_is)
    (case c_d1 => k_is)
    (case k_d1 => k_is)
    (case a_d2 => k_is)
    (case l_d2 => k_is)
    (case c_d2 => k_is)
    (case k_d2 => k_is)
    (case a_d3 => k_is)
    (case l_d3 => k_is)
    (case c_d3 => k_is)
    (case k_d3 => k_is)
    (case a_d4 => k_is)
    (case l_d4 => k_is)
    (case c_d4 => k_is)
    (case k_d4 => k_is)
    (case a_d5 => k_is)
    (case l_d5 => k_is)
    (case c_d5 => k_is)
    (case k_d5 => k_is)
    (case a_d6 => k_is)
    (case l_d6 => k_is)
    (case c_d6 => k_is)
    (case k_d6 => k_is)
    (case a_d7 => k_is)
    (case l_d7 => k_is)
    (case c_d7 => k_is)
    (case k_d7 => k_is)
    (case a_d8 => k_is)
    (case l_d8 => k_is)
    (case c_d8 => k_is)
    (case k_d8 => k_is)
    (case a_d9 => k_is)
    (case l_d9 => k_is)
    (case c_d9 => k_is)
    (case k_d9 => k_is)
    (case a_d10 => k_is)
    (case l_d10 => k_is)
    (case c_d10 => k_is)
    (case k_d10 => k_is)
    (case a_d11 => k_is)
    (case l_d11 => k_is)
    (case c_d11 => k_is)
    (case k_d11 => k_is)
    (case a_d12 => k_is)
    (case l_d12 => k_is)
    (case c_d12 => k_is)
    (case k_d12 => k_is)
    (case a_d13 => k_is)
    (case l_d13 => k_is)
    (case c_d13 => k_is)
    (case k_d13 => k_is)
    (case a_d14 => k_is)
    (case i_d14 => k_is)
    (case l_d14 => k_is)
    (case c_d14 => k_is)
    (case k_d14 => k_is)
    (case a_d15 => k_is)
    (case i_d15 => k_is)
    (case l_d15 => k_is)
    (case c_d15 => k_is)
    (case k_d15 => k_is)
    (case a_d16 => k_is)
    (case i_d16 => k_is)
    (case l_d16 => k_is)
    (case c_d16 => k_is)
    (case k_d16 => k_is)
    (case a_d17 => k_is)
    (case i_d17 => k_is)
    (case l_d17 => k_is)
    (case c_d17 => k_is)
    (case k_d17 => k_is)
    (case a_d18 => k_is)
    (case i_d18 => k_is)
    (case l_d18 => k_is)
    (case c_d18 => k_is)
    (case k_d18 => k_is)
    (case a_d19 => k_is)
    (case i_d19 => k_is)
    (case l_d19 => k_is)
    (case c_d19 => k_is)
    (case k_d19 => k_is)
    (case a_d20 => k_is)
    (case i_d20 => k_is)
    (case l_d20 => k_is)
    (case c_d20 => k_is)
    (case k_d20 => k_is)
    (case a_d21 => k_is)
    (case l_d21 => k_is)
    (case c_d21 => k_is)
    (case k_d21 => k_is)
    (case a_d22 => k_is)
    (case l_d22 => k_is)
    (case cc_d22 => k_is)
    (case t_d22 => first | k_is | rfl | decide +kernel)
    (case u_d22 => first | k_is | rfl | decide +kernel)
    (case k_d22 => k_is)
    (case a_d23 => k_is)
    (case l_d23 => k_is)
    (case c_d23 => k_is)
    (case k_d23 => k_is)
    (case a_d24 => k_is)
    (case l_d24 => k_is)
    (case c_d24 => k_is)
    (case k_d24 => k_is)
    (case a_d25 => k_is)
    (case i_d25 => k_is)
    (case l_d25 => k_is)
    (case c_d25 => k_is)
    (case k_d25 => k_is)
    (case a_d26 => k_is)
    (case i_d26 => k_is)
    (case l_d26 => k_is)
    (case c_d26 => k_is)
    (case k_d26 => k_is)
    (case a_d27 => k_is)
    (case i_d27 => k_is)
    (case l_d27 => k_is)
    (case c_d27 => k_is)
    (case k_d27 => k_is)
    (case a_d28 => k_is)
    (case i_d28 => k_is)
    (case l_d28 => k_is)
    (case c_d28 => k_is)
    (case k_d28 => k_is)
    (case a_d29 => k_is)
    (case i_d29 => k_is)
    (case l_d29 => k_is)
    (case c_d29 => k_is)
    (case k_d29 => k_is)
    (case a_d30 => k_is)
    (case i_d30 => k_is)
    (case l_d30 => k_is)
    (case c_d30 => k_is)
    (case k_d30 => k_is)
    (case a_d31 => k_is)
    (case i_d31 => k_is)
    (case l_d31 => k_is)
    (case c_d31 => k_is)
    (case k_d31 => k_is)
    (case a_d32 => k_is)
    (case i_d32 => k_is)
    (case l_d32 => k_is)
    (case c_d32 => k_is)
    (case k_d32 => k_is)
    (case a_d33 => k_is)
    (case i_d33 => k_is)
    (case l_d33 => k_is)
    (case c_d33 => k_is)
    (case k_d33 => k_is)
    (case a_d34 => k_is)
    (case i_d34 => k_is)
    (case l_d34 => k_is)
    (case c_d34 => k_is)
    (case k_d34 => k_is)
    (case a_d35 => k_is)
    (case i_d35 => k_is)
    (case l_d35 => k_is)
    (case c_d35 => k_is)
    (case k_d35 => k_is)
    (case a_d36 => k_is)
    (case i_d36 => k_is)
    (case l_d36 => k_is)
    (case c_d36 => k_is)
    (case k_d36 => k_is)
    (case a_d37 => k_is)
    (case i_d37 => k_is)
    (case l_d37 => k_is)
    (case c_d37 => k_is)
    (case k_d37 => k_is)
    (case a_d38 => k_is)
    (case i_d38 => k_is)
    (case l_d38 => k_is)
    (case c_d38 => k_is)
    (case k_d38 => k_is)
    (case a_d39 => k_is)
    (case i_d39 => k_is)
    (case l_d39 => k_is)
    (case c_d39 => k_is)
    (case k_d39 => k_is)
    (case a_d40 => k_is)
    (case l_d40 => k_is)
    (case c_d40 => k_is)
    (case k_d40 => k_is)
    (case a_d41 => k_is)
    (case l_d41 => k_is)
    (case c_d41 => k_is)
    (case k_d41 => k_is)
    (case g_MOST_FACTS => k_is)
    (case g_MOST_STORES => k_is)
    (case g_MOST_ROOM => k_is)
    (case g_MOST_COST => k_is)
    (case g_ACT_NUMBERS => k_is)
    (case g_STORE_NUMBERS => k_is)
    (case g_BEGINS => k_is)
    (case g_ACT => k_is)
    (case g_START => k_is)
    (case g_WISH => k_is)
    (case g_PLAN => k_is)
    (case g_FRONT => k_is)
    (case g_CHECK => k_is)
    (case g_REACH => k_is)
    (case g_DONE => k_is)
    (case g_WRONG => k_is)
    (case g_NO_STORE => k_is)
    (case g_NOT_AS_WISHED => k_is)
    (case g_NOT_TO_BE_DONE => k_is)
    (case g_NO_PLAN => k_is)
    (case g_FULL => k_is)
    (case g_MOST_ACTS => k_is)
    (case b_enumerate => k_is)
    (case b_len => k_is)
    (case b_list => k_is)
    (case b_min => k_is)
    (case b_range => k_is)
    (case b_tuple => k_is)
    (case b_zip => k_is)
