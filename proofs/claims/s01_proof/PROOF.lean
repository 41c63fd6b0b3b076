import PyProof.Rows.All
import Wide.All
import OpenK.AllK
import Wide.FinOn
import PyProof.EqAt
import PyProof.EqKinds
import PyProof.TupleCall
import KE.BitLaws
import Open.SpecLaws
import KE.OsHead
import KE.OsGo
import KE.KSortTupG
import KE.KSortAny
import KE.KDictList
import KE.KDictSum
import KE.KDictLetter
import KE.KLam
import KE.KSortTupUse
import KE.KRegrown
import PySem.Challenge.RW_codeline_s01_answers
section
set_option linter.all false
namespace CM
open Kh296 (Code apart above)
open Kh297 (leastK insert anewAt anew moved levelOf rate Abs)
def wid (l : Nat) : Nat := 2 ^ (8 - l)
theorem wid_pos (l : Nat) : 0 < wid l := Nat.two_pow_pos _
theorem wid_dvd {l m : Nat} (h : l ≤ m) (hm : m ≤ 8) : ∃ D, D = 2 ^ (m - l) ∧ wid l = D * wid m := by
  refine ⟨_, rfl, ?_⟩
  unfold wid
  rw [← Nat.pow_add]
  congr 1
  omega
theorem wid_top (l : Nat) (h : l ≤ 8) : 2 ^ l * wid l = 256 := by
  unfold wid
  rw [← Nat.pow_add]
  have : l + (8 - l) = 8 := by omega
  rw [this]
theorem div_ne_iff {j D k : Nat} (hD : 0 < D) : ¬ (j / D = k) ↔ (k + 1) * D ≤ j ∨ j + 1 ≤ k * D := by
  have h1 : j / D < k ↔ j < k * D := Nat.div_lt_iff_lt_mul hD
  have h2 : k + 1 ≤ j / D ↔ (k + 1) * D ≤ j := Nat.le_div_iff_mul_le hD
  omega
theorem above_apart {l m k j : Nat} (h : l < m) (hm : m ≤ 8) : ¬ (j / 2 ^ (m - l) = k) ↔ ((k + 1) * wid l ≤ j * wid m ∨ (j + 1) * wid m ≤ k * wid l) := by
  obtain ⟨D, hD, e⟩ := wid_dvd (Nat.le_of_lt h) hm
  rw [← hD, e]
  have hp : 0 < D := by rw [hD]; exact Nat.two_pow_pos _
  have hw := wid_pos m
  rw [div_ne_iff hp]
  have a1 : (k + 1) * (D * wid m) ≤ j * wid m ↔ (k + 1) * D ≤ j := by
    rw [← Nat.mul_assoc]; exact Nat.mul_le_mul_right_iff hw
  have a2 : (j + 1) * wid m ≤ k * (D * wid m) ↔ j + 1 ≤ k * D := by
    rw [← Nat.mul_assoc]; exact Nat.mul_le_mul_right_iff hw
  rw [a1, a2]
theorem apart_iff {c d : Code} (hc : c.level ≤ 8) (hd : d.level ≤ 8) : apart c d = true ↔ ((c.k + 1) * wid c.level ≤ d.k * wid d.level ∨ (d.k + 1) * wid d.level ≤ c.k * wid c.level) := by
  obtain ⟨l, k⟩ := c
  obtain ⟨m, j⟩ := d
  dsimp only at *
  rcases Nat.lt_trichotomy l m with h | h | h
  · rw [← above_apart h hd]
    have n1 : ¬ m < l := by omega
    have n2 : ¬ (l = m) := by omega
    simp [apart, above, h, n1, n2, Kh296.Code.mk.injEq]
  · subst h
    have hw := wid_pos l
    have e : ((k + 1) * wid l ≤ j * wid l ∨ (j + 1) * wid l ≤ k * wid l) ↔ ¬ (k = j) := by
      rw [Nat.mul_le_mul_right_iff hw, Nat.mul_le_mul_right_iff hw]; omega
    rw [e]
    simp [apart, above, Kh296.Code.mk.injEq]
  · have n1 : ¬ l < m := by omega
    have n2 : ¬ (l = m) := by omega
    have e := above_apart (k := j) (j := k) h hc
    rw [Or.comm, ← e]
    simp [apart, above, h, n1, n2, Kh296.Code.mk.injEq]
def has (c : Code) (p : Nat) : Prop := c.k * wid c.level ≤ p ∧ p < (c.k + 1) * wid c.level
theorem apart_places {c d : Code} (hc : c.level ≤ 8) (hd : d.level ≤ 8) : apart c d = true ↔ ∀ p, has c p → ¬ has d p := by
  rw [apart_iff hc hd]
  have hw := wid_pos c.level
  have hv := wid_pos d.level
  have e1 : (c.k + 1) * wid c.level = c.k * wid c.level + wid c.level := Nat.succ_mul _ _
  have e2 : (d.k + 1) * wid d.level = d.k * wid d.level + wid d.level := Nat.succ_mul _ _
  unfold has
  rw [e1, e2]
  constructor
  · intro h p h1 h2; omega
  · intro h
    by_cases q : c.k * wid c.level ≤ d.k * wid d.level
    · have := h (d.k * wid d.level)
      omega
    · have := h (c.k * wid c.level)
      omega
theorem find_range {p : Nat → Bool} {n k : Nat} (hk : k < n) (h : p k = true) (hl : ∀ j, j < k → p j = false) : (List.range n).find? p = some k := by
  rw [List.find?_range_eq_some]
  exact ⟨h, by simpa using hk, fun j hj => by simp [hl j hj]⟩
theorem find_range_congr {p q : Nat → Bool} {n : Nat} (h : ∀ j, j < n → p j = q j) : (List.range n).find? p = (List.range n).find? q := by
  have : ∀ (l : List Nat), (∀ x ∈ l, p x = q x) → l.find? p = l.find? q := by
    intro l
    induction l with
    | nil => intro _; rfl
    | cons a r ih =>
      intro h
      rw [List.find?_cons, List.find?_cons, h a (List.mem_cons_self ..), ih fun x hx => h x (List.mem_cons_of_mem _ hx)]
  exact this _ fun x hx => h x (List.mem_range.mp hx)
def Taken (cs : List Code) (p : Nat) : Prop := ∃ c ∈ cs, has c p
theorem all_apart_iff {cs : List Code} (hcs : ∀ c ∈ cs, c.level ≤ 8) {l k : Nat} (hl : l ≤ 8) : (cs.all fun c => apart ⟨l, k⟩ c) = true ↔ ∀ p, k * wid l ≤ p → p < (k + 1) * wid l → ¬ Taken cs p := by
  rw [List.all_eq_true]
  constructor
  · rintro h p h1 h2 ⟨c, hc, hp⟩
    exact (apart_places (c := ⟨l, k⟩) hl (hcs c hc)).mp (h c hc) p ⟨h1, h2⟩ hp
  · intro h c hc
    exact (apart_places (c := ⟨l, k⟩) hl (hcs c hc)).mpr fun p hp hq => h p hp.1 hp.2 ⟨c, hc, hq⟩
theorem leastK_taken {cs : List Code} (hcs : ∀ c ∈ cs, c.level ≤ 8) {l : Nat} (hl : l ≤ 8) {f : Nat → Bool}
    (hf : ∀ k, k < 2 ^ l → (f k = true ↔ ∀ p, k * wid l ≤ p → p < (k + 1) * wid l → ¬ Taken cs p)) : leastK l cs = (List.range (2 ^ l)).find? f := by
  unfold leastK
  refine find_range_congr fun k hk => ?_
  rw [Bool.eq_iff_iff, all_apart_iff hcs hl, hf k hk]
theorem leastK_full {cs : List Code} (hcs : ∀ c ∈ cs, c.level ≤ 8) {l S : Nat} (hl : l ≤ 8) (hS : S % wid l = 0) (hle : S + wid l ≤ 256) (ht : ∀ p, Taken cs p ↔ p < S) : leastK l cs = some (S / wid l) := by
  have hw := wid_pos l
  have e : S / wid l * wid l = S := Nat.div_mul_cancel (Nat.dvd_of_mod_eq_zero hS)
  unfold leastK
  refine find_range ?_ ?_ ?_
  · have := wid_top l hl
    refine (Nat.div_lt_iff_lt_mul hw).mpr ?_
    omega
  · rw [all_apart_iff hcs hl]
    intro p h1 _ h3
    rw [e] at h1
    have := (ht p).mp h3
    omega
  · intro j hj
    rw [Bool.eq_false_iff]
    intro q
    rw [all_apart_iff hcs hl] at q
    refine q (j * wid l) (Nat.le_refl _) (by rw [Nat.succ_mul]; omega) ((ht _).mpr ?_)
    rw [← e]
    exact Nat.mul_lt_mul_of_pos_right hj hw
end CM
end
section
set_option linter.all false
namespace CM
open Kh296 (Code apart above)
open Kh297 (leastK insert anewAt anew moved levelOf rate Abs)
theorem mem_insert {x y : Nat × Code} : ∀ {l : List (Nat × Code)}, y ∈ insert x l ↔ y = x ∨ y ∈ l
  | [] => by simp [Kh297.insert]
  | z :: l => by
    unfold Kh297.insert
    split
    · simp
    · rw [List.mem_cons, mem_insert (l := l), List.mem_cons]
      constructor
      · rintro (h | h | h) <;> simp [h]
      · rintro (h | h | h) <;> simp [h]
theorem insert_perm (x : Nat × Code) : ∀ l : List (Nat × Code), (insert x l).Perm (x :: l)
  | [] => .refl _
  | z :: l => by
    unfold Kh297.insert
    split
    · exact .refl _
    · exact ((insert_perm x l).cons z).trans (.swap x z l)
abbrev Up (l : List (Nat × Code)) : Prop := l.Pairwise fun x y => x.1 < y.1
theorem insert_up {x : Nat × Code} : ∀ {l : List (Nat × Code)}, Up l → (∀ y ∈ l, y.1 ≠ x.1) → Up (insert x l)
  | [], _, _ => by simp [Kh297.insert, Up]
  | z :: l, h, hn => by
    have h1 := List.pairwise_cons.mp h
    have hz := hn z (List.mem_cons_self ..)
    unfold Kh297.insert
    split
    · rename_i q
      refine List.pairwise_cons.mpr ⟨fun y hy => ?_, h⟩
      rcases List.mem_cons.mp hy with rfl | hy
      · exact q
      · exact Nat.lt_trans q (h1.1 y hy)
    · rename_i q
      refine List.pairwise_cons.mpr ⟨fun y hy => ?_, insert_up h1.2 fun y hy => hn y (List.mem_cons_of_mem _ hy)⟩
      rcases mem_insert.mp hy with rfl | hy
      · omega
      · exact h1.1 y hy
theorem up_ext {α : Type} {key : α → Nat} : ∀ {l m : List α}, (l.Pairwise fun x y => key x < key y) → (m.Pairwise fun x y => key x < key y) → l.Perm m → l = m
  | [], m, _, _, p => (List.nil_perm.mp p).symm
  | x :: l, [], _, _, p => absurd p.length_eq (by simp)
  | x :: l, y :: m, hl, hm, p => by
    have h1 := List.pairwise_cons.mp hl
    have h2 := List.pairwise_cons.mp hm
    have e : x = y := by
      have hx : x ∈ y :: m := p.mem_iff.mp (List.mem_cons_self ..)
      have hy : y ∈ x :: l := p.mem_iff.mpr (List.mem_cons_self ..)
      rcases List.mem_cons.mp hx with e | hx
      · exact e
      · rcases List.mem_cons.mp hy with e | hy
        · exact e.symm
        · have := h1.1 y hy
          have := h2.1 x hx
          omega
    subst e
    rw [up_ext h1.2 h2.2 (List.perm_cons x |>.mp p)]
def give : Nat → List (Nat × Nat) → List (Nat × Code)
  | _, [] => []
  | p, (u, l) :: r => (u, ⟨l, p / wid l⟩) :: give (p + wid l) r
def step (given : List (Nat × Code)) (x : Nat × Nat) : List (Nat × Code) := match leastK x.2 (given.map Prod.snd) with
  | some k => insert (x.1, ⟨x.2, k⟩) given
  | none => given
theorem anewAt_step (l : Nat) : ∀ (us : List Nat) (given : List (Nat × Code)), anewAt l us given = (us.map fun u => (u, l)).foldl step given
  | [], _ => rfl
  | u :: r, given => by
    rw [List.map_cons, List.foldl_cons]
    unfold anewAt step
    dsimp only
    cases h : leastK l (given.map Prod.snd) with
    | some k => exact anewAt_step l r _
    | none => exact anewAt_step l r _
def order (want : List (Nat × Nat)) : List (Nat × Nat) := (List.range 9).flatMap fun l => want.filter fun x => x.2 == l
theorem filter_lev (want : List (Nat × Nat)) (l : Nat) : ((want.filter fun x => x.2 == l).map Prod.fst).map (fun u => (u, l)) = want.filter fun x => x.2 == l := by
  rw [List.map_map]
  conv => rhs; rw [← List.map_id (want.filter fun x => x.2 == l)]
  refine List.map_congr_left fun x hx => ?_
  have := (List.mem_filter.mp hx).2
  have e : x.2 = l := eq_of_beq this
  rw [← e]
  rfl
theorem anew_fold (want : List (Nat × Nat)) : anew want = (order want).foldl step [] := by
  unfold anew order
  have : ∀ (ls : List Nat) (g : List (Nat × Code)), ls.foldl (fun given l => anewAt l ((want.filter fun x => x.2 == l).map Prod.fst) given) g = (ls.flatMap fun l => want.filter fun x => x.2 == l).foldl step g := by
    intro ls
    induction ls with
    | nil => intro g; rfl
    | cons l r ih =>
      intro g
      rw [List.foldl_cons, List.flatMap_cons, List.foldl_append, ih, anewAt_step, filter_lev]
  exact this _ _
def total (L : List (Nat × Nat)) : Nat := (L.map fun x => wid x.2).sum
theorem fold_give : ∀ (L : List (Nat × Nat)) (given : List (Nat × Code)) (S : Nat), (∀ x ∈ L, x.2 ≤ 8) → (L.Pairwise fun x y => x.2 ≤ y.2) → (∀ x ∈ L, S % wid x.2 = 0) → S + total L ≤ 256 →
    (∀ c ∈ given.map Prod.snd, c.level ≤ 8) → (∀ p, Taken (given.map Prod.snd) p ↔ p < S) → Up given → (∀ x ∈ L, ∀ y ∈ given, y.1 ≠ x.1) → (L.map Prod.fst).Nodup →
    Up (L.foldl step given) ∧ (L.foldl step given).Perm (give S L ++ given)
  | [], given, S, _, _, _, _, _, _, hu, _, _ => ⟨hu, .refl _⟩
  | (u, l) :: L, given, S, h8, hp, hS, ht, hg, hT, hu, hn, hd => by
    have hl : l ≤ 8 := h8 (u, l) (List.mem_cons_self ..)
    have hSl : S % wid l = 0 := hS (u, l) (List.mem_cons_self ..)
    have htot : total ((u, l) :: L) = wid l + total L := by
      unfold total
      rw [List.map_cons, List.sum_cons]
    rw [htot] at ht
    have hk := leastK_full hg hl hSl (by omega) hT
    have hp1 := List.pairwise_cons.mp hp
    have est : step given (u, l) = insert (u, ⟨l, S / wid l⟩) given := by
      unfold step
      dsimp only
      rw [hk]
    rw [List.foldl_cons, est]
    have hun : ∀ y ∈ given, y.1 ≠ u := fun y hy => hn (u, l) (List.mem_cons_self ..) y hy
    have hw := wid_pos l
    have eS : S / wid l * wid l = S := Nat.div_mul_cancel (Nat.dvd_of_mod_eq_zero hSl)
    have hd1 : u ∉ L.map Prod.fst ∧ (L.map Prod.fst).Nodup := List.nodup_cons.mp hd
    have pm := insert_perm (u, (⟨l, S / wid l⟩ : Code)) given
    have q1 : ∀ x ∈ L, (S + wid l) % wid x.2 = 0 := fun x hx => by
      have a1 := hS x (List.mem_cons_of_mem _ hx)
      obtain ⟨D, _, e⟩ := wid_dvd (l := l) (m := x.2) (hp1.1 x hx) (h8 x (List.mem_cons_of_mem _ hx))
      rw [Nat.add_mod, a1, e, Nat.mul_mod_left, Nat.zero_mod]
    have q2 : ∀ c ∈ (insert (u, (⟨l, S / wid l⟩ : Code)) given).map Prod.snd, c.level ≤ 8 := fun c hc => by
      obtain ⟨y, hy, rfl⟩ := List.mem_map.mp hc
      rcases mem_insert.mp hy with rfl | hy
      · exact hl
      · exact hg _ (List.mem_map.mpr ⟨y, hy, rfl⟩)
    have q3 : ∀ p, Taken ((insert (u, (⟨l, S / wid l⟩ : Code)) given).map Prod.snd) p ↔ p < S + wid l := fun p => by
      have e1 : Taken ((insert (u, (⟨l, S / wid l⟩ : Code)) given).map Prod.snd) p ↔ has ⟨l, S / wid l⟩ p ∨ Taken (given.map Prod.snd) p := by
        unfold Taken
        constructor
        · rintro ⟨c, hc, h⟩
          obtain ⟨y, hy, rfl⟩ := List.mem_map.mp hc
          rcases mem_insert.mp hy with rfl | hy
          · exact .inl h
          · exact .inr ⟨_, List.mem_map.mpr ⟨y, hy, rfl⟩, h⟩
        · rintro (h | ⟨c, hc, h⟩)
          · exact ⟨_, List.mem_map.mpr ⟨_, mem_insert.mpr (.inl rfl), rfl⟩, h⟩
          · obtain ⟨y, hy, rfl⟩ := List.mem_map.mp hc
            exact ⟨_, List.mem_map.mpr ⟨y, mem_insert.mpr (.inr hy), rfl⟩, h⟩
      rw [e1, hT]
      unfold has
      dsimp only
      rw [Nat.succ_mul, eS]
      omega
    have q4 : ∀ x ∈ L, ∀ y ∈ insert (u, (⟨l, S / wid l⟩ : Code)) given, y.1 ≠ x.1 := fun x hx y hy => by
      rcases mem_insert.mp hy with rfl | hy
      · intro e
        exact hd1.1 (List.mem_map.mpr ⟨x, hx, e.symm⟩)
      · exact hn x (List.mem_cons_of_mem _ hx) y hy
    obtain ⟨r1, r2⟩ := fold_give L (insert (u, ⟨l, S / wid l⟩) given) (S + wid l) (fun x hx => h8 x (List.mem_cons_of_mem _ hx)) hp1.2 q1 (by omega) q2 q3 (insert_up hu hun) q4 hd1.2
    refine ⟨r1, r2.trans ?_⟩
    show (give (S + wid l) L ++ insert (u, ⟨l, S / wid l⟩) given).Perm ((u, ⟨l, S / wid l⟩) :: (give (S + wid l) L ++ given))
    exact ((List.Perm.refl _).append pm).trans List.perm_middle
theorem order_mem {want : List (Nat × Nat)} (h8 : ∀ x ∈ want, x.2 ≤ 8) {x : Nat × Nat} : x ∈ order want ↔ x ∈ want := by
  unfold order
  rw [List.mem_flatMap]
  constructor
  · rintro ⟨l, _, h⟩
    exact (List.mem_filter.mp h).1
  · intro h
    exact ⟨x.2, List.mem_range.mpr (by have := h8 x h; omega), List.mem_filter.mpr ⟨h, beq_self_eq_true _⟩⟩
def Before (x y : Nat × Nat) : Prop := x.2 < y.2 ∨ (x.2 = y.2 ∧ x.1 < y.1)
theorem order_sorted {want : List (Nat × Nat)} (hu : want.Pairwise fun x y => x.1 < y.1) : (order want).Pairwise Before := by
  unfold order
  rw [List.pairwise_flatMap]
  refine ⟨fun l _ => ?_, ?_⟩
  · refine (hu.filter _).imp_of_mem fun {x y} hx hy h => ?_
    have e1 : x.2 = l := eq_of_beq (List.mem_filter.mp hx).2
    have e2 : y.2 = l := eq_of_beq (List.mem_filter.mp hy).2
    exact .inr ⟨by rw [e1, e2], h⟩
  · refine List.pairwise_lt_range.imp ?_
    intro l m hlm x hx y hy
    have e1 : x.2 = l := eq_of_beq (List.mem_filter.mp hx).2
    have e2 : y.2 = m := eq_of_beq (List.mem_filter.mp hy).2
    exact .inl (by omega)
theorem perm_of {α : Type} : ∀ {l m : List α}, l.Nodup → m.Nodup → (∀ x, x ∈ l ↔ x ∈ m) → l.Perm m := fun hl hm h =>
  (List.perm_ext_iff_of_nodup hl hm).mpr h
theorem before_ne {l : List (Nat × Nat)} (h : l.Pairwise Before) : l.Nodup := h.imp fun {x y} q e => by
  subst e
  rcases q with q | ⟨_, q⟩ <;> omega
theorem up_nodup {l : List (Nat × Nat)} (h : l.Pairwise fun x y => x.1 < y.1) : l.Nodup := h.imp fun {x y} q e => by
  subst e; omega
theorem order_perm {want : List (Nat × Nat)} (h8 : ∀ x ∈ want, x.2 ≤ 8) (hu : want.Pairwise fun x y => x.1 < y.1) : (order want).Perm want :=
  perm_of (before_ne (order_sorted hu)) (up_nodup hu) fun x => order_mem h8
theorem before_ext : ∀ {l m : List (Nat × Nat)}, l.Pairwise Before → m.Pairwise Before → l.Perm m → l = m
  | [], m, _, _, p => (List.nil_perm.mp p).symm
  | x :: l, [], _, _, p => absurd p.length_eq (by simp)
  | x :: l, y :: m, hl, hm, p => by
    have h1 := List.pairwise_cons.mp hl
    have h2 := List.pairwise_cons.mp hm
    have e : x = y := by
      have hx : x ∈ y :: m := p.mem_iff.mp (List.mem_cons_self ..)
      have hy : y ∈ x :: l := p.mem_iff.mpr (List.mem_cons_self ..)
      rcases List.mem_cons.mp hx with e | hx
      · exact e
      · rcases List.mem_cons.mp hy with e | hy
        · exact e.symm
        · have a := h1.1 y hy
          have b := h2.1 x hx
          unfold Before at a b
          omega
    subst e
    rw [before_ext h1.2 h2.2 (List.perm_cons x |>.mp p)]
def kOf (L : List (Nat × Code)) (u : Nat) : Nat := ((L.find? fun x => x.1 == u).map fun x => x.2.k).getD 0
theorem find_of_mem {β : Type} : ∀ {L : List (Nat × β)} {x : Nat × β}, (L.map Prod.fst).Nodup → x ∈ L → L.find? (fun y => y.1 == x.1) = some x
  | [], _, _, h => by simp at h
  | y :: L, x, hd, h => by
    have h1 : y.1 ∉ L.map Prod.fst ∧ (L.map Prod.fst).Nodup := List.nodup_cons.mp hd
    rw [List.find?_cons]
    rcases List.mem_cons.mp h with rfl | h
    · rw [beq_self_eq_true]
    · have ne : ¬ y.1 = x.1 := fun e => h1.1 (List.mem_map.mpr ⟨x, h, e.symm⟩)
      rw [beq_eq_false_iff_ne.mpr ne]
      exact find_of_mem h1.2 h
theorem give_fst : ∀ (p : Nat) (L : List (Nat × Nat)), (give p L).map Prod.fst = L.map Prod.fst
  | _, [] => rfl
  | p, (u, l) :: r => by
    show u :: (give (p + wid l) r).map Prod.fst = u :: r.map Prod.fst
    rw [give_fst]
theorem give_level : ∀ (p : Nat) (L : List (Nat × Nat)), (give p L).map (fun x => (x.1, x.2.level)) = L
  | _, [] => rfl
  | p, (u, l) :: r => by
    show (u, l) :: (give (p + wid l) r).map _ = (u, l) :: r
    rw [give_level]
theorem anew_perm {want : List (Nat × Nat)} (h8 : ∀ x ∈ want, x.2 ≤ 8) (hu : want.Pairwise fun x y => x.1 < y.1) (ht : total want ≤ 256) : Up (anew want) ∧ (anew want).Perm (give 0 (order want)) := by
  have pm := order_perm h8 hu
  have hnd : ((order want).map Prod.fst).Nodup := by
    refine (pm.map Prod.fst).nodup_iff.mpr ?_
    rw [List.Nodup, List.pairwise_map]
    exact hu.imp fun h => by omega
  have := fold_give (order want) [] 0 (fun x hx => h8 x (pm.mem_iff.mp hx)) ((order_sorted hu).imp fun h => by rcases h with h | ⟨h, _⟩ <;> omega) (fun x _ => Nat.zero_mod _)
    (by
      have e : total (order want) = total want := (pm.map _).sum_nat
      omega)
    (fun c hc => by simp at hc) (fun p => by simp [Taken]) List.Pairwise.nil (fun x _ y hy => by simp at hy) hnd
  rw [← anew_fold, List.append_nil] at this
  exact this
theorem anew_eq {want : List (Nat × Nat)} (h8 : ∀ x ∈ want, x.2 ≤ 8) (hu : want.Pairwise fun x y => x.1 < y.1) (ht : total want ≤ 256) :
    anew want = want.map fun x => (x.1, (⟨x.2, kOf (give 0 (order want)) x.1⟩ : Code)) := by
  obtain ⟨h1, h2⟩ := anew_perm h8 hu ht
  have pm := order_perm h8 hu
  refine up_ext (key := Prod.fst) h1 ?_ ?_
  · rw [List.pairwise_map]
    exact hu
  · refine h2.trans ?_
    have hnd : ((give 0 (order want)).map Prod.fst).Nodup := by
      rw [give_fst]
      refine (pm.map Prod.fst).nodup_iff.mpr ?_
      rw [List.Nodup, List.pairwise_map]
      exact hu.imp fun h => by omega
    have e : give 0 (order want) = (order want).map fun x => (x.1, (⟨x.2, kOf (give 0 (order want)) x.1⟩ : Code)) := by
      conv => rhs; rw [← give_level 0 (order want)]
      rw [List.map_map]
      conv => lhs; rw [← List.map_id (give 0 (order want))]
      refine List.map_congr_left fun x hx => ?_
      have q := find_of_mem hnd hx
      have lv := give_level 0 (order want)
      show x = (x.1, (⟨x.2.level, kOf (give 0 (List.map (fun x => (x.1, x.2.level)) (give 0 (order want)))) x.1⟩ : Code))
      rw [lv]
      unfold kOf
      rw [q]
      rfl
    conv => lhs; rw [e]
    exact pm.map _
end CM
end
section
set_option linter.all false
namespace CM
open Kh296 (Code apart above)
open Kh297 (leastK insert anewAt anew moved levelOf rate Abs)
def paint (T : List Bool) (a : Nat) : Nat → List Bool
  | 0 => T
  | n + 1 => (paint T a n).set (a + n) true
theorem paint_length (T : List Bool) (a : Nat) : ∀ n, (paint T a n).length = T.length
  | 0 => rfl
  | n + 1 => by unfold paint; rw [List.length_set, paint_length T a n]
theorem paint_get (T : List Bool) (a p : Nat) (hp : p < T.length) : ∀ n, (paint T a n).getD p false = true ↔ (a ≤ p ∧ p < a + n) ∨ T.getD p false = true
  | 0 => by
    unfold paint
    constructor
    · intro h; exact .inr h
    · rintro (h | h)
      · omega
      · exact h
  | n + 1 => by
    unfold paint
    have ih := paint_get T a p hp n
    rw [List.getD_eq_getElem?_getD, List.getElem?_set]
    rw [List.getD_eq_getElem?_getD] at ih
    by_cases e : a + n = p
    · subst e
      rw [if_pos rfl, if_pos (by rw [paint_length]; exact hp)]
      simp
    · rw [if_neg e, ih]
      constructor
      · rintro (h | h)
        · exact .inl (by omega)
        · exact .inr h
      · rintro (h | h)
        · exact .inl (by omega)
        · exact .inr h
def rateOf (rs : List (Nat × Nat)) (u : Nat) : Nat := (rs.lookup u).getD 0
def takenBy (rs : List (Nat × Nat)) (T : List Bool) (x : Nat × Nat) : List Bool := paint T (x.2 * rateOf rs x.1) (rateOf rs x.1)
def takenOf (rs ks : List (Nat × Nat)) : List Bool := ks.foldl (takenBy rs) (List.replicate 256 false)
theorem takenBy_length (rs : List (Nat × Nat)) : ∀ (ks : List (Nat × Nat)) (T : List Bool), (ks.foldl (takenBy rs) T).length = T.length
  | [], _ => rfl
  | x :: ks, T => by
    rw [List.foldl_cons, takenBy_length rs ks]
    exact paint_length _ _ _
theorem takenOf_length (rs ks : List (Nat × Nat)) : (takenOf rs ks).length = 256 := by
  unfold takenOf
  rw [takenBy_length, List.length_replicate]
theorem taken_iff (rs : List (Nat × Nat)) (p : Nat) : ∀ (ks : List (Nat × Nat)) (T : List Bool), p < T.length →
    ((ks.foldl (takenBy rs) T).getD p false = true ↔ (∃ x ∈ ks, x.2 * rateOf rs x.1 ≤ p ∧ p < x.2 * rateOf rs x.1 + rateOf rs x.1) ∨ T.getD p false = true)
  | [], T, _ => by simp
  | x :: ks, T, hp => by
    rw [List.foldl_cons, taken_iff rs p ks _ (by unfold takenBy; rw [paint_length]; exact hp)]
    have e : (takenBy rs T x).getD p false = true ↔ _ := paint_get T (x.2 * rateOf rs x.1) p hp (rateOf rs x.1)
    rw [e]
    constructor
    · rintro (⟨y, hy, h⟩ | h | h)
      · exact .inl ⟨y, List.mem_cons_of_mem _ hy, h⟩
      · exact .inl ⟨x, List.mem_cons_self .., h⟩
      · exact .inr h
    · rintro (⟨y, hy, h⟩ | h)
      · rcases List.mem_cons.mp hy with rfl | hy
        · exact .inr (.inl h)
        · exact .inl ⟨y, hy, h⟩
      · exact .inr (.inr h)
theorem takenOf_iff (rs ks : List (Nat × Nat)) {p : Nat} (hp : p < 256) : (takenOf rs ks).getD p false = true ↔ ∃ x ∈ ks, x.2 * rateOf rs x.1 ≤ p ∧ p < x.2 * rateOf rs x.1 + rateOf rs x.1 := by
  unfold takenOf
  rw [taken_iff rs p ks _ (by rw [List.length_replicate]; exact hp)]
  constructor
  · rintro (h | h)
    · exact h
    · rw [List.getD_eq_getElem?_getD, List.getElem?_replicate, if_pos hp] at h
      simp at h
  · exact .inl
def freeAt (T : List Bool) (r k : Nat) : Bool := !((T.drop (k * r)).take r).contains true
def leastFree (T : List Bool) (r : Nat) : Option Nat := (List.range (256 / r)).find? (freeAt T r)
theorem freeAt_iff {T : List Bool} {r k : Nat} (hT : T.length = 256) (hk : (k + 1) * r ≤ 256) : freeAt T r k = true ↔ ∀ p, k * r ≤ p → p < (k + 1) * r → ¬ T.getD p false = true := by
  unfold freeAt
  rw [Bool.not_eq_true', ← Bool.not_eq_true, List.contains_iff_mem]
  rw [Nat.succ_mul] at *
  constructor
  · intro h p h1 h2 h3
    refine h ?_
    rw [List.mem_iff_getElem?]
    refine ⟨p - k * r, ?_⟩
    rw [List.getElem?_take_of_lt (by omega), List.getElem?_drop]
    have e : k * r + (p - k * r) = p := by omega
    rw [e]
    rw [List.getD_eq_getElem?_getD, List.getElem?_eq_getElem (by omega)] at h3
    rw [List.getElem?_eq_getElem (by omega)]
    exact congrArg some h3
  · intro h hm
    rw [List.mem_iff_getElem?] at hm
    obtain ⟨i, hi⟩ := hm
    have hl : i < r := by
      have := (List.getElem?_eq_some_iff.mp hi).1
      rw [List.length_take] at this
      omega
    rw [List.getElem?_take_of_lt hl, List.getElem?_drop] at hi
    refine h (k * r + i) (by omega) (by omega) ?_
    rw [List.getD_eq_getElem?_getD, hi]
    rfl
end CM
end
section
set_option linter.all false
namespace CM
open Kh296 (Code apart above)
open Kh297 (leastK insert anewAt anew moved levelOf rate Abs)
theorem lookup_mem {β : Type} : ∀ {l : List (Nat × β)} {u : Nat} {b : β}, (l.map Prod.fst).Nodup → ((u, b) ∈ l ↔ l.lookup u = some b)
  | [], u, b, _ => by simp
  | (a, c) :: l, u, b, hd => by
    have h1 : a ∉ l.map Prod.fst ∧ (l.map Prod.fst).Nodup := List.nodup_cons.mp hd
    rw [List.lookup_cons]
    by_cases e : u = a
    · subst e
      rw [beq_self_eq_true]
      constructor
      · intro h
        rcases List.mem_cons.mp h with h | h
        · cases h; rfl
        · exact absurd (List.mem_map.mpr ⟨(u, b), h, rfl⟩) h1.1
      · intro h
        cases h
        exact List.mem_cons_self ..
    · rw [beq_eq_false_iff_ne.mpr e]
      have ih := lookup_mem (l := l) (u := u) (b := b) h1.2
      rw [← ih]
      constructor
      · intro h
        rcases List.mem_cons.mp h with h | h
        · cases h; exact absurd rfl e
        · exact h
      · exact List.mem_cons_of_mem _
theorem lookup_perm {β : Type} {l m : List (Nat × β)} (p : l.Perm m) (hd : (m.map Prod.fst).Nodup) (u : Nat) : l.lookup u = m.lookup u := by
  have hl : (l.map Prod.fst).Nodup := (p.map Prod.fst).nodup_iff.mpr hd
  apply Option.ext
  intro b
  rw [← lookup_mem hl, ← lookup_mem hd]
  exact p.mem_iff
theorem lookup_map {β γ : Type} (f : β → γ) : ∀ (l : List (Nat × β)) (u : Nat), (l.map fun x => (x.1, f x.2)).lookup u = (l.lookup u).map f
  | [], _ => rfl
  | (a, b) :: l, u => by
    rw [List.map_cons, List.lookup_cons, List.lookup_cons]
    cases (u == a) with
    | true => rfl
    | false => exact lookup_map f l u
theorem find_lookup {β : Type} : ∀ (l : List (Nat × β)) (u : Nat), (l.find? fun x => x.1 == u).map Prod.snd = l.lookup u
  | [], _ => rfl
  | (a, b) :: l, u => by
    rw [List.find?_cons, List.lookup_cons]
    by_cases e : a = u
    · subst e; rw [beq_self_eq_true]; rfl
    · have e' : ¬ u = a := fun z => e z.symm
      rw [beq_eq_false_iff_ne.mpr e, beq_eq_false_iff_ne.mpr e']
      exact find_lookup l u
theorem has_lookup (a : Abs) (u : Nat) : a.has u = a.codes.lookup u := find_lookup a.codes u
theorem up_fst {β : Type} {l : List (Nat × β)} (h : l.Pairwise fun x y => x.1 < y.1) : (l.map Prod.fst).Nodup := by
  rw [List.Nodup, List.pairwise_map]
  exact h.imp fun h => by omega
structure Rel (codes : List (Nat × Code)) (rs ks : List (Nat × Nat)) : Prop where
  up : codes.Pairwise fun x y => x.1 < y.1
  ok : ∀ x ∈ codes, x.1 < 256 ∧ x.2.level ≤ 8 ∧ x.2.k < 2 ^ x.2.level
  rates : rs.Perm (codes.map fun x => (x.1, wid x.2.level))
  ks : ks.Perm (codes.map fun x => (x.1, x.2.k))
  tot : (codes.map fun x => wid x.2.level).sum ≤ 256
section
variable {codes : List (Nat × Code)} {rs ks : List (Nat × Nat)}
theorem map_fst_eq (f : Code → Nat) (codes : List (Nat × Code)) : (codes.map fun x => (x.1, f x.2)).map Prod.fst = codes.map Prod.fst := by rw [List.map_map]; rfl
theorem Rel.nd (R : Rel codes rs ks) : (codes.map Prod.fst).Nodup := up_fst R.up
theorem Rel.ndk (R : Rel codes rs ks) : (ks.map Prod.fst).Nodup := (R.ks.map Prod.fst).nodup_iff.mpr (by rw [map_fst_eq fun c => c.k]; exact R.nd)
theorem Rel.rate_at (R : Rel codes rs ks) (u : Nat) : rs.lookup u = (codes.lookup u).map fun c => wid c.level := by
  rw [lookup_perm R.rates (by rw [map_fst_eq fun c => wid c.level]; exact R.nd), lookup_map (fun c : Code => wid c.level)]
theorem Rel.k_at (R : Rel codes rs ks) (u : Nat) : ks.lookup u = (codes.lookup u).map fun c => c.k := by
  rw [lookup_perm R.ks (by rw [map_fst_eq fun c => c.k]; exact R.nd), lookup_map (fun c : Code => c.k)]
theorem Rel.sum (R : Rel codes rs ks) : (rs.map Prod.snd).sum = (codes.map fun x => wid x.2.level).sum := by
  have := (R.rates.map Prod.snd).sum_nat
  rw [this, List.map_map]
  rfl
theorem sum_len : ∀ (l : List (Nat × Code)), l.length ≤ (l.map fun x => wid x.2.level).sum
  | [] => by simp
  | x :: l => by
    rw [List.map_cons, List.sum_cons, List.length_cons]
    have := sum_len l
    have := wid_pos x.2.level
    omega
theorem Rel.len (R : Rel codes rs ks) : codes.length ≤ 256 := Nat.le_trans (sum_len codes) R.tot
theorem Rel.lenr (R : Rel codes rs ks) : rs.length ≤ 256 := by rw [R.rates.length_eq, List.length_map]; exact R.len
theorem Rel.lenk (R : Rel codes rs ks) : ks.length ≤ 256 := by rw [R.ks.length_eq, List.length_map]; exact R.len
theorem Rel.mem_k (R : Rel codes rs ks) {u k : Nat} (h : (u, k) ∈ ks) : ∃ c : Code, (u, c) ∈ codes ∧ c.k = k ∧ rs.lookup u = some (wid c.level) := by
  obtain ⟨x, hx, e⟩ := List.mem_map.mp (R.ks.mem_iff.mp h)
  cases e
  refine ⟨x.2, hx, rfl, ?_⟩
  rw [R.rate_at, (lookup_mem R.nd).mp (show (x.1, x.2) ∈ codes from hx)]
  rfl
theorem wid_le (l : Nat) : wid l ≤ 256 := by
  unfold wid
  exact Nat.pow_le_pow_right (by decide) (Nat.sub_le 8 l)
theorem ok_fit {c : Code} (h1 : c.level ≤ 8) (h2 : c.k < 2 ^ c.level) : (c.k + 1) * wid c.level ≤ 256 := by
  have := wid_top c.level h1
  rw [← this]
  exact Nat.mul_le_mul_right _ h2
theorem Rel.fits (R : Rel codes rs ks) : ∀ x ∈ ks, ∃ r, rs.lookup x.1 = some r ∧ (x.2 + 1) * r ≤ 256 := by
  rintro ⟨u, k⟩ h
  obtain ⟨c, hc, rfl, e⟩ := R.mem_k h
  exact ⟨_, e, ok_fit (R.ok _ hc).2.1 (R.ok _ hc).2.2⟩
theorem Rel.pos (R : Rel codes rs ks) : ∀ x ∈ rs, 0 < x.2 ∧ x.2 ≤ 256 := by
  intro x h
  obtain ⟨y, hy, rfl⟩ := List.mem_map.mp (R.rates.mem_iff.mp h)
  exact ⟨wid_pos _, wid_le _⟩
theorem Rel.taken (R : Rel codes rs ks) {p : Nat} (hp : p < 256) : (takenOf rs ks).getD p false = true ↔ Taken (codes.map Prod.snd) p := by
  rw [takenOf_iff rs ks hp]
  unfold Taken has
  constructor
  · rintro ⟨⟨u, k⟩, hx, h1, h2⟩
    obtain ⟨c, hc, rfl, e⟩ := R.mem_k hx
    have er : rateOf rs u = wid c.level := by unfold rateOf; rw [e]; rfl
    dsimp only at h1 h2
    rw [er] at h1 h2
    exact ⟨c, List.mem_map.mpr ⟨(u, c), hc, rfl⟩, h1, by rw [Nat.succ_mul]; exact h2⟩
  · rintro ⟨c, hc, h1, h2⟩
    obtain ⟨⟨u, c'⟩, hx, rfl⟩ := List.mem_map.mp hc
    have hk : (u, c'.k) ∈ ks := R.ks.mem_iff.mpr (List.mem_map.mpr ⟨_, hx, rfl⟩)
    have e : rs.lookup u = some (wid c'.level) := by rw [R.rate_at, (lookup_mem R.nd).mp hx]; rfl
    have er : rateOf rs u = wid c'.level := by unfold rateOf; rw [e]; rfl
    dsimp only at h1 h2
    rw [Nat.succ_mul] at h2
    exact ⟨(u, c'.k), hk, by dsimp only; rw [er]; exact h1, by dsimp only; rw [er]; exact h2⟩
theorem Rel.least (R : Rel codes rs ks) {l : Nat} (hl : l ≤ 8) : leastFree (takenOf rs ks) (wid l) = leastK l (codes.map Prod.snd) := by
  have hw := wid_pos l
  have hdiv : 256 / wid l = 2 ^ l := by rw [← wid_top l hl]; exact Nat.mul_div_cancel _ hw
  unfold leastFree
  rw [hdiv]
  symm
  refine leastK_taken (fun c hc => ?_) hl fun k hk => ?_
  · obtain ⟨x, hx, rfl⟩ := List.mem_map.mp hc
    exact (R.ok x hx).2.1
  · have hk2 : (k + 1) * wid l ≤ 256 := by rw [← wid_top l hl]; exact Nat.mul_le_mul_right _ hk
    rw [freeAt_iff (takenOf_length rs ks) hk2]
    constructor
    · intro h p h1 h2 h3
      exact h p h1 h2 ((R.taken (by omega)).mpr h3)
    · intro h p h1 h2 h3
      exact h p h1 h2 ((R.taken (by omega)).mp h3)
end
end CM
end
section
set_option linter.all false
namespace CM
open Kh296 (Code apart above)
open Kh297 (leastK insert anewAt anew moved levelOf rate Abs)
def givenK (m : List (Nat × Nat)) : Nat → List Nat → List (Nat × Nat)
  | _, [] => []
  | p, u :: r => (u, p / rateOf m u) :: givenK m (p + rateOf m u) r
def placeAt (m : List (Nat × Nat)) (us : List Nat) : Nat := (us.map (rateOf m)).sum
theorem givenK_snoc (m : List (Nat × Nat)) : ∀ (us : List Nat) (p u : Nat), givenK m p (us ++ [u]) = givenK m p us ++ [(u, (p + placeAt m us) / rateOf m u)]
  | [], p, u => by simp [givenK, placeAt]
  | x :: us, p, u => by
    show (x, p / rateOf m x) :: givenK m (p + rateOf m x) (us ++ [u]) = (x, p / rateOf m x) :: givenK m (p + rateOf m x) us ++ _
    rw [givenK_snoc m us]
    have : p + rateOf m x + placeAt m us = p + placeAt m (x :: us) := by unfold placeAt; rw [List.map_cons, List.sum_cons]; omega
    rw [this]
    rfl
theorem givenK_fst (m : List (Nat × Nat)) : ∀ (us : List Nat) (p : Nat), (givenK m p us).map (·.1) = us
  | [], _ => rfl
  | u :: us, p => by
    show u :: (givenK m (p + rateOf m u) us).map (·.1) = u :: us
    rw [givenK_fst]
theorem placeAt_snoc (m : List (Nat × Nat)) (us : List Nat) (u : Nat) : placeAt m (us ++ [u]) = placeAt m us + rateOf m u := by
  unfold placeAt
  rw [List.map_append, List.sum_append]
  simp
theorem givenK_give (m : List (Nat × Nat)) : ∀ (L : List (Nat × Nat)) (p : Nat), (∀ x ∈ L, rateOf m x.1 = wid x.2) → givenK m p (L.map Prod.fst) = (give p L).map fun x => (x.1, x.2.k)
  | [], _, _ => rfl
  | (u, l) :: L, p, h => by
    have e : rateOf m u = wid l := h (u, l) (List.mem_cons_self ..)
    show (u, p / rateOf m u) :: givenK m (p + rateOf m u) (L.map Prod.fst) = (u, p / wid l) :: (give (p + wid l) L).map fun x => (x.1, x.2.k)
    rw [e, givenK_give m L _ fun x hx => h x (List.mem_cons_of_mem _ hx)]
theorem lookup_none_iff {β : Type} {l : List (Nat × β)} {u : Nat} : l.lookup u = none ↔ ∀ x ∈ l, x.1 ≠ u := by
  induction l with
  | nil => simp
  | cons p l ih =>
    obtain ⟨a, b⟩ := p
    rw [List.lookup_cons]
    by_cases e : u = a
    · subst e
      rw [beq_self_eq_true]
      constructor
      · intro h; cases h
      · intro h; exact absurd rfl (h (u, b) (List.mem_cons_self ..))
    · rw [beq_eq_false_iff_ne.mpr e]
      show l.lookup u = none ↔ _
      rw [ih]
      constructor
      · intro h x hx
        rcases List.mem_cons.mp hx with rfl | hx
        · exact fun z => e z.symm
        · exact h x hx
      · intro h x hx
        exact h x (List.mem_cons_of_mem _ hx)
section
variable {codes : List (Nat × Code)} {rs ks : List (Nat × Nat)}
theorem leastK_lt {l k : Nat} {cs : List Code} (h : leastK l cs = some k) : k < 2 ^ l := by
  unfold leastK at h
  have := List.mem_of_find?_eq_some h
  exact List.mem_range.mp this
theorem Rel.open_free (R : Rel codes rs ks) {u l k : Nat} (hu : u < 256) (hn : codes.lookup u = none) (hl : l ≤ 8) (hk : leastK l (codes.map Prod.snd) = some k) (ht : (codes.map fun x => wid x.2.level).sum + wid l ≤ 256) :
    Rel (insert (u, ⟨l, k⟩) codes) (rs ++ [(u, wid l)]) (ks ++ [(u, k)]) := by
  have pm := insert_perm (u, (⟨l, k⟩ : Code)) codes
  refine ⟨insert_up R.up (lookup_none_iff.mp hn), fun x hx => ?_, ?_, ?_, ?_⟩
  · rcases mem_insert.mp hx with rfl | hx
    · exact ⟨hu, hl, leastK_lt hk⟩
    · exact R.ok x hx
  · refine (R.rates.append_right _).trans ((List.perm_append_comm).trans ?_)
    exact (pm.map fun x => (x.1, wid x.2.level)).symm
  · refine (R.ks.append_right _).trans ((List.perm_append_comm).trans ?_)
    exact (pm.map fun x => (x.1, x.2.k)).symm
  · have := (pm.map fun x => wid x.2.level).sum_nat
    rw [this, List.map_cons, List.sum_cons]
    exact Nat.le_trans (Nat.le_of_eq (Nat.add_comm _ _)) ht
abbrev iw (x : Nat × Nat) (l : List (Nat × Nat)) : List (Nat × Nat) := Kh297.opened.insertWant x l
theorem mem_iw {x y : Nat × Nat} : ∀ {l : List (Nat × Nat)}, y ∈ iw x l ↔ y = x ∨ y ∈ l
  | [] => by simp [iw, Kh297.opened.insertWant]
  | z :: l => by
    unfold iw Kh297.opened.insertWant
    split
    · simp
    · rw [List.mem_cons, show y ∈ Kh297.opened.insertWant x l ↔ _ from mem_iw (l := l), List.mem_cons]
      constructor
      · rintro (h | h | h) <;> simp [h]
      · rintro (h | h | h) <;> simp [h]
theorem iw_perm (x : Nat × Nat) : ∀ l : List (Nat × Nat), (iw x l).Perm (x :: l)
  | [] => .refl _
  | z :: l => by
    unfold iw Kh297.opened.insertWant
    split
    · exact .refl _
    · exact ((iw_perm x l).cons z).trans (.swap x z l)
theorem iw_up {x : Nat × Nat} : ∀ {l : List (Nat × Nat)}, (l.Pairwise fun x y => x.1 < y.1) → (∀ y ∈ l, y.1 ≠ x.1) → (iw x l).Pairwise fun x y => x.1 < y.1
  | [], _, _ => by simp [iw, Kh297.opened.insertWant]
  | z :: l, h, hn => by
    have h1 := List.pairwise_cons.mp h
    have hz := hn z (List.mem_cons_self ..)
    unfold iw Kh297.opened.insertWant
    split
    · rename_i q
      refine List.pairwise_cons.mpr ⟨fun y hy => ?_, h⟩
      rcases List.mem_cons.mp hy with rfl | hy
      · exact q
      · exact Nat.lt_trans q (h1.1 y hy)
    · rename_i q
      refine List.pairwise_cons.mpr ⟨fun y hy => ?_, iw_up h1.2 fun y hy => hn y (List.mem_cons_of_mem _ hy)⟩
      rcases mem_iw.mp (show y ∈ iw x l from hy) with rfl | hy
      · omega
      · exact h1.1 y hy
theorem wid_lt {l m : Nat} (hl : l ≤ 8) (hm : m ≤ 8) : wid l < wid m ↔ m < l := by
  unfold wid
  rw [Nat.pow_lt_pow_iff_right (by decide)]
  omega
theorem wid_inj {l m : Nat} (hl : l ≤ 8) (hm : m ≤ 8) (h : wid l = wid m) : l = m := by
  rcases Nat.lt_trichotomy l m with q | q | q
  · have := (wid_lt hm hl).mpr q
    omega
  · exact q
  · have := (wid_lt hl hm).mpr q
    omega
def want (codes : List (Nat × Code)) (u l : Nat) : List (Nat × Nat) := iw (u, l) (codes.map fun x => (x.1, x.2.level))
structure Wanted (codes : List (Nat × Code)) (u l : Nat) : Prop where
  up : (want codes u l).Pairwise fun x y => x.1 < y.1
  le : ∀ x ∈ want codes u l, x.2 ≤ 8
  tot : total (want codes u l) ≤ 256
theorem Rel.wanted (R : Rel codes rs ks) {u l : Nat} (hn : codes.lookup u = none) (hl : l ≤ 8) (ht : (codes.map fun x => wid x.2.level).sum + wid l ≤ 256) : Wanted codes u l := by
  refine ⟨iw_up ?_ fun y hy => ?_, fun x hx => ?_, ?_⟩
  · rw [List.pairwise_map]
    exact R.up
  · obtain ⟨x, hx, rfl⟩ := List.mem_map.mp hy
    exact lookup_none_iff.mp hn x hx
  · rcases mem_iw.mp hx with rfl | hx
    · exact hl
    · obtain ⟨y, hy, rfl⟩ := List.mem_map.mp hx
      exact (R.ok y hy).2.1
  · have := ((iw_perm (u, l) (codes.map fun x => (x.1, x.2.level))).map fun x => wid x.2).sum_nat
    unfold total want
    rw [this, List.map_cons, List.sum_cons, List.map_map]
    have e : ((fun x : Nat × Nat => wid x.2) ∘ fun x : Nat × Code => (x.1, x.2.level)) = fun x => wid x.2.level := rfl
    rw [e]
    dsimp only
    omega
theorem Rel.rs_want (R : Rel codes rs ks) (u l : Nat) : (rs ++ [(u, wid l)]).Perm ((want codes u l).map fun x => (x.1, wid x.2)) := by
  refine (R.rates.append_right _).trans ((List.perm_append_comm).trans ?_)
  have := (iw_perm (u, l) (codes.map fun x => (x.1, x.2.level))).map fun x => (x.1, wid x.2)
  rw [List.map_cons, List.map_map] at this
  exact this.symm
theorem Rel.rate_want (R : Rel codes rs ks) {u l : Nat} (W : Wanted codes u l) : ∀ x ∈ want codes u l, rateOf (rs ++ [(u, wid l)]) x.1 = wid x.2 := by
  intro x hx
  have hnd : (((want codes u l).map fun x => (x.1, wid x.2)).map Prod.fst).Nodup := by
    rw [List.map_map]
    exact up_fst W.up
  unfold rateOf
  rw [lookup_perm (R.rs_want u l) hnd, (lookup_mem hnd).mp (show (x.1, wid x.2) ∈ _ from List.mem_map.mpr ⟨x, hx, rfl⟩)]
  rfl
theorem Rel.sorted_order (R : Rel codes rs ks) {u l : Nat} (W : Wanted codes u l) {us' : List Nat} (hp : us'.Perm ((rs ++ [(u, wid l)]).map Prod.fst))
    (hs : us'.Pairwise fun x y => rateOf (rs ++ [(u, wid l)]) y < rateOf (rs ++ [(u, wid l)]) x ∨ (rateOf (rs ++ [(u, wid l)]) x = rateOf (rs ++ [(u, wid l)]) y ∧ x ≤ y)) : us' = (order (want codes u l)).map Prod.fst := by
  have hnd : ((want codes u l).map Prod.fst).Nodup := up_fst W.up
  have e0 : ((want codes u l).map fun x => (x.1, wid x.2)).map Prod.fst = (want codes u l).map Prod.fst := by rw [List.map_map]; rfl
  have hp1 : us'.Perm ((want codes u l).map Prod.fst) := by
    rw [← e0]
    exact hp.trans ((R.rs_want u l).map Prod.fst)
  have hud : us'.Nodup := hp1.nodup_iff.mpr hnd
  let lev : Nat → Nat := fun v => ((want codes u l).lookup v).getD 0
  have hlev : ∀ x ∈ want codes u l, lev x.1 = x.2 := fun x hx => by
    show ((want codes u l).lookup x.1).getD 0 = x.2
    rw [(lookup_mem hnd).mp (show (x.1, x.2) ∈ want codes u l from hx)]
    rfl
  have hL : (us'.map fun v => (v, lev v)).Perm (want codes u l) := by
    have := hp1.map fun v => (v, lev v)
    rw [List.map_map] at this
    have e : (want codes u l).map ((fun v => (v, lev v)) ∘ Prod.fst) = want codes u l := by
      conv => rhs; rw [← List.map_id (want codes u l)]
      refine List.map_congr_left fun x hx => ?_
      show (x.1, lev x.1) = x
      rw [hlev x hx]
    rw [e] at this
    exact this
  have hmem : ∀ v ∈ us', (v, lev v) ∈ want codes u l := fun v hv => hL.mem_iff.mp (List.mem_map.mpr ⟨v, hv, rfl⟩)
  have hB : (us'.map fun v => (v, lev v)).Pairwise Before := by
    rw [List.pairwise_map]
    have hs2 := hs.and hud
    refine hs2.imp_of_mem fun {x y} hx hy h => ?_
    have hx1 := hmem x hx
    have hy1 := hmem y hy
    have rx : rateOf (rs ++ [(u, wid l)]) x = wid (lev x) := R.rate_want W _ hx1
    have ry : rateOf (rs ++ [(u, wid l)]) y = wid (lev y) := R.rate_want W _ hy1
    have lx : lev x ≤ 8 := W.le _ hx1
    have ly : lev y ≤ 8 := W.le _ hy1
    obtain ⟨h, ne⟩ := h
    rw [rx, ry] at h
    rcases h with h | ⟨h, h'⟩
    · exact .inl ((wid_lt ly lx).mp h)
    · refine .inr ⟨wid_inj lx ly h, ?_⟩
      dsimp only
      omega
  have eo := before_ext hB (order_sorted W.up) (hL.trans (order_perm W.le W.up).symm)
  rw [← eo, List.map_map]
  conv => lhs; rw [← List.map_id us']
  rfl
theorem Rel.anew_ks (R : Rel codes rs ks) {u l : Nat} (W : Wanted codes u l) : givenK (rs ++ [(u, wid l)]) 0 ((order (want codes u l)).map Prod.fst) = (give 0 (order (want codes u l))).map fun x => (x.1, x.2.k) :=
  givenK_give _ _ _ fun x hx => R.rate_want W x ((order_mem W.le).mp hx)
theorem give_ok : ∀ (L : List (Nat × Nat)) (S : Nat), (∀ x ∈ L, x.2 ≤ 8) → (L.Pairwise fun x y => x.2 ≤ y.2) → (∀ x ∈ L, S % wid x.2 = 0) → S + total L ≤ 256 → ∀ x ∈ give S L, x.2.level ≤ 8 ∧ x.2.k < 2 ^ x.2.level
  | [], _, _, _, _, _, x, hx => by simp [give] at hx
  | (u, l) :: L, S, h8, hp, hS, ht, x, hx => by
    have htot : total ((u, l) :: L) = wid l + total L := by
      unfold total
      rw [List.map_cons, List.sum_cons]
    rw [htot] at ht
    have hl : l ≤ 8 := h8 (u, l) (List.mem_cons_self ..)
    have hp1 := List.pairwise_cons.mp hp
    rcases List.mem_cons.mp (show x ∈ (u, (⟨l, S / wid l⟩ : Code)) :: give (S + wid l) L from hx) with rfl | hx
    · refine ⟨hl, ?_⟩
      show S / wid l < 2 ^ l
      refine (Nat.div_lt_iff_lt_mul (wid_pos l)).mpr ?_
      rw [wid_top l hl]
      have := wid_pos l
      omega
    · refine give_ok L (S + wid l) (fun x hx => h8 x (List.mem_cons_of_mem _ hx)) hp1.2 (fun x hx => ?_) (by omega) x hx
      have a1 := hS x (List.mem_cons_of_mem _ hx)
      obtain ⟨D, _, e⟩ := wid_dvd (l := l) (m := x.2) (hp1.1 x hx) (h8 x (List.mem_cons_of_mem _ hx))
      rw [Nat.add_mod, a1, e, Nat.mul_mod_left, Nat.zero_mod]
theorem Rel.open_anew (R : Rel codes rs ks) {u l : Nat} (hu : u < 256) (W : Wanted codes u l) : Rel (anew (want codes u l)) (rs ++ [(u, wid l)]) ((give 0 (order (want codes u l))).map fun x => (x.1, x.2.k)) := by
  obtain ⟨h1, h2⟩ := anew_perm W.le W.up W.tot
  have pm := order_perm W.le W.up
  have gl := give_level 0 (order (want codes u l))
  have hpr : ((anew (want codes u l)).map fun x => (x.1, x.2.level)).Perm (want codes u l) := by
    have := h2.map fun x => (x.1, x.2.level)
    rw [gl] at this
    exact this.trans pm
  refine ⟨h1, fun x hx => ?_, ?_, ?_, ?_⟩
  · have hx' := h2.mem_iff.mp hx
    obtain ⟨a, b⟩ := give_ok (order (want codes u l)) 0 (fun y hy => W.le y (pm.mem_iff.mp hy)) ((order_sorted W.up).imp fun h => by rcases h with h | ⟨h, _⟩ <;> omega) (fun y _ => Nat.zero_mod _) (by
      have e : total (order (want codes u l)) = total (want codes u l) := (pm.map _).sum_nat
      have := W.tot
      omega) x hx'
    refine ⟨?_, a, b⟩
    have hm : (x.1, x.2.level) ∈ want codes u l := hpr.mem_iff.mp (List.mem_map.mpr ⟨x, hx, rfl⟩)
    rcases mem_iw.mp hm with e | hm
    · have : x.1 = u := congrArg Prod.fst e
      omega
    · obtain ⟨y, hy, e⟩ := List.mem_map.mp hm
      have : y.1 = x.1 := (Prod.mk.inj e).1
      rw [← this]
      exact (R.ok y hy).1
  · refine (R.rs_want u l).trans ?_
    have := (hpr.map fun x => (x.1, wid x.2)).symm
    rw [List.map_map] at this
    exact this
  · exact (h2.map fun x => (x.1, x.2.k)).symm
  · have := (hpr.map fun x => wid x.2).sum_nat
    rw [List.map_map] at this
    have e : ((fun x : Nat × Nat => wid x.2) ∘ fun x : Nat × Code => (x.1, x.2.level)) = fun x => wid x.2.level := rfl
    rw [e] at this
    rw [this]
    exact W.tot
end
end CM
end
section
set_option linter.all false
namespace CM
open Kh296 (Code apart above)
open Kh297 (leastK insert anewAt anew moved levelOf rate Abs)
section
variable {codes : List (Nat × Code)} {rs ks : List (Nat × Nat)}
theorem iw_filter {p : Nat × Nat → Bool} {x : Nat × Nat} (hx : p x = false) : ∀ l : List (Nat × Nat), (iw x l).filter p = l.filter p
  | [] => by
    show [x].filter p = []
    rw [List.filter_cons, hx]
    rfl
  | z :: l => by
    unfold iw Kh297.opened.insertWant
    split
    · rw [List.filter_cons, hx]
      rfl
    · rw [List.filter_cons, List.filter_cons, show (Kh297.opened.insertWant x l).filter p = l.filter p from iw_filter hx l]
def newK (codes : List (Nat × Code)) (u l : Nat) : List (Nat × Nat) := (give 0 (order (want codes u l))).map fun x => (x.1, x.2.k)
theorem newK_nd {u l : Nat} (W : Wanted codes u l) : ((newK codes u l).map Prod.fst).Nodup := by
  unfold newK
  rw [List.map_map]
  show ((give 0 (order (want codes u l))).map Prod.fst).Nodup
  rw [give_fst]
  exact ((order_perm W.le W.up).map Prod.fst).nodup_iff.mpr (up_fst W.up)
theorem newK_at {u l : Nat} (W : Wanted codes u l) {x : Nat × Nat} (hx : x ∈ want codes u l) : (newK codes u l).lookup x.1 = some (kOf (give 0 (order (want codes u l))) x.1) := by
  have h1 : x.1 ∈ (give 0 (order (want codes u l))).map Prod.fst := by
    rw [give_fst]
    exact List.mem_map.mpr ⟨x, (order_mem W.le).mpr hx, rfl⟩
  obtain ⟨y, hy, e⟩ := List.mem_map.mp h1
  have hnd : ((give 0 (order (want codes u l))).map Prod.fst).Nodup := by
    rw [give_fst]
    exact ((order_perm W.le W.up).map Prod.fst).nodup_iff.mpr (up_fst W.up)
  have hf := find_of_mem hnd hy
  rw [e] at hf
  unfold kOf
  rw [hf]
  refine (lookup_mem (newK_nd W)).mp ?_
  rw [← e]
  exact List.mem_map.mpr ⟨y, hy, rfl⟩
theorem mem_unique (hnd : (codes.map Prod.fst).Nodup) {x y : Nat × Code} (hx : x ∈ codes) (hy : y ∈ codes) (e : x.1 = y.1) : x = y := by
  have h1 := (lookup_mem hnd).mp (show (x.1, x.2) ∈ codes from hx)
  have h2 := (lookup_mem hnd).mp (show (y.1, y.2) ∈ codes from hy)
  rw [e, h2] at h1
  have := Option.some.inj h1
  exact Prod.ext e this.symm
theorem any_moved (hnd : (codes.map Prod.fst).Nodup) {x : Nat × Code} (hx : x ∈ codes) (k : Nat) : (codes.any fun y => y.1 == x.1 && y.2 != (⟨x.2.level, k⟩ : Code)) = decide (k ≠ x.2.k) := by
  rw [Bool.eq_iff_iff, List.any_eq_true, decide_eq_true_eq]
  constructor
  · rintro ⟨y, hy, h⟩
    rw [Bool.and_eq_true] at h
    have e := mem_unique hnd hy hx (eq_of_beq h.1)
    subst e
    intro z
    subst z
    have h2 := h.2
    rw [show (⟨y.2.level, y.2.k⟩ : Code) = y.2 from rfl, bne_self_eq_false] at h2
    cases h2
  · intro h
    refine ⟨x, hx, ?_⟩
    rw [beq_self_eq_true, Bool.true_and, bne_iff_ne]
    intro z
    refine h ?_
    rw [z]
def toldOf (k' : Nat → Nat) (x : Nat × Code) : List Int := if k' x.1 ≠ x.2.k then [(x.1 : Int), (x.2.level : Int), (k' x.1 : Int)] else []
theorem moved_told (R : Rel codes rs ks) {u l : Nat} (hn : codes.lookup u = none) (W : Wanted codes u l) :
    ((moved codes (anew (want codes u l))).map Kh297.ev).flatMap (fun e => [(e.user : Int), (e.level : Int), (e.k : Int)]) = codes.flatMap (toldOf (kOf (give 0 (order (want codes u l))))) := by
  have e0 := anew_eq W.le W.up W.tot
  rw [e0]
  unfold moved
  rw [List.filter_map]
  have hx : ((fun x : Nat × Code => codes.any fun y => y.1 == x.1 && y.2 != x.2) ∘ fun x : Nat × Nat => (x.1, (⟨x.2, kOf (give 0 (order (want codes u l))) x.1⟩ : Code))) (u, l) = false := by
    show (codes.any fun y => y.1 == u && _) = false
    rw [List.any_eq_false]
    intro y hy
    have := lookup_none_iff.mp hn y hy
    rw [beq_eq_false_iff_ne.mpr this]
    simp
  generalize hk : kOf (give 0 (order (want codes u l))) = k' at hx
  unfold want
  rw [iw_filter hx, List.filter_map, List.map_map, List.map_map, List.flatMap_map]
  have key : ∀ (L : List (Nat × Code)), (∀ x ∈ L, x ∈ codes) → (L.filter (((fun x : Nat × Code => codes.any fun y => y.1 == x.1 && y.2 != x.2) ∘ fun x : Nat × Nat => (x.1, (⟨x.2, k' x.1⟩ : Code))) ∘ fun x : Nat × Code => (x.1, x.2.level))).flatMap
      (fun a => [((Kh297.ev (a.1, ⟨a.2.level, k' a.1⟩)).user : Int), ((Kh297.ev (a.1, ⟨a.2.level, k' a.1⟩)).level : Int), ((Kh297.ev (a.1, ⟨a.2.level, k' a.1⟩)).k : Int)]) = L.flatMap (toldOf k') := by
    intro L
    induction L with
    | nil => intro _; rfl
    | cons x L ih =>
      intro h
      have hxc := h x (List.mem_cons_self ..)
      rw [List.filter_cons, List.flatMap_cons, ← ih fun y hy => h y (List.mem_cons_of_mem _ hy)]
      have e : (((fun x : Nat × Code => codes.any fun y => y.1 == x.1 && y.2 != x.2) ∘ fun x : Nat × Nat => (x.1, (⟨x.2, k' x.1⟩ : Code))) ∘ fun x : Nat × Code => (x.1, x.2.level)) x = decide (k' x.1 ≠ x.2.k) := any_moved R.nd hxc (k' x.1)
      rw [e]
      unfold toldOf
      by_cases q : k' x.1 ≠ x.2.k
      · rw [decide_eq_true q, if_pos rfl, if_pos q, List.flatMap_cons]
        rfl
      · rw [decide_eq_false q, if_neg (by decide), if_neg q]
        rfl
  exact key codes fun x hx => hx
theorem new_k {u l : Nat} (W : Wanted codes u l) : (((anew (want codes u l)).find? fun x => x.1 == u).map fun x => x.2.k).getD 0 = kOf (give 0 (order (want codes u l))) u := by
  obtain ⟨h1, h2⟩ := anew_perm W.le W.up W.tot
  unfold kOf
  have hnd : ((give 0 (order (want codes u l))).map Prod.fst).Nodup := by
    rw [give_fst]
    exact ((order_perm W.le W.up).map Prod.fst).nodup_iff.mpr (up_fst W.up)
  have e : (anew (want codes u l)).find? (fun x => x.1 == u) = (give 0 (order (want codes u l))).find? fun x => x.1 == u := by
    have a := find_lookup (anew (want codes u l)) u
    have b := find_lookup (give 0 (order (want codes u l))) u
    have c := lookup_perm h2 hnd u
    have key : ∀ (L : List (Nat × Code)), L.find? (fun x => x.1 == u) = (L.lookup u).map fun c => (u, c) := by
      intro L
      induction L with
      | nil => rfl
      | cons x L ih =>
        obtain ⟨v, d⟩ := x
        rw [List.find?_cons, List.lookup_cons]
        by_cases q : v = u
        · subst q; rw [beq_self_eq_true]; rfl
        · have q' : ¬ u = v := fun z => q z.symm
          rw [beq_eq_false_iff_ne.mpr q, beq_eq_false_iff_ne.mpr q']
          exact ih
    rw [key, key, c]
  rw [e]
theorem sub_sum {l m : List Nat} (h : l.Sublist m) : l.sum ≤ m.sum := by
  induction h with
  | slnil => exact Nat.le_refl _
  | cons a _ ih => rw [List.sum_cons]; omega
  | cons_cons a _ ih => rw [List.sum_cons, List.sum_cons]; omega
theorem Rel.close (R : Rel codes rs ks) (u : Nat) : Rel (codes.filter fun x => x.1 != u) (rs.filter fun x => x.1 != u) (ks.filter fun x => x.1 != u) := by
  refine ⟨R.up.filter _, fun x hx => R.ok x (List.mem_filter.mp hx).1, ?_, ?_, ?_⟩
  · have := R.rates.filter fun x => x.1 != u
    rw [List.filter_map] at this
    exact this
  · have := R.ks.filter fun x => x.1 != u
    rw [List.filter_map] at this
    exact this
  · have hs : ((codes.filter fun x => x.1 != u).map fun x => wid x.2.level).Sublist (codes.map fun x => wid x.2.level) := (List.filter_sublist).map _
    exact Nat.le_trans (sub_sum hs) R.tot
end
end CM
end
section
set_option linter.all false
namespace CM
open Kh296 (Code)
open Kh297 (levelOf rate Abs)
def levels : List (Int × Int) := [(256, 0), (128, 1), (64, 2), (32, 3), (16, 4), (8, 5), (4, 6), (2, 7), (1, 8)]
theorem levelOf_eq (r : Nat) : (levelOf r).map (fun l : Nat => (l : Int)) = levels.lookup (r : Int) := by
  have key : ∀ l : Nat, l ≤ 8 → (levelOf (2 ^ (8 - l))).map (fun l : Nat => (l : Int)) = levels.lookup ((2 ^ (8 - l) : Nat) : Int) := by
    intro l hl
    have : l = 0 ∨ l = 1 ∨ l = 2 ∨ l = 3 ∨ l = 4 ∨ l = 5 ∨ l = 6 ∨ l = 7 ∨ l = 8 := by omega
    rcases this with rfl | rfl | rfl | rfl | rfl | rfl | rfl | rfl | rfl <;> decide
  by_cases h : ∃ l, l ≤ 8 ∧ r = 2 ^ (8 - l)
  · obtain ⟨l, hl, rfl⟩ := h
    exact key l hl
  · have h1 : levelOf r = none := by
      unfold levelOf
      rw [List.find?_eq_none]
      intro l hl
      have hl' : l ≤ 8 := by have := List.mem_range.mp hl; omega
      intro e
      exact h ⟨l, hl', eq_of_beq e⟩
    have h2 : levels.lookup (r : Int) = none := by
      have n : ∀ l, l ≤ 8 → ¬ ((r : Int) = ((2 ^ (8 - l) : Nat) : Int)) := fun l hl e => h ⟨l, hl, by omega⟩
      have n0 : ¬ ((r : Int) = 256) := n 0 (by decide)
      have n1 : ¬ ((r : Int) = 128) := n 1 (by decide)
      have n2 : ¬ ((r : Int) = 64) := n 2 (by decide)
      have n3 : ¬ ((r : Int) = 32) := n 3 (by decide)
      have n4 : ¬ ((r : Int) = 16) := n 4 (by decide)
      have n5 : ¬ ((r : Int) = 8) := n 5 (by decide)
      have n6 : ¬ ((r : Int) = 4) := n 6 (by decide)
      have n7 : ¬ ((r : Int) = 2) := n 7 (by decide)
      have n8 : ¬ ((r : Int) = 1) := n 8 (by decide)
      unfold levels
      rw [List.lookup_cons, beq_eq_false_iff_ne.mpr n0]
      dsimp only
      rw [List.lookup_cons, beq_eq_false_iff_ne.mpr n1]
      dsimp only
      rw [List.lookup_cons, beq_eq_false_iff_ne.mpr n2]
      dsimp only
      rw [List.lookup_cons, beq_eq_false_iff_ne.mpr n3]
      dsimp only
      rw [List.lookup_cons, beq_eq_false_iff_ne.mpr n4]
      dsimp only
      rw [List.lookup_cons, beq_eq_false_iff_ne.mpr n5]
      dsimp only
      rw [List.lookup_cons, beq_eq_false_iff_ne.mpr n6]
      dsimp only
      rw [List.lookup_cons, beq_eq_false_iff_ne.mpr n7]
      dsimp only
      rw [List.lookup_cons, beq_eq_false_iff_ne.mpr n8]
      rfl
    rw [h1, h2]
    rfl
theorem levelOf_some {r l : Nat} (h : levelOf r = some l) : l ≤ 8 ∧ r = wid l := by
  unfold levelOf at h
  have h1 := List.mem_range.mp (List.mem_of_find?_eq_some h)
  have h2 := List.find?_some h
  exact ⟨by omega, eq_of_beq h2⟩
theorem levelOf_wid {l : Nat} (h : l ≤ 8) : levelOf (wid l) = some l := by
  have : l = 0 ∨ l = 1 ∨ l = 2 ∨ l = 3 ∨ l = 4 ∨ l = 5 ∨ l = 6 ∨ l = 7 ∨ l = 8 := by omega
  rcases this with rfl | rfl | rfl | rfl | rfl | rfl | rfl | rfl | rfl <;> decide
theorem levels_wid {l : Nat} (h : l ≤ 8) : levels.lookup ((wid l : Nat) : Int) = some (l : Int) := by
  rw [← levelOf_eq, levelOf_wid h]
  rfl
def due (a : Abs) (c : Kh297.Call) : List Int := (Kh297.doing a c).2.2.value :: (((Kh297.doing a c).2.1.flatMap fun e => [(e.user : Int), (e.level : Int), (e.k : Int)]) ++ (Kh297.doing a c).2.2.out)
end CM
end
section
set_option linter.all false
namespace CM
open Kh296 (Code)
def sgn (b : Bool) : Int := if b then -1 else 1
def signs (l k : Nat) : List Int := (Kh296.row l k).map sgn
theorem row_length : ∀ l k : Nat, (Kh296.row l k).length = 2 ^ l
  | 0, _ => rfl
  | l + 1, k => by
    unfold Kh296.row
    dsimp only
    split
    · rw [List.length_append, row_length l, Nat.pow_succ]; omega
    · rw [List.length_append, List.length_map, row_length l, Nat.pow_succ]; omega
theorem signs_length (l k : Nat) : (signs l k).length = 2 ^ l := by
  unfold signs
  rw [List.length_map, row_length]
theorem sgn_not (b : Bool) : sgn (!b) = -1 * sgn b := by cases b <;> rfl
theorem signs_succ (l k : Nat) : signs (l + 1) k = signs l (k / 2) ++ (signs l (k / 2)).map fun s => (if k % 2 = 1 then -1 else 1) * s := by
  unfold signs
  rw [Kh296.row]
  by_cases h : k % 2 = 0
  · have h1 : ¬ k % 2 = 1 := by omega
    rw [if_pos h, List.map_append, List.map_map]
    congr 1
    refine List.map_congr_left fun b _ => ?_
    show sgn b = (if k % 2 = 1 then (-1 : Int) else 1) * sgn b
    rw [if_neg h1, Int.one_mul]
  · have h1 : k % 2 = 1 := by omega
    rw [if_neg h, List.map_append, List.map_map, List.map_map]
    congr 1
    refine List.map_congr_left fun b _ => ?_
    show sgn (!b) = (if k % 2 = 1 then (-1 : Int) else 1) * sgn b
    rw [if_pos h1, sgn_not]
theorem sgn_signed (b : Bool) (v : Int) : sgn b * v = Kh296.signed b v := by
  cases b
  · show 1 * v = v
    rw [Int.one_mul]
  · show -1 * v = -v
    omega
theorem signs_get (c : Code) {i : Nat} : (signs c.level c.k)[i % 2 ^ c.level]? = some (sgn (Kh296.minus c i)) := by
  have hl : i % 2 ^ c.level < (Kh296.row c.level c.k).length := by rw [row_length]; exact Nat.mod_lt _ (Nat.two_pow_pos _)
  unfold signs Kh296.minus Kh296.length
  rw [List.getElem?_map, List.getElem?_eq_getElem hl, List.getD_eq_getElem?_getD, List.getElem?_eq_getElem hl]
  rfl
def heardAt (c : Code) (line : List Int) (f : Nat) : Int := ((List.range (2 ^ c.level)).map fun i => sgn ((Kh296.row c.level c.k).getD i false) * line.getD (f + i) 0).sum
theorem hear_eq (c : Code) (line : List Int) : Kh296.hear c line = (List.range (wid c.level)).map fun j => heardAt c line (j * 2 ^ c.level) := by
  unfold Kh296.hear
  refine List.map_congr_left fun j _ => ?_
  unfold heardAt
  congr 1
  refine List.map_congr_left fun i hi => ?_
  have hi' : i < 2 ^ c.level := List.mem_range.mp hi
  rw [sgn_signed]
  have e : (j * Kh296.length c + i) % Kh296.length c = i := by
    unfold Kh296.length
    rw [Nat.mul_comm, Nat.mul_add_mod, Nat.mod_eq_of_lt hi']
  have e2 : Kh296.minus c (j * Kh296.length c + i) = (Kh296.row c.level c.k).getD i false := by
    unfold Kh296.minus
    rw [e]
  rw [e2]
  rfl
theorem nearest_eq (v : Int) (l : Nat) : Kh297.nearest v l = if decide (2 * (v % 2 ^ l) > 2 ^ l) = true ∨ (2 * (v % 2 ^ l) = 2 ^ l ∧ v / 2 ^ l % 2 = 1) then v / 2 ^ l + 1 else v / 2 ^ l := by
  unfold Kh297.nearest
  dsimp only
  generalize v / 2 ^ l = q
  generalize 2 * (v % 2 ^ l) = r
  generalize (2 ^ l : Int) = s
  by_cases h : r < s ∨ (r = s ∧ q % 2 = 0)
  · rw [if_pos h, if_neg]
    intro z
    rcases z with z | z
    · have := of_decide_eq_true z
      omega
    · omega
  · rw [if_neg h, if_pos]
    by_cases h2 : r > s
    · exact .inl (decide_eq_true h2)
    · exact .inr ⟨by omega, by omega⟩
theorem within_eq (m : Int) (l : List Int) : (l.all fun v => decide (-m ≤ v) && decide (v ≤ m)) = (l.map fun v => decide ((if v < 0 then -v else v) ≤ m)).all id := by
  rw [List.all_map]
  congr 1
  funext v
  show (decide (-m ≤ v) && decide (v ≤ m)) = decide ((if v < 0 then -v else v) ≤ m)
  by_cases h : v < 0
  · rw [if_pos h]
    by_cases h2 : -v ≤ m
    · rw [decide_eq_true h2, decide_eq_true (show -m ≤ v by omega), decide_eq_true (show v ≤ m by omega)]; rfl
    · rw [decide_eq_false h2, decide_eq_false (show ¬ -m ≤ v by omega)]; rfl
  · rw [if_neg h]
    by_cases h2 : v ≤ m
    · rw [decide_eq_true h2, decide_eq_true (show -m ≤ v by omega)]; rfl
    · rw [decide_eq_false h2, Bool.and_false]
end CM
end
section
set_option linter.all false
namespace CM
open Kh296 (Code)
open Kh297 (levelOf rate Abs leastK insert anew moved)
section
variable {codes : List (Nat × Code)} {rs ks : List (Nat × Nat)}
theorem sorted_codes (R : Rel codes rs ks) {ns' : List Int} (pm : ns'.Perm (ks.map fun p => (p.1 : Int))) (ps : ns'.Pairwise (· ≤ ·)) : ns' = codes.map fun x => (x.1 : Int) := by
  have pm2 : ns'.Perm (codes.map fun x => (x.1 : Int)) := by
    refine pm.trans ?_
    have := R.ks.map fun p : Nat × Nat => (p.1 : Int)
    rw [List.map_map] at this
    exact this
  have up : (codes.map fun x => (x.1 : Int)).Pairwise fun x y => x.toNat < y.toNat := by
    rw [List.pairwise_map]
    exact R.up.imp fun {x y} h => by simpa using h
  have nd : (codes.map fun x => (x.1 : Int)).Nodup := up.imp fun {x y} h e => by rw [e] at h; exact Nat.lt_irrefl _ h
  have nd' : ns'.Nodup := pm2.nodup_iff.mpr nd
  have nn : ∀ x ∈ ns', (0 : Int) ≤ x := fun x hx => by
    obtain ⟨y, _, rfl⟩ := List.mem_map.mp (pm2.mem_iff.mp hx)
    exact Int.natCast_nonneg _
  refine up_ext (key := Int.toNat) ?_ up pm2
  refine (ps.and nd').imp_of_mem fun {x y} hx hy h => ?_
  have h1 := nn x hx
  have h2 := nn y hy
  have h3 := h.1
  have h4 : x ≠ y := h.2
  omega
theorem Rel.rs_lookup (R : Rel codes rs ks) {u l : Nat} (W : Wanted codes u l) : ∀ x ∈ want codes u l, (rs ++ [(u, wid l)]).lookup x.1 = some (wid x.2) := by
  intro x hx
  have hnd : (((want codes u l).map fun x => (x.1, wid x.2)).map Prod.fst).Nodup := by
    rw [List.map_map]
    exact up_fst W.up
  rw [lookup_perm (R.rs_want u l) hnd, (lookup_mem hnd).mp (show (x.1, wid x.2) ∈ _ from List.mem_map.mpr ⟨x, hx, rfl⟩)]
theorem Rel.rs_nd (R : Rel codes rs ks) {u l : Nat} (W : Wanted codes u l) : ((rs ++ [(u, wid l)]).map (·.1)).Nodup := by
  refine ((R.rs_want u l).map Prod.fst).nodup_iff.mpr ?_
  rw [List.map_map]
  exact up_fst W.up
theorem total_len : ∀ L : List (Nat × Nat), L.length ≤ total L
  | [] => Nat.zero_le _
  | x :: L => by
    have := total_len L
    have h := wid_pos x.2
    unfold total at *
    rw [List.map_cons, List.sum_cons, List.length_cons]
    omega
theorem Rel.rs_len (R : Rel codes rs ks) {u l : Nat} (W : Wanted codes u l) : (rs ++ [(u, wid l)]).length ≤ 256 := by
  rw [(R.rs_want u l).length_eq, List.length_map]
  exact Nat.le_trans (total_len _) W.tot
theorem Rel.rs_pos (R : Rel codes rs ks) {u l : Nat} : ∀ x ∈ rs ++ [(u, wid l)], 0 < x.2 ∧ x.2 ≤ 256 := by
  intro x hx
  rcases List.mem_append.mp hx with h | h
  · exact R.pos x h
  · rw [List.mem_singleton.mp h]
    exact ⟨wid_pos _, wid_le _⟩
theorem told_snoc {k' : Nat → Nat} {i : Nat} {x : Nat × Code} (h : codes[i]? = some x) : (codes.take (i + 1)).flatMap (toldOf k') = (codes.take i).flatMap (toldOf k') ++ toldOf k' x := by
  rw [List.take_add_one, h, List.flatMap_append]
  show _ ++ ([x].flatMap _) = _
  rw [List.flatMap_cons, List.flatMap_nil, List.append_nil]
theorem told_len (k' : Nat → Nat) : ∀ L : List (Nat × Code), (L.flatMap (toldOf k')).length ≤ 3 * L.length
  | [] => Nat.le_refl _
  | x :: L => by
    have := told_len k' L
    rw [List.flatMap_cons, List.length_append, List.length_cons]
    have h : (toldOf k' x).length ≤ 3 := by
      unfold toldOf
      split
      · exact Nat.le_refl _
      · exact Nat.zero_le _
    omega
end
end CM
end
section
set_option Elab.async false
set_option linter.all false
set_option maxRecDepth 100000
namespace L2
open PySem PySem.Spec PyProof.Rows
abbrev Key := Sum Int Str
def keyIs : Key → Value → Bool
  | .inl k, v => Value.isInt k v
  | .inr x, v => Value.isStrOf x v
def keyH (w : World) : Key → Int
  | .inl k => hashInt k
  | .inr x => hashStr w x
theorem keyIs_shape : ∀ {k : Key} {v : Value}, keyIs k v = true → (∃ i t, k = Sum.inl i ∧ v = Value.int i t) ∨ (∃ x t, k = Sum.inr x ∧ v = Value.str x t)
  | .inl i, v, h => by
    obtain ⟨t, e⟩ := Value.isInt_shape (k := i) (v := v) h
    exact .inl ⟨i, t, rfl, e⟩
  | .inr x, v, h => by
    obtain ⟨t, e⟩ := Value.isStrOf_shape (x := x) (v := v) h
    exact .inr ⟨x, t, rfl, e⟩
theorem keyIs_int (i : Int) (t : Tok) : keyIs (.inl i) (.int i t) = true := by simp [keyIs, Value.isInt]
theorem keyIs_str (x : Str) (t : Tok) : keyIs (.inr x) (.str x t) = true := by simp [keyIs, Value.isStrOf]
theorem key_ll (a b : Int) : decide ((Sum.inl a : Key) = Sum.inl b) = (a == b) := by
  by_cases e : a = b
  · subst e; simp
  · have h : ¬ (Sum.inl a : Key) = Sum.inl b := fun q => e (Sum.inl.inj q)
    rw [decide_eq_false h]
    exact (beq_eq_false_iff_ne.mpr e).symm
theorem key_rr (a b : Str) : decide ((Sum.inr a : Key) = Sum.inr b) = decide (a = b) := by
  by_cases e : a = b
  · subst e; simp
  · have h : ¬ (Sum.inr a : Key) = Sum.inr b := fun q => e (Sum.inr.inj q)
    rw [decide_eq_false h, decide_eq_false e]
theorem key_lr (a : Int) (b : Str) : decide ((Sum.inl a : Key) = Sum.inr b) = false := decide_eq_false (fun q => nomatch q)
theorem key_rl (a : Str) (b : Int) : decide ((Sum.inr a : Key) = Sum.inl b) = false := decide_eq_false (fun q => nomatch q)
def mixKind (prog : Program) (w : World) : PySem.KeyKind prog w Key where
  is := keyIs
  hash := keyH w
  inj := fun v a b ha hb => by
    rcases keyIs_shape ha with ⟨i, t, rfl, rfl⟩ | ⟨x, t, rfl, rfl⟩
    · rcases keyIs_shape hb with ⟨j, u, rfl, e⟩ | ⟨y, u, rfl, e⟩
      · injection e with e1 _; rw [e1]
      · exact nomatch e
    · rcases keyIs_shape hb with ⟨j, u, rfl, e⟩ | ⟨y, u, rfl, e⟩
      · exact nomatch e
      · injection e with e1 _; rw [e1]
  byValue := fun k v h => by
    rcases keyIs_shape h with ⟨i, t, rfl, rfl⟩ | ⟨x, t, rfl, rfl⟩ <;> rfl
  pyHash := fun hv h => by
    rcases keyIs_shape hv with ⟨i, t, rfl, rfl⟩ | ⟨x, t, rfl, rfl⟩
    · exact wpAny_pyHash_int h
    · exact wpAny_pyHash_str h
  eqBool := fun hu hv h => by
    rcases keyIs_shape hu with ⟨i, t, rfl, rfl⟩ | ⟨x, t, rfl, rfl⟩
    · rcases keyIs_shape hv with ⟨j, u, rfl, rfl⟩ | ⟨y, u, rfl, rfl⟩
      · rw [key_ll] at h; exact wpAny_eqBool_int h
      · rw [key_lr] at h; exact SeqAt.EqAt.int_str i t y u _ _ _ _ h
    · rcases keyIs_shape hv with ⟨j, u, rfl, rfl⟩ | ⟨y, u, rfl, rfl⟩
      · rw [key_rl] at h; exact SeqAt.EqAt.str_int x t j u _ _ _ _ h
      · rw [key_rr] at h; exact wpAny_eqBool_str h
  «strs» := fun k x t v h => by
    rcases keyIs_shape h with ⟨i, u, rfl, e⟩ | ⟨y, u, rfl, e⟩
    · exact nomatch e
    · injection e with e1 _
      subst e1
      cases v <;> rfl
theorem mixKind_int (prog : Program) (w : World) (i : Int) (t : Tok) : (mixKind prog w).is (.inl i) (.int i t) = true := keyIs_int i t
theorem mixKind_str (prog : Program) (w : World) (x : Str) (t : Tok) : (mixKind prog w).is (.inr x) (.str x t) = true := keyIs_str x t
end L2
namespace L2
open PySem PySem.Spec PyProof.Rows
inductive V where
  | non | bl (b : Bool) | int (i : Int) | str (x : Str) | byt (b : Array UInt8) | flt (b : UInt64) | ref (a : Addr) | ty (n : String)
  deriving DecidableEq
def RelV : V → Value → Prop
  | .non, u => u = Value.none
  | .bl b, u => u = Value.bool b
  | .int i, u => ∃ t, u = Value.int i t
  | .str x, u => ∃ t, u = Value.str x t
  | .byt b, u => ∃ t, u = Value.bytes b t
  | .flt b, u => ∃ t, u = Value.float b t
  | .ref a, u => u = Value.ref a
  | .ty n, u => u = Value.type n
abbrev Vals : List V → List Value → Prop := Paired RelV
theorem Vals.length {xs : List V} {us : List Value} (r : Vals xs us) : xs.length = us.length := Paired.length r
theorem Vals.get : ∀ {xs : List V} {us : List Value} {i : Nat} {x : V}, Vals xs us → xs[i]? = some x → ∃ u, us[i]? = some u ∧ RelV x u
  | _, _, _, _, .nil, e => by simp at e
  | _, _, 0, _, .cons r _, e => by simp at e; subst e; exact ⟨_, rfl, r⟩
  | _, _, i + 1, x, .cons _ t, e => by
    obtain ⟨u, h1, h2⟩ := Vals.get (i := i) (x := x) t (by simpa using e)
    exact ⟨u, by simpa using h1, h2⟩
theorem Vals.set {x : V} {u : Value} (r : RelV x u) : ∀ {xs : List V} {us : List Value} (i : Nat), Vals xs us → Vals (xs.set i x) (us.set i u)
  | _, _, _, .nil => .nil
  | _, _, 0, .cons _ t => .cons r t
  | _, _, i + 1, .cons q t => .cons q (Vals.set r i t)
theorem Vals.append : ∀ {xs ys : List V} {us ws : List Value}, Vals xs us → Vals ys ws → Vals (xs ++ ys) (us ++ ws)
  | _, _, _, _, .nil, s => s
  | _, _, _, _, .cons r t, s => .cons r (Vals.append t s)
theorem Vals.take : ∀ {xs : List V} {us : List Value} (n : Nat), Vals xs us → Vals (xs.take n) (us.take n)
  | _, _, 0, _ => .nil
  | _, _, _ + 1, .nil => .nil
  | _, _, n + 1, .cons r t => .cons r (Vals.take n t)
theorem Vals.drop : ∀ {xs : List V} {us : List Value} (n : Nat), Vals xs us → Vals (xs.drop n) (us.drop n)
  | _, _, 0, r => r
  | _, _, _ + 1, .nil => .nil
  | _, _, n + 1, .cons _ t => Vals.drop n t
def RelO : Option V → Option Value → Prop
  | some v, some u => RelV v u
  | none, none => True
  | _, _ => False
def KV {κ : Type} : List (κ × V) → List (κ × Value) → Prop := Paired fun (p : κ × V) (q : κ × Value) => p.1 = q.1 ∧ RelV p.2 q.2
def kV : Key → V
  | .inl i => .int i
  | .inr x => .str x
inductive HO where
  /-- a list -/
  | lst (xs : List V)
  /-- a tuple (never changes) -/
  | tup (xs : List V)
  /-- a dict whose keys are ints and texts; one whose keys are tuples of ints and texts (the empty one is both) -/
  | dK (kvs : List (Key × V)) | dT (kvs : List (List Key × V))
  /-- a set of ints: its members, its size -/
  | set (S : Int → Bool) (n : Nat)
  /-- an instance of the class at C, its dict at dx, its attributes -/
  | ins (C dx : Addr) (fs : List (Str × V))
  /-- the dict of the instance at x -/
  | own (x : Addr)
  /-- the dict of an exception -/
  | xd (fs : List (Str × V))
  /-- a bound method, f of x -/
  | met (f x : Addr)
  /-- a range object lo, lo + 1, .. below hi -/
  | rng (lo hi : Int)
  /-- a thing that is known to the object (the script; a dict while a loop walks it): read, never written while it is so -/
  | frz (o : Obj) (u : HO)
  /-- a code object's table -/
  | tbl (ps : Array Value)
  /-- any other thing, by what is true of its one object (a def of one's own: SetO a S n := HO.ext fun h => ..) -/
  | ext (φ : Heap → Prop)
abbrev Hp := Addr → Option HO
def upd (H : Hp) (a : Addr) (o : HO) : Hp := fun b => if b = a then some o else H b
theorem upd_same {H : Hp} {a : Addr} {o : HO} : upd H a o a = some o := by unfold upd; rw [if_pos rfl]
theorem upd_ne {H : Hp} {a b : Addr} {o : HO} (h : b ≠ a) : upd H a o b = H b := by unfold upd; rw [if_neg h]
theorem ne_of {H : Hp} {a b : Addr} {o u : HO} (h : H a = some o) (h' : H b = some u) (d : o ≠ u) : a ≠ b := by
  intro e; subst e; rw [h] at h'; exact d (Option.some.inj h')
theorem ne_of_none {H : Hp} {a b : Addr} {o : HO} (h : H a = some o) (h' : H b = none) : a ≠ b := by
  intro e; subst e; rw [h] at h'; cases h'
section
variable (P : Program) (w : World)
def ObjOk (H : Hp) (h : Heap) (a : Addr) : HO → Prop
  | .lst xs => xs.length ≤ sizeLine ∧ ∃ (its : List Value) (n : Nat), Vals xs its ∧ h.get? a = some { cls := .type "list", data := .seq its.toArray n }
  | .tup xs => xs.length ≤ sizeLine ∧ ∃ its : List Value, Vals xs its ∧ IsTup h a its.toArray
  | .dK kvs => kvs.length ≤ sizeLine ∧ (a == sysModules) = false ∧ ∃ vs, KV kvs vs ∧ h.DictOf (mixKind P w) a vs
  | .dT kvs => kvs.length ≤ sizeLine ∧ (a == sysModules) = false ∧ ∃ xs : List (List Key × Addr × Value),
      Paired (fun (p : List Key × V) (q : List Key × Addr × Value) => p.1 = q.1 ∧ H q.2.1 = some (.tup (p.1.map kV)) ∧ RelV p.2 q.2.2) kvs xs ∧
      ∃ o es ep, h.get? a = some o ∧ o.ExactDict ∧ o.data = .dict es ep ∧ es.toList = xs.map (entryOfKey (tupleKind (mixKind P w))) ∧ (xs.map (·.1)).Nodup
  | .set S n => h.SetOf (intKind P w) a S n
  | .ins C dx fs => H dx = some (.own a) ∧ fs.length ≤ 1000 ∧ dx ≠ a ∧ h.get? a = some (PySem.W.instObj C dx) ∧
      ∃ mA, h.Ns1 dx mA ∧ (∀ f, RelO (fs.lookup f) (mA f)) ∧ PySem.Within mA (fs.map (·.1))
  | .own _ => ∃ o, h.get? a = some o
  | .xd fs => ∃ mA, h.Ns1 a mA ∧ ∀ f, RelO (fs.lookup f) (mA f)
  | .rng lo hi => ∃ t u v, h.get? a = some { cls := .type "range", data := .fields #[.int lo t, .int hi u, .int 1 v] }
  | .frz o u => h.get? a = some o ∧ ObjOk H h a u
  | .tbl ps => h.get? a = some { cls := .none, data := .fields ps }
  | .met f x => h.get? a = some (PySem.W.methodObj (.ref f) (.ref x))
  | .ext φ => φ h ∧ (∃ o, h.get? a = some o) ∧ ∀ h1 h2 : Heap, φ h1 → (∀ o, h1.get? a = some o → h2.get? a = some o) → φ h2
def HOk (H : Hp) (h : Heap) : Prop := ∀ a o, H a = some o → ObjOk P w H h a o
end
section
variable {P : Program} {w : World} {H H' : Hp} {h h' : Heap} {a : Addr} {o : HO}
theorem ObjOk.lt (x : ObjOk P w H h a o) : a < h.objs.size := by
  cases o with
  | lst xs => obtain ⟨_, _, _, _, e⟩ := x; exact Heap.lt_size e
  | tup xs => obtain ⟨_, _, _, p⟩ := x; exact p.lt
  | dK kvs => obtain ⟨_, _, _, _, o, _, _, e, _⟩ := x; exact Heap.lt_size e
  | dT kvs => obtain ⟨_, _, _, _, o, _, _, e, _⟩ := x; exact Heap.lt_size e
  | set S n => obtain ⟨o, _, _, _, e, _⟩ := x; exact Heap.lt_size e
  | ins C dx fs => obtain ⟨_, _, _, e, _⟩ := x; exact Heap.lt_size e
  | own y => obtain ⟨_, e⟩ := x; exact Heap.lt_size e
  | xd fs => obtain ⟨_, ⟨_, _, _, e, _⟩, _⟩ := x; exact Heap.lt_size e
  | rng lo hi => obtain ⟨_, _, _, e⟩ := x; exact Heap.lt_size e
  | frz ob u => obtain ⟨e, _⟩ := x; exact Heap.lt_size e
  | tbl ps => exact Heap.lt_size (show h.get? a = some _ from x)
  | met f y => exact Heap.lt_size (show h.get? a = some _ from x)
  | ext φ => obtain ⟨_, ⟨_, e⟩, _⟩ := x; exact Heap.lt_size e
theorem Paired.mapP {α β : Type} {F G : α → β → Prop} : ∀ {l₁ : List α} {l₂ : List β}, Paired F l₁ l₂ → (∀ a b, F a b → G a b) → Paired G l₁ l₂
  | _, _, .nil, _ => .nil
  | _, _, .cons r t, f => .cons (f _ _ r) (Paired.mapP t f)
theorem ObjOk.stay (x : ObjOk P w H h a o) (k : ∀ b u, (b = a ∨ H b = some (.own a)) → h.get? b = some u → h'.get? b = some u)
    (ho : ∀ b, H b = some (.own a) → H' b = some (.own a)) (ht : ∀ b xs, H b = some (.tup xs) → H' b = some (.tup xs)) : ObjOk P w H' h' a o := by
  induction o with
  | lst xs => obtain ⟨z, its, n, r, e⟩ := x; exact ⟨z, its, n, r, k _ _ (.inl rfl) e⟩
  | tup xs => obtain ⟨z, its, r, ob, e, c⟩ := x; exact ⟨z, its, r, ob, k _ _ (.inl rfl) e, c⟩
  | dK kvs => obtain ⟨z, y, vs, r, ob, es, ep, e, c⟩ := x; exact ⟨z, y, vs, r, ob, es, ep, k _ _ (.inl rfl) e, c⟩
  | dT kvs =>
    obtain ⟨z, y, xs, r, ob, es, ep, e, c⟩ := x
    exact ⟨z, y, xs, Paired.mapP r fun p q z => ⟨z.1, ht _ _ z.2.1, z.2.2⟩, ob, es, ep, k _ _ (.inl rfl) e, c⟩
  | set S n => obtain ⟨ob, es, ep, t, e, c⟩ := x; exact ⟨ob, es, ep, t, k _ _ (.inl rfl) e, c⟩
  | ins C dx fs =>
    obtain ⟨d, z, ne, e, mA, ⟨od, es, ep, e2, c⟩, r⟩ := x
    exact ⟨ho _ d, z, ne, k _ _ (.inl rfl) e, mA, ⟨od, es, ep, k _ _ (.inr d) e2, c⟩, r⟩
  | own y => obtain ⟨ob, e⟩ := x; exact ⟨ob, k _ _ (.inl rfl) e⟩
  | xd fs => obtain ⟨mA, ⟨od, es, ep, e, c⟩, r⟩ := x; exact ⟨mA, ⟨od, es, ep, k _ _ (.inl rfl) e, c⟩, r⟩
  | rng lo hi => obtain ⟨t, u, v, e⟩ := x; exact ⟨t, u, v, k _ _ (.inl rfl) e⟩
  | frz ob u ih => obtain ⟨e, q⟩ := x; exact ⟨k _ _ (.inl rfl) e, ih q⟩
  | tbl ps =>
    have e : h.get? a = some { cls := .none, data := .fields ps } := x
    show h'.get? a = some { cls := .none, data := .fields ps }
    exact k a _ (.inl rfl) e
  | met f y =>
    have e : h.get? a = some (PySem.W.methodObj (.ref f) (.ref y)) := x
    show h'.get? a = some (PySem.W.methodObj (.ref f) (.ref y))
    exact k a _ (.inl rfl) e
  | ext φ => obtain ⟨p, ⟨o, e⟩, st⟩ := x; exact ⟨st _ _ p fun o q => k _ _ (.inl rfl) q, ⟨o, k _ _ (.inl rfl) e⟩, st⟩
theorem HOk.lt (x : HOk P w H h) (e : H a = some o) : a < h.objs.size := (x a o e).lt
theorem HOk.fresh (x : HOk P w H h) (e : h.objs.size ≤ a) : H a = none := by
  cases q : H a with
  | none => rfl
  | some u => exact absurd (Nat.lt_of_lt_of_le (x.lt q) e) (Nat.lt_irrefl _)
theorem HOk.kept (x : HOk P w H h) (k : ∀ b u, h.get? b = some u → h'.get? b = some u) : HOk P w H h' := fun a o e =>
  (x a o e).stay (fun b u _ q => k b u q) (fun _ q => q) fun _ _ q => q
theorem HOk.laid (x : HOk P w H h) (k : ∀ b u, h.get? b = some u → h'.get? b = some u) (hp : h.objs.size ≤ a) (new : ObjOk P w (upd H a o) h' a o) : HOk P w (upd H a o) h' := fun b u e => by
  have hn := x.fresh hp
  by_cases hb : b = a
  · subst hb; rw [upd_same] at e; cases e; exact new
  · rw [upd_ne hb] at e
    exact (x b u e).stay (fun c v _ q => k c v q) (fun c q => by rw [upd_ne (ne_of_none q hn)]; exact q) fun c xs q => by rw [upd_ne (ne_of_none q hn)]; exact q
end
def Rd (H : Hp) (a : Addr) (u : HO) : Prop := H a = some u ∨ ∃ o, H a = some (.frz o u)
theorem Rd.ok {P : Program} {w : World} {H : Hp} {h : Heap} {a : Addr} {u : HO} (r : Rd H a u) (x : HOk P w H h) : ObjOk P w H h a u := by
  rcases r with r | ⟨o, r⟩
  · exact x a u r
  · obtain ⟨_, q⟩ := x a _ r
    exact q
def Mut : Option HO → Prop
  | some (.lst _) => True
  | some (.dK _) => True
  | some (.dT _) => True
  | some (.set _ _) => True
  | some (.ins _ _ _) => True
  | some (.ext _) => True
  | _ => False
section
variable {P : Program} {w : World} {H : Hp} {h h' : Heap} {x e : Addr} {o' : HO}
theorem HOk.write (ok : HOk P w H h) (mu : Mut (H x)) (he : e = x ∨ H e = some (.own x)) (k : ∀ b u, b ≠ e → h.get? b = some u → h'.get? b = some u) (heo : ∃ u, h'.get? e = some u)
    (new : ObjOk P w (upd H x o') h' x o') : HOk P w (upd H x o') h' := fun b u q => by
  have nown : ∀ c y, H c = some (.own y) → c ≠ x := fun c y r z => by subst z; rw [r] at mu; exact mu
  have ntup : ∀ c xs, H c = some (.tup xs) → c ≠ x := fun c xs r z => by subst z; rw [r] at mu; exact mu
  by_cases hb : b = x
  · subst hb; rw [upd_same] at q; cases q; exact new
  · rw [upd_ne hb] at q
    by_cases hbe : b = e
    · have q' : H b = some (.own x) := by
        rcases he with z | z
        · exact absurd (hbe.trans z) hb
        · rw [hbe]; exact z
      rw [q] at q'; cases q'
      obtain ⟨v, hv⟩ := heo
      exact ⟨v, by rw [hbe]; exact hv⟩
    · refine (ok b u q).stay (fun c v hc r => k c v ?_ r) (fun c r => by rw [upd_ne (nown c b r)]; exact r) fun c xs r => by rw [upd_ne (ntup c xs r)]; exact r
      rcases hc with rfl | hc
      · exact hbe
      · rintro rfl
        rcases he with z | z
        · exact nown c b hc z
        · rw [hc] at z; cases z; exact hb rfl
end
structure Un (fs ex : List Addr) (H H' : Hp) (h h' : Heap) : Prop where
  keep : ∀ b o, h.get? b = some o → H b = none → b ∉ fs → b ∉ ex → h'.get? b = some o
  slot : ∀ b o, h.get? b = some o → H b = none → b ∈ fs → b ∉ ex → ∃ sl, h'.get? b = some { o with slots := sl }
  free : ∀ b o, h.get? b = some o → H b = none → b ∉ ex → H' b = none
  there : ∀ b o, h.get? b = some o → b ∉ ex → ∃ o', h'.get? b = some o'
  tups : ∀ b xs, H b = some (.tup xs) → H' b = some (.tup xs)
  frzs : ∀ b o u, H b = some (.frz o u) → H' b = some (.frz o u)
  tbls : ∀ b ps, H b = some (.tbl ps) → ∃ more, H' b = some (.tbl (ps ++ more))
section
variable {fs fs' ex ex' : List Addr} {H H1 H2 : Hp} {h h1 h2 h' : Heap} {a x e : Addr} {o : HO}
theorem Un.any (u : Un fs ex H H1 h h1) {b : Addr} {ob : Obj} (q : h.get? b = some ob) (n : H b = none) (hx : b ∉ ex) : ∃ sl, h1.get? b = some { ob with slots := sl } := by
  by_cases hb : b ∈ fs
  · exact u.slot b ob q n hb hx
  · exact ⟨ob.slots, u.keep b ob q n hb hx⟩
theorem Un.kept (k : ∀ b u, h.get? b = some u → h'.get? b = some u) : Un fs ex H H h h' :=
  ⟨fun b ob q _ _ _ => k b ob q, fun b ob q _ _ _ => ⟨ob.slots, k b ob q⟩, fun _ _ _ n _ => n, fun b ob q _ => ⟨ob, k b ob q⟩, fun _ _ q => q, fun _ _ _ q => q, fun _ ps q => ⟨#[], by rw [q]; simp⟩⟩
theorem Un.refl : Un fs ex H H h h := Un.kept fun _ _ q => q
theorem Un.laid (k : ∀ b u, h.get? b = some u → h'.get? b = some u) (hp : h.objs.size ≤ a) (hn : H a = none) : Un fs ex H (upd H a o) h h' where
  keep := fun b u q _ _ _ => k b u q
  slot := fun b u q _ _ _ => ⟨u.slots, k b u q⟩
  free := fun b u q n _ => by rw [upd_ne (Nat.ne_of_lt (Nat.lt_of_lt_of_le (Heap.lt_size q) hp))]; exact n
  there := fun b u q _ => ⟨u, k b u q⟩
  tups := fun b xs q => by rw [upd_ne (ne_of_none q hn)]; exact q
  frzs := fun b u xs q => by rw [upd_ne (ne_of_none q hn)]; exact q
  tbls := fun b ps q => ⟨#[], by rw [upd_ne (ne_of_none q hn), q]; simp⟩
theorem Un.write (mu : Mut (H x)) (he : e = x ∨ H e = some (.own x)) (k : ∀ b u, b ≠ e → h.get? b = some u → h'.get? b = some u) (heo : ∃ u, h'.get? e = some u) : Un fs ex H (upd H x o) h h' := by
  have hx : ∀ b, H b = none → b ≠ x := fun b n z => by subst z; rw [n] at mu; exact mu
  have hb : ∀ b, H b = none → b ≠ e := fun b n z => by
    subst z
    rcases he with r | r
    · exact hx b n r
    · rw [n] at r; cases r
  have hm : ∀ b u, H b = some u → ¬ Mut (some u) → b ≠ x := fun b u q nm z => by subst z; rw [q] at mu; exact nm mu
  refine ⟨fun b u q n _ _ => k b u (hb b n) q, fun b u q n _ _ => ⟨u.slots, k b u (hb b n) q⟩, fun b u q n _ => by rw [upd_ne (hx b n)]; exact n, fun b u q _ => ?_,
    fun b xs q => by rw [upd_ne (hm b _ q fun z => z)]; exact q, fun b u xs q => by rw [upd_ne (hm b _ q fun z => z)]; exact q, fun b ps q => ⟨#[], by rw [upd_ne (hm b _ q fun z => z), q]; simp⟩⟩
  by_cases hbe : b = e
  · subst hbe; exact heo
  · exact ⟨u, k b u hbe q⟩
end
def trk (h : Heap) (H : Hp) : List Addr := (List.range h.objs.size).filter fun a => (H a).isSome
def hidT (h : Heap) (H : Hp) : Heap := PySem.W.hideAll h (trk h H)
theorem hidT_size (h : Heap) (H : Hp) : (hidT h H).objs.size = h.objs.size := PySem.W.hideAll_size _ _
theorem hidT_get {h : Heap} {H : Hp} {b : Addr} {o : Obj} (e : h.get? b = some o) (n : H b = none) : (hidT h H).get? b = some o :=
  PySem.W.hideAll_get _ e fun hm => by
    have q : (H b).isSome = true := (List.mem_filter.mp hm).2
    rw [n] at q; simp at q
theorem of_hidT {h : Heap} {H : Hp} {b : Addr} {o : Obj} (e : (hidT h H).get? b = some o) : h.get? b = some o ∧ H b = none := by
  have e' : h.get? b = some o := PySem.W.of_hideAll (trk h H) e
  refine ⟨e', ?_⟩
  cases q : H b with
  | none => rfl
  | some x =>
    have hm : b ∈ trk h H := List.mem_filter.mpr ⟨List.mem_range.mpr (Heap.lt_size e'), by simp [q]⟩
    have z : (hidT h H).get? b = none := PySem.W.hideAll_none (trk h H) hm
    rw [z] at e; cases e
end L2
namespace L2
open PySem PySem.Spec PyProof.Rows
structure Mod (K : PySem.W.Frag) (mg : Str → Option Value) (base : Heap) : Prop where
  kin : K.In base
  glob : base.Ns mainGlobals mg
  blt : ∃ mb, base.Ns builtinsNs mb ∧ ∀ x : Str, x ≠ "__name__" → mb x = bootBuiltins x
  nolimit : base.NoLimit
structure Cx where
  prog : Program
  w : World
  K : PySem.W.Frag
  mg : Str → Option Value
  base : Heap
  A : Around
  N : List Str
  s_0 : Shared
  H_0 : Hp
  env : Env
  outer : List Env
  stack : List Env
  ex : List Addr
  fn : Str → Bool
  calm : Bool
  pn : List (Addr × Obj)
  xe : Value → Shared → Prop
def frs (l : List Env) : List Addr := l.filterMap (·.frame)
abbrev Cx.fs (X : Cx) : List Addr := frs X.outer
def Vis (sc : Scope) (x : Str) : Prop := sc.names.lookup x = some .local ∨ sc.names.lookup x = some .cell ∨ sc.names.lookup x = some .free
def Loc (sc : Scope) (x : Str) : Prop := sc.names.lookup x = some .local ∨ sc.names.lookup x = some .cell
def Look (env : Env) (h : Heap) (m : Str → Option Value) (x : Str) (u : Value) : Prop :=
  (env.kindOf x = some .local ∧ m x = some u) ∨ ((env.kindOf x = some .cell ∨ env.kindOf x = some .free) ∧ ∃ c, env.cells.lookup x = some c ∧ h.IsCell c (some u))
structure Cx.Ok (X : Cx) : Prop where
  mod : Mod X.K X.mg X.base
  kind : X.env.scope.kind = .function
  glob : X.env.globals = mainGlobals
  blt : X.env.builtins = builtinsNs
  above : X.s_0.heap.objs.size ≤ X.env.locals
  inj : ∀ x y c, X.env.cells.lookup x = some c → X.env.cells.lookup y = some c → x = y
  has : ∀ x, (X.env.kindOf x = some .cell ∨ X.env.kindOf x = some .free) → ∃ c, X.env.cells.lookup x = some c
  cab : ∀ x c, X.fn x = true → X.env.cells.lookup x = some c → X.s_0.heap.objs.size ≤ c
  hd : X.calm = true → X.A.handled = none
  frames : X.A.frames = some X.stack
  stk : X.stack = X.outer ∨ (X.stack = X.env :: X.outer ∧ X.env.frame = some X.env.locals)
  exf : ∀ b ∈ X.ex, b ≠ X.env.locals ∧ ∀ x c, X.env.cells.lookup x = some c → c ≠ b
  bs : ∀ b o, X.base.get? b = some o → X.s_0.heap.get? b = some o ∧ X.H_0 b = none
  bsz : X.base.objs.size ≤ X.s_0.heap.objs.size
  noex : ∀ b o, X.base.get? b = some o → b ∉ X.ex
  exfs : ∀ b ∈ X.ex, b ∉ X.fs
  funs : X.s_0.heap.FunFrames X.base X.outer
  frf : ∀ b ∈ X.fs, X.H_0 b = none
structure Inv (X : Cx) (pins : List (Addr × Obj)) (σ : List (Option V)) (H : Hp) (s : Shared) : Prop where
  ok : X.Ok
  os : s.os = X.s_0.os
  bare : AllBare s.gens
  base : Un X.fs X.ex X.H_0 H X.s_0.heap s.heap
  loc : ∃ m, s.heap.Ns X.env.locals m ∧ ∀ (i : Nat) (x : Str) (v : V), X.N[i]? = some x → σ[i]? = some (some v) → Vis X.env.scope x → ∃ u, RelV v u ∧ Look X.env s.heap m x u
  cell : ∀ x c, X.env.cells.lookup x = some c → ∃ v, s.heap.IsCell c v
  free : H X.env.locals = none
  freeC : ∀ x c, X.env.cells.lookup x = some c → H c = none
  pin : ∀ p ∈ X.pn ++ pins, s.heap.get? p.1 = some p.2 ∧ H p.1 = none ∧ p.1 ≠ X.env.locals ∧ p.1 ∉ X.fs ∧ ∀ v, p.2.data ≠ .cell v
  hok : HOk X.prog X.w H s.heap
  len : σ.length = X.N.length
section
variable {X : Cx} {pins : List (Addr × Obj)} {σ : List (Option V)} {H H' : Hp} {s : Shared} {h' : Heap}
theorem Cx.Ok.nofr (ok : X.Ok) {b : Addr} {o : Obj} (e : X.base.get? b = some o) : b ∉ X.fs := fun hb => by
  have := (ok.funs.mem hb).1
  rw [e] at this; cases this
theorem Inv.bs (I : Inv X pins σ H s) : ∀ b o, X.base.get? b = some o → s.heap.get? b = some o ∧ H b = none := fun b o e =>
  ⟨I.base.keep b o (I.ok.bs b o e).1 (I.ok.bs b o e).2 (I.ok.nofr e) (I.ok.noex b o e), I.base.free b o (I.ok.bs b o e).1 (I.ok.bs b o e).2 (I.ok.noex b o e)⟩
theorem Inv.bk (I : Inv X pins σ H s) : ∀ b o, X.base.get? b = some o → s.heap.get? b = some o := fun b o e => (I.bs b o e).1
theorem Inv.mod (I : Inv X pins σ H s) : Mod X.K X.mg X.base := I.ok.mod
theorem Inv.kIn (I : Inv X pins σ H s) : X.K.In s.heap := I.ok.mod.kin.keeps I.bk
theorem Inv.lt (I : Inv X pins σ H s) : X.env.locals < s.heap.objs.size := let ⟨_, hn, _⟩ := I.loc; hn.lt
theorem Inv.sz (I : Inv X pins σ H s) : X.s_0.heap.objs.size ≤ s.heap.objs.size := Nat.le_trans I.ok.above (Nat.le_of_lt I.lt)
theorem Inv.nofs (I : Inv X pins σ H s) {a : Addr} (h : s.heap.objs.size ≤ a) : a ∉ X.fs := fun hb => by
  obtain ⟨_, o, ho, _⟩ := I.ok.funs.mem hb
  exact absurd (Nat.lt_of_lt_of_le (Heap.lt_size ho) (Nat.le_trans I.sz h)) (Nat.lt_irrefl _)
theorem Inv.cne (I : Inv X pins σ H s) : ∀ x c, X.env.cells.lookup x = some c → c ≠ X.env.locals := fun x c e z => by
  obtain ⟨v, o, ho, hd⟩ := I.cell x c e
  obtain ⟨m, ⟨o', es, ep, ho', hd', _⟩, _⟩ := I.loc
  rw [z, ho'] at ho; cases ho; rw [hd'] at hd; cases hd
theorem Inv.funs (I : Inv X pins σ H s) : s.heap.FunFrames X.base X.outer := by
  have all : ∀ (l : List Env), (∀ b ∈ frs l, b ∈ X.fs) → X.s_0.heap.FunFrames X.base l → s.heap.FunFrames X.base l := by
    intro l
    induction l with
    | nil => intro _ _; trivial
    | cons env r ih =>
      intro hs hl
      obtain ⟨hk, ⟨L, o, hf, hn, ho, hd⟩, hr⟩ := hl
      have hL : L ∈ X.fs := hs L (by unfold frs; rw [List.filterMap_cons, hf]; exact List.mem_cons_self)
      obtain ⟨sl, e⟩ := I.base.slot L o ho (I.ok.frf L hL) hL fun z => I.ok.exfs L z hL
      exact ⟨hk, ⟨L, _, hf, hn, e, hd⟩, ih (fun b hb => hs b (by unfold frs; rw [List.filterMap_cons, hf]; exact List.mem_cons_of_mem _ hb)) hr⟩
  exact all X.outer (fun _ hb => hb) I.ok.funs
theorem Inv.stack (I : Inv X pins σ H s) : s.heap.FunFrames X.base X.stack := by
  rcases I.ok.stk with e | ⟨e, hf⟩
  · rw [e]; exact I.funs
  · rw [e]
    obtain ⟨m, hn, _⟩ := I.loc
    refine .cons (by rw [I.ok.kind]; decide) hf hn ?_ I.funs
    exact Heap.get?_none_of_le (Nat.le_trans I.ok.bsz I.ok.above)
theorem Inv.stkSub (I : Inv X pins σ H s) : ∀ b ∈ frs X.stack, b ∈ X.env.locals :: X.fs := fun b hb => by
  rcases I.ok.stk with e | ⟨e, hf⟩
  · rw [e] at hb; exact List.mem_cons_of_mem _ hb
  · rw [e] at hb
    unfold frs at hb
    rw [List.filterMap_cons, hf] at hb
    exact hb
theorem Inv.stkFree (I : Inv X pins σ H s) : ∀ b ∈ frs X.stack, H b = none := fun b hb => by
  rcases List.mem_cons.mp (I.stkSub b hb) with e | hb
  · rw [e]; exact I.free
  · obtain ⟨_, o, ho, _⟩ := I.ok.funs.mem hb
    exact I.base.free b o ho (I.ok.frf b hb) fun z => I.ok.exfs b z hb
theorem Inv.step {g' : Array GenState} {t' : Nat} {d' : Drawn} {ch : List Addr} (I : Inv X pins σ H s)
    (hch : ∀ b ∈ ch, (b ∈ X.ex ∨ X.s_0.heap.objs.size ≤ b) ∧ b ≠ X.env.locals ∧ (∀ x c, X.env.cells.lookup x = some c → c ≠ b) ∧ ∀ p ∈ X.pn ++ pins, p.1 ≠ b)
    (keep : ∀ b o, b ≠ X.env.locals → b ∉ X.fs → b ∉ ch → s.heap.get? b = some o → H b = none → h'.get? b = some o)
    (slot : ∀ b o, b ≠ X.env.locals → b ∈ X.fs → b ∉ ch → s.heap.get? b = some o → H b = none → ∃ sl, h'.get? b = some { o with slots := sl }) (free : ∀ b o, b ∉ ch → s.heap.get? b = some o → H b = none → H' b = none)
    (there : ∀ b o, b ∉ ch → s.heap.get? b = some o → ∃ o', h'.get? b = some o')
    (tups : ∀ b xs, H b = some (.tup xs) → H' b = some (.tup xs)) (frzs : ∀ b o u, H b = some (.frz o u) → H' b = some (.frz o u)) (tbls : ∀ b ps, H b = some (.tbl ps) → ∃ more, H' b = some (.tbl (ps ++ more)))
    (ns : ∀ m, s.heap.Ns X.env.locals m → h'.Ns X.env.locals m) (hok : HOk X.prog X.w H' h') (hg : AllBare g') :
    Inv X pins σ H' { s with heap := h', gens := g', drawn := d', toks := t' } := by
  have neL : ∀ b o, X.s_0.heap.get? b = some o → b ≠ X.env.locals := fun b o e => Nat.ne_of_lt (Nat.lt_of_lt_of_le (Heap.lt_size e) I.ok.above)
  have neC : ∀ b o, X.s_0.heap.get? b = some o → b ∉ X.ex → b ∉ ch := fun b o e hx hb => by
    rcases (hch b hb).1 with z | z
    · exact hx z
    · exact absurd (Nat.lt_of_lt_of_le (Heap.lt_size e) z) (Nat.lt_irrefl _)
  have cellK : ∀ x c, X.env.cells.lookup x = some c → ∀ v, s.heap.IsCell c v → h'.IsCell c v := fun x c e v ⟨o, ho, hd⟩ => by
    have nch : c ∉ ch := fun z => (hch c z).2.2.1 x c e rfl
    by_cases hc : c ∈ X.fs
    · obtain ⟨sl, q⟩ := slot c o (I.cne x c e) hc nch ho (I.freeC x c e)
      exact ⟨_, q, hd⟩
    · exact ⟨o, keep c o (I.cne x c e) hc nch ho (I.freeC x c e), hd⟩
  refine ⟨I.ok, I.os, hg, ⟨fun b o e n hb hx => ?_, fun b o e n hb hx => ?_, fun b o e n hx => ?_, fun b o e hx => ?_, fun b xs e => tups b xs (I.base.tups b xs e), fun b o xs e => frzs b o xs (I.base.frzs b o xs e), fun b ps e => ?_⟩, ?_, fun x c e => ?_, ?_, fun x c e => ?_, fun p hp => ?_, hok, I.len⟩
  · exact keep b o (neL b o e) hb (neC b o e hx) (I.base.keep b o e n hb hx) (I.base.free b o e n hx)
  · obtain ⟨sl, e1⟩ := I.base.slot b o e n hb hx
    obtain ⟨sl', e2⟩ := slot b _ (neL b o e) hb (neC b o e hx) e1 (I.base.free b o e n hx)
    exact ⟨sl', e2⟩
  · obtain ⟨o', e1⟩ := I.base.there b o e hx
    exact free b o' (neC b o e hx) e1 (I.base.free b o e n hx)
  · obtain ⟨o', e1⟩ := I.base.there b o e hx
    exact there b o' (neC b o e hx) e1
  · obtain ⟨m1, e1⟩ := I.base.tbls b ps e
    obtain ⟨m2, e2⟩ := tbls b _ e1
    exact ⟨m1 ++ m2, by rw [e2, Array.append_assoc]⟩
  · obtain ⟨m, hn, hl⟩ := I.loc
    refine ⟨m, ns m hn, fun i x v e1 e2 e3 => ?_⟩
    obtain ⟨u, r, l⟩ := hl i x v e1 e2 e3
    refine ⟨u, r, ?_⟩
    rcases l with l | ⟨k, c, e, z⟩
    · exact .inl l
    · exact .inr ⟨k, c, e, cellK x c e _ z⟩
  · obtain ⟨v, z⟩ := I.cell x c e
    exact ⟨v, cellK x c e v z⟩
  · obtain ⟨m, ⟨o, _, _, ho, _⟩, _⟩ := I.loc
    exact free _ o (fun z => (hch _ z).2.1 rfl) ho I.free
  · obtain ⟨v, o, ho, hd⟩ := I.cell x c e
    exact free c o (fun z => (hch c z).2.2.1 x c e rfl) ho (I.freeC x c e)
  · obtain ⟨e, n, ne, nf, d⟩ := I.pin p hp
    have nch : p.1 ∉ ch := fun z => (hch p.1 z).2.2.2 p hp rfl
    exact ⟨keep p.1 p.2 ne nf nch e n, free p.1 p.2 nch e n, ne, nf, d⟩
theorem Inv.un {t' : Nat} (I : Inv X pins σ H s) (u : Un X.fs [] H H' s.heap h') (hok : HOk X.prog X.w H' h') : Inv X pins σ H' { s with heap := h', toks := t' } := by
  obtain ⟨m, ⟨o, es, ep, ho, r⟩, _⟩ := id I.loc
  obtain ⟨sl, hL⟩ := u.any ho I.free (by simp)
  exact I.step (g' := s.gens) (d' := s.drawn) (ch := []) (fun _ z => nomatch z) (fun b o _ hb _ e n => u.keep b o e n hb (by simp)) (fun b o _ hb _ e n => u.slot b o e n hb (by simp)) (fun b o _ e n => u.free b o e n (by simp)) (fun b o _ e => u.there b o e (by simp)) u.tups u.frzs u.tbls (fun m' hm => by
    obtain ⟨o', es', ep', ho', r'⟩ := hm
    rw [ho] at ho'; cases ho'
    exact ⟨_, es', ep', hL, r'⟩) hok I.bare
theorem Inv.call {g' : Array GenState} {t' : Nat} {d' : Drawn} {ch : List Addr} (I : Inv X pins σ H s) (u : Un (frs X.stack) ch H H' s.heap h') (hok : HOk X.prog X.w H' h') (hg : AllBare g')
    (hch : ∀ b ∈ ch, (b ∈ X.ex ∨ X.s_0.heap.objs.size ≤ b) ∧ b ≠ X.env.locals ∧ (∀ x c, X.env.cells.lookup x = some c → c ≠ b) ∧ ∀ p ∈ X.pn ++ pins, p.1 ≠ b) :
    Inv X pins σ H' { s with heap := h', gens := g', drawn := d', toks := t' } := by
  obtain ⟨m, ⟨o, es, ep, ho, r⟩, _⟩ := id I.loc
  obtain ⟨sl, hL⟩ := u.any ho I.free fun z => (hch _ z).2.1 rfl
  exact I.step (ch := ch) hch (fun b o hL hb hc e n => u.keep b o e n (fun z => (List.mem_cons.mp (I.stkSub b z)).elim hL hb) hc) (fun b o _ _ hc e n => u.any e n hc) (fun b o hc e n => u.free b o e n hc) (fun b o hc e => u.there b o e hc) u.tups u.frzs u.tbls (fun m' hm => by
    obtain ⟨o', es', ep', ho', r'⟩ := hm
    rw [ho] at ho'; cases ho'
    exact ⟨_, es', ep', hL, r'⟩) hok hg
theorem Inv.turned {t' : Nat} {it : Addr} (I : Inv X pins σ H s) (k : ∀ b o, b ≠ it → s.heap.get? b = some o → h'.get? b = some o) (hn : H it = none) (hL : it ≠ X.env.locals)
    (h1 : it ∈ X.ex ∨ X.s_0.heap.objs.size ≤ it) (h2 : ∀ x c, X.env.cells.lookup x = some c → c ≠ it) (h3 : ∀ p ∈ X.pn ++ pins, p.1 ≠ it) : Inv X pins σ H { s with heap := h', toks := t' } := by
  have nit : ∀ b u, H b = some u → b ≠ it := fun b u e z => by rw [z, hn] at e; cases e
  refine I.step (g' := s.gens) (d' := s.drawn) (ch := [it]) (fun b hb => ?_) (fun b o _ _ hc e _ => k b o (fun z => hc (by simp [z])) e) (fun b o _ _ hc e _ => ⟨o.slots, k b o (fun z => hc (by simp [z])) e⟩) (fun _ _ _ _ n => n)
    (fun b o hc e => ⟨o, k b o (fun z => hc (by simp [z])) e⟩) (fun _ _ e => e) (fun _ _ _ e => e) (fun b ps e => ⟨#[], by rw [e]; simp⟩) (fun m hm => ?_) (fun b u e => ?_) I.bare
  · have e : b = it := by simpa using hb
    subst e
    exact ⟨h1, hL, h2, h3⟩
  · obtain ⟨o, es, ep, ho, r⟩ := hm
    exact ⟨o, es, ep, k _ o (Ne.symm hL) ho, r⟩
  · refine (I.hok b u e).stay (fun c v hc q => k c v ?_ q) (fun _ q => q) fun _ _ q => q
    rcases hc with z | z
    · rw [z]; exact nit b u e
    · exact nit c _ z
theorem Inv.tok (I : Inv X pins σ H s) (t : Nat) : Inv X pins σ H { s with toks := t } := I.un (h' := s.heap) (t' := t) Un.refl I.hok
theorem Inv.kept {t' : Nat} (I : Inv X pins σ H s) (k : ∀ b u, s.heap.get? b = some u → h'.get? b = some u) : Inv X pins σ H { s with heap := h', toks := t' } := I.un (Un.kept k) (I.hok.kept k)
theorem Inv.laid {a : Addr} {o : HO} {t' : Nat} (I : Inv X pins σ H s) (k : ∀ b u, s.heap.get? b = some u → h'.get? b = some u) (hp : s.heap.objs.size ≤ a) (new : ObjOk X.prog X.w (upd H a o) h' a o) :
    Inv X pins σ (upd H a o) { s with heap := h', toks := t' } := I.un (Un.laid k hp (I.hok.fresh hp)) (I.hok.laid k hp new)
theorem Inv.write {x e : Addr} {o : HO} {t' : Nat} (I : Inv X pins σ H s) (mu : Mut (H x)) (he : e = x ∨ H e = some (.own x)) (k : ∀ b u, b ≠ e → s.heap.get? b = some u → h'.get? b = some u) (heo : ∃ u, h'.get? e = some u)
    (new : ObjOk X.prog X.w (upd H x o) h' x o) : Inv X pins σ (upd H x o) { s with heap := h', toks := t' } := I.un (Un.write mu he k heo) (I.hok.write mu he k heo new)
theorem Inv.weak {σ' : List (Option V)} (I : Inv X pins σ H s) (hl : σ'.length = σ.length) (w : ∀ (i : Nat) v, σ'[i]? = some (some v) → σ[i]? = some (some v)) : Inv X pins σ' H s :=
  ⟨I.ok, I.os, I.bare, I.base, let ⟨m, hn, hl'⟩ := I.loc; ⟨m, hn, fun i x v e1 e2 e3 => hl' i x v e1 (w i v e2) e3⟩, I.cell, I.free, I.freeC, I.pin, I.hok, hl.trans I.len⟩
theorem Inv.pins_of {pins' : List (Addr × Obj)} (I : Inv X pins σ H s) (h : ∀ p ∈ pins', s.heap.get? p.1 = some p.2 ∧ H p.1 = none ∧ p.1 ≠ X.env.locals ∧ p.1 ∉ X.fs ∧ ∀ v, p.2.data ≠ .cell v) : Inv X pins' σ H s :=
  ⟨I.ok, I.os, I.bare, I.base, I.loc, I.cell, I.free, I.freeC, fun p hp => (List.mem_append.mp hp).elim (fun z => I.pin p (List.mem_append_left _ z)) (h p), I.hok, I.len⟩
theorem nodup_ix {N : List Str} (hN : N.Nodup) {i j : Nat} {x : Str} (a : N[i]? = some x) (b : N[j]? = some x) : i = j := by
  obtain ⟨h1, e1⟩ := List.getElem?_eq_some_iff.mp a
  obtain ⟨h2, e2⟩ := List.getElem?_eq_some_iff.mp b
  exact (List.getElem_inj hN).mp (e1.trans e2.symm)
theorem store_ok2 {M : Model} {A : Around} {E : Value → Shared → Prop} {i : Nat} {x : Str} {v : V} {u : Value} {Q : Unit → Shared → Prop} (I : Inv X pins σ H s) (hN : X.N.Nodup) (hi : X.N[i]? = some x) (hx : Loc X.env.scope x) (r : RelV v u)
    (h : ∀ s', Inv X pins (σ.set i (some v)) H s' → (∃ a, Heap.SameBut a s.heap s'.heap ∧ (a = X.env.locals ∨ X.env.cells.lookup x = some a)) → Q () s') (hf : X.fn x = true ∨ X.env.scope.names.lookup x = some .local := by first | exact .inl rfl | exact .inr rfl | assumption) : wpAny M A (storeName X.env x u) Q E s := by
  obtain ⟨m, hn, hl⟩ := id I.loc
  have hcls : (X.env.scope.kind == .class || (X.env.scope.kind == .module && X.env.locals != X.env.globals)) = false := by rw [I.ok.kind]; rfl
  have hiσ : i < σ.length := by rw [I.len]; exact (List.getElem?_eq_some_iff.mp hi).1
  have cne := I.cne
  have tracked : ∀ {a : Addr} {h' : Heap}, (∃ o, s.heap.get? a = some o ∧ H a = none) → Heap.SameBut a s.heap h' → HOk X.prog X.w H h' := fun {a h'} ha hs b ob e => by
    obtain ⟨_, _, hfree⟩ := ha
    refine (I.hok b ob e).stay (fun c w' hc q => (hs.2 c ?_).trans q) (fun _ q => q) fun _ _ q => q
    rintro rfl
    rcases hc with rfl | hc
    · rw [hfree] at e; cases e
    · rw [hfree] at hc; cases hc
  rcases hx with hk | hk
  · refine wpAny_storeName_local hk hn (fun h' hn' hs => ?_) hcls
    obtain ⟨oL, _, _, hoL, _⟩ := id hn
    refine h _ ⟨I.ok, I.os, I.bare, ⟨fun b o e n hb hx => ?_, fun b o e n hb hx => ?_, I.base.free, fun b o e hx => ?_, I.base.tups, I.base.frzs, I.base.tbls⟩, ⟨_, hn', fun j y v' e1 e2 e3 => ?_⟩, fun y c e => ?_, I.free, I.freeC, fun p hp => ?_, tracked ⟨oL, hoL, I.free⟩ hs, by simpa using I.len⟩ ⟨_, hs, .inl rfl⟩
    · exact (hs.2 b (Nat.ne_of_lt (Nat.lt_of_lt_of_le (Heap.lt_size e) I.ok.above))).trans (I.base.keep b o e n hb hx)
    · obtain ⟨sl, e1⟩ := I.base.slot b o e n hb hx
      exact ⟨sl, (hs.2 b (Nat.ne_of_lt (Nat.lt_of_lt_of_le (Heap.lt_size e) I.ok.above))).trans e1⟩
    · obtain ⟨o', e1⟩ := I.base.there b o e hx
      exact ⟨o', (hs.2 b (Nat.ne_of_lt (Nat.lt_of_lt_of_le (Heap.lt_size e) I.ok.above))).trans e1⟩
    · by_cases hj : j = i
      · subst hj
        rw [hi] at e1; cases e1
        rw [List.getElem?_set_self hiσ] at e2
        cases e2
        exact ⟨u, r, .inl ⟨hk, by simp⟩⟩
      · rw [List.getElem?_set_ne (Ne.symm hj)] at e2
        obtain ⟨u', r', q⟩ := hl j y v' e1 e2 e3
        refine ⟨u', r', ?_⟩
        rcases q with ⟨k, e⟩ | ⟨k, c, e, z⟩
        · refine .inl ⟨k, ?_⟩
          have : y ≠ x := fun e => hj (nodup_ix hN e1 (e ▸ hi))
          simp [this, e]
        · exact .inr ⟨k, c, e, z.sameBut hs (cne y c e)⟩
    · obtain ⟨w', z⟩ := I.cell y c e
      exact ⟨w', z.sameBut hs (cne y c e)⟩
    · obtain ⟨e, n, ne, nf, d⟩ := I.pin p hp
      exact ⟨(hs.2 p.1 ne).trans e, n, ne, nf, d⟩
  · have hfn : X.fn x = true := by
      rcases hf with z | z
      · exact z
      · rw [z] at hk; cases hk
    obtain ⟨c, hc⟩ := I.ok.has x (.inl hk)
    obtain ⟨w', z⟩ := I.cell x c hc
    refine wpAny_storeName_cell I.ok.kind hk hc z (fun h' hc' hs => ?_)
    obtain ⟨oc, hoc, hocd⟩ := id z
    refine h { s with heap := h' } ⟨I.ok, I.os, I.bare, ⟨fun b o e n hb hx => ?_, fun b o e n hb hx => ?_, I.base.free, fun b o e hx => ?_, I.base.tups, I.base.frzs, I.base.tbls⟩, ⟨m, hn.sameBut hs (Ne.symm (cne x c hc)), fun j y v' e1 e2 e3 => ?_⟩, fun y c' e => ?_, I.free, I.freeC, fun p hp => ?_, tracked ⟨oc, hoc, I.freeC x c hc⟩ hs, by simpa using I.len⟩ ⟨c, hs, .inr hc⟩
    · exact (hs.2 b (Nat.ne_of_lt (Nat.lt_of_lt_of_le (Heap.lt_size e) (I.ok.cab x c hfn hc)))).trans (I.base.keep b o e n hb hx)
    · obtain ⟨sl, e1⟩ := I.base.slot b o e n hb hx
      exact ⟨sl, (hs.2 b (Nat.ne_of_lt (Nat.lt_of_lt_of_le (Heap.lt_size e) (I.ok.cab x c hfn hc)))).trans e1⟩
    · obtain ⟨o', e1⟩ := I.base.there b o e hx
      exact ⟨o', (hs.2 b (Nat.ne_of_lt (Nat.lt_of_lt_of_le (Heap.lt_size e) (I.ok.cab x c hfn hc)))).trans e1⟩
    · by_cases hj : j = i
      · subst hj
        rw [hi] at e1; cases e1
        rw [List.getElem?_set_self hiσ] at e2
        cases e2
        exact ⟨u, r, .inr ⟨.inl hk, c, hc, hc'⟩⟩
      · rw [List.getElem?_set_ne (Ne.symm hj)] at e2
        obtain ⟨u', r', q⟩ := hl j y v' e1 e2 e3
        refine ⟨u', r', ?_⟩
        rcases q with q | ⟨k, c', e, z'⟩
        · exact .inl q
        · refine .inr ⟨k, c', e, z'.sameBut hs ?_⟩
          rintro rfl
          exact hj (nodup_ix hN e1 (I.ok.inj _ _ _ e hc ▸ hi))
    · by_cases hcc : c' = c
      · subst hcc; exact ⟨_, hc'⟩
      · obtain ⟨w2, z2⟩ := I.cell y c' e
        exact ⟨w2, z2.sameBut hs hcc⟩
    · obtain ⟨e, n, ne, nf, d⟩ := I.pin p hp
      refine ⟨(hs.2 p.1 ?_).trans e, n, ne, nf, d⟩
      intro q
      rw [q, hoc] at e
      have q' : oc = p.2 := Option.some.inj e
      exact d w' (by rw [← q']; exact hocd)
theorem store_ok {M : Model} {A : Around} {E : Value → Shared → Prop} {i : Nat} {x : Str} {v : V} {u : Value} {Q : Unit → Shared → Prop} (I : Inv X pins σ H s) (hN : X.N.Nodup) (hi : X.N[i]? = some x) (hx : Loc X.env.scope x) (r : RelV v u)
    (h : ∀ s', Inv X pins (σ.set i (some v)) H s' → Q () s') (hf : X.fn x = true ∨ X.env.scope.names.lookup x = some .local := by first | exact .inl rfl | exact .inr rfl | assumption) : wpAny M A (storeName X.env x u) Q E s :=
  store_ok2 I hN hi hx r (fun s' I' _ => h s' I') hf
theorem Inv.call' {s' : Shared} {ch : List Addr} (I : Inv X pins σ H s) (ho : s'.os = s.os) (u : Un (frs X.stack) ch H H' s.heap s'.heap) (hok : HOk X.prog X.w H' s'.heap) (hg : AllBare s'.gens)
    (hch : ∀ b ∈ ch, (b ∈ X.ex ∨ X.s_0.heap.objs.size ≤ b) ∧ b ≠ X.env.locals ∧ (∀ x c, X.env.cells.lookup x = some c → c ≠ b) ∧ ∀ p ∈ X.pn ++ pins, p.1 ≠ b) : Inv X pins σ H' s' := by
  obtain ⟨h', g', d', t', o'⟩ := s'
  have e : o' = s.os := ho
  subst e
  exact I.call (g' := g') (t' := t') (d' := d') u hok hg hch
end
abbrev XK := Value → Option Addr → Hp → Prop
abbrev St := List (Option V)
abbrev VK := V → Hp → Prop
abbrev TE := St → Hp → VK → Prop
abbrev TT := St → Hp → (Bool → Hp → Prop) → Prop
abbrev TA := St → Hp → (List V → Hp → Prop) → Prop
structure Ends where
  nx : St → Hp → Prop
  rt : VK
  bk : St → Hp → Prop := fun _ _ => False
  ct : St → Hp → Prop := fun _ _ => False
abbrev TS := Ends → St → Hp → Prop
def EP (X : Cx) (pins : List (Addr × Obj)) (σ : St) (Q : VK) (u : Value) (s' : Shared) : Prop := ∃ v H', Inv X pins σ H' s' ∧ RelV v u ∧ Q v H'
def TP (X : Cx) (pins : List (Addr × Obj)) (σ : St) (Q : Bool → Hp → Prop) (b : Bool) (s' : Shared) : Prop := ∃ H', Inv X pins σ H' s' ∧ Q b H'
def AP (X : Cx) (pins : List (Addr × Obj)) (σ : St) (Q : List V → Hp → Prop) (us : List Value) (s' : Shared) : Prop := ∃ vs H', Inv X pins σ H' s' ∧ Vals vs us ∧ Q vs H'
def SP (X : Cx) (pins : List (Addr × Obj)) (D : Ends) (f : Flow) (s' : Shared) : Prop :=
  match f with
  | .next => ∃ σ' H', Inv X pins σ' H' s' ∧ D.nx σ' H'
  | .brk => ∃ σ' H', Inv X pins σ' H' s' ∧ D.bk σ' H'
  | .cont => ∃ σ' H', Inv X pins σ' H' s' ∧ D.ct σ' H'
  | .ret u => ∃ v σ' H', Inv X pins σ' H' s' ∧ RelV v u ∧ D.rt v H'
def PE (X : Cx) (e : Expr) (t : TE) : Prop :=
  ∀ (pins : List (Addr × Obj)) (s : Shared) (σ : St) (H : Hp) (Q : VK), Inv X pins σ H s → t σ H Q → wpAny (model X.prog X.w) X.A (eval e X.env) (EP X pins σ Q) X.xe s
def PT (X : Cx) (e : Expr) (t : TT) : Prop :=
  ∀ (pins : List (Addr × Obj)) (s : Shared) (σ : St) (H : Hp) (Q : Bool → Hp → Prop), Inv X pins σ H s → t σ H Q → wpAny (model X.prog X.w) X.A (isTrue e X.env (eval e X.env)) (TP X pins σ Q) X.xe s
def PW (X : Cx) (e : Expr) (t : TT) : Prop :=
  ∀ (whole : Sem Value) (pins : List (Addr × Obj)) (s : Shared) (σ : St) (H : Hp) (Q : Bool → Hp → Prop), Inv X pins σ H s → t σ H Q → wpAny (model X.prog X.w) X.A (isTrue e X.env whole) (TP X pins σ Q) X.xe s
theorem PW.pt {X : Cx} {e : Expr} {t : TT} (h : PW X e t) : PT X e t := h _
def PA (X : Cx) (es : List Expr) (t : TA) : Prop :=
  ∀ (pos : Pos) (pins : List (Addr × Obj)) (s : Shared) (σ : St) (H : Hp) (Q : List V → Hp → Prop), Inv X pins σ H s → t σ H Q → wpAny (model X.prog X.w) X.A (spliced (backTo pos (starEach es X.env))) (AP X pins σ Q) X.xe s
def PS (X : Cx) (st : Stmt) (t : TS) : Prop :=
  ∀ (pins : List (Addr × Obj)) (s : Shared) (σ : St) (H : Hp) (D : Ends), Inv X pins σ H s → t D σ H → wpAny (model X.prog X.w) X.A (exec st X.env) (SP X pins D) X.xe s
def PSs (X : Cx) (st : List Stmt) (t : TS) : Prop :=
  ∀ (pins : List (Addr × Obj)) (s : Shared) (σ : St) (H : Hp) (D : Ends), Inv X pins σ H s → t D σ H → wpAny (model X.prog X.w) X.A (execs st X.env) (SP X pins D) X.xe s
theorem thn {α : Type} {t : Sem α} {Q Q' : α → Shared → Prop} {M : Model} {A : Around} {E : Value → Shared → Prop} {s : Shared} (h : wpAny M A t Q E s) (hQ : ∀ a s, Q a s → Q' a s) : wpAny M A t Q' E s := wpAny_mono h hQ fun _ _ x => x
end L2
namespace L2
open PySem PySem.Spec PyProof.Rows
section
variable {X : Cx}
def tVar (i : Nat) : TE := fun σ H Q => ∃ v, σ[i]? = some (some v) ∧ Q v H
def tC (v : V) : TE := fun _ H Q => Q v H
theorem pe_var {i : Nat} {x : Str} {pos : Pos} (hN : X.N[i]? = some x) (hv : Vis X.env.scope x) (hd : (x == ("__debug__" : Str)) = false := by decide) (hcd : (x == ("__classdict__" : Str)) = false := by decide) : PE X (.Name x pos) (tVar i) := by
  intro pins s σ H Q I h
  obtain ⟨v, e, h⟩ := h
  obtain ⟨m, hn, hl⟩ := I.loc
  obtain ⟨u, r, l⟩ := hl i x v hN e hv
  have fin : EP X pins σ Q u s := ⟨v, H, I, r, h⟩
  rcases l with ⟨hk, hm⟩ | ⟨hk, c, hc, hcell⟩
  · exact wpAny_Name (wpAny_loadName_local I.ok.kind hk hn hm fin) hd
  · rcases hk with hk | hk
    · exact wpAny_Name (wpAny_loadName_cell I.ok.kind hk hc hcell fin) hd
    · exact wpAny_Name (wpAny_loadName_free I.ok.kind hk hc hcell fin hcd) hd
theorem pe_int {i j pos} : PE X (.Constant (.int i) j pos) (tC (.int i)) := fun _ _ _ H _ I h => wpAny_Constant_int ⟨.int i, H, I.tok _, ⟨_, rfl⟩, h⟩
theorem pe_bl {b j pos} : PE X (.Constant (.bool b) j pos) (tC (.bl b)) := fun _ _ _ H _ I h => Constant_bool ⟨.bl b, H, I, rfl, h⟩
theorem pe_non {j pos} : PE X (.Constant .none j pos) (tC .non) := fun _ _ _ H _ I h => Constant_none ⟨.non, H, I, rfl, h⟩
def Gl (X : Cx) (x : Str) : Prop := X.env.kindOf x = some .globalImplicit
theorem ld_glob {E : Value → Shared → Prop} {pins : List (Addr × Obj)} {s : Shared} {σ : St} {H : Hp} {x : Str} {u : Value} {pos : Pos} {Q : Value → Shared → Prop} (I : Inv X pins σ H s) (hg : Gl X x) (hm : X.mg x = some u) (h : Q u s)
    (hd : (x == ("__debug__" : Str)) = false := by decide) : wpAny (model X.prog X.w) X.A (eval (.Name x pos) X.env) Q E s :=
  Calls.Name_function_global I.ok.kind hg (Calls.loadGlobal_global (by rw [I.ok.glob]; exact I.mod.glob.keeps I.bk) hm h) hd
theorem ld_blt {E : Value → Shared → Prop} {pins : List (Addr × Obj)} {s : Shared} {σ : St} {H : Hp} {x : Str} {u : Value} {pos : Pos} {Q : Value → Shared → Prop} (I : Inv X pins σ H s) (hg : Gl X x) (hm : X.mg x = none) (hv : bootBuiltins x = some u) (h : Q u s)
    (hn : x ≠ "__name__" := by decide) (hd : (x == ("__debug__" : Str)) = false := by decide) : wpAny (model X.prog X.w) X.A (eval (.Name x pos) X.env) Q E s := by
  obtain ⟨mb, h1, h2⟩ := I.mod.blt
  exact Calls.Name_function_global I.ok.kind hg (Calls.loadGlobal_builtin (by rw [I.ok.glob]; exact I.mod.glob.keeps I.bk) hm (by rw [I.ok.blt]; exact h1.keeps I.bk) ((h2 x hn).trans hv) h) hd
theorem pe_glob {x : Str} {v : V} {u : Value} {pos : Pos} (hg : Gl X x) (hm : X.mg x = some u) (r : RelV v u) (hd : (x == ("__debug__" : Str)) = false := by decide) : PE X (.Name x pos) (tC v) :=
  fun _ _ _ H _ I h => ld_glob I hg hm ⟨v, H, I, r, h⟩ hd
variable {a b : Expr} {ta tb : TE} {pos : Pos}
def PC (X : Cx) (op : CmpOp) (a b : Expr) (t : TE) : Prop :=
  ∀ (pins : List (Addr × Obj)) (s : Shared) (σ : St) (H : Hp) (Q : VK), Inv X pins σ H s → t σ H Q →
    wpAny (model X.prog X.w) X.A (eval a X.env) (fun v s₁ => wpAny (model X.prog X.w) X.A (eval b X.env) (fun u s₂ => wpAny (model X.prog X.w) X.A (compareOp op v u) (EP X pins σ Q) X.xe s₂) X.xe s₁) X.xe s
theorem nobehind (b : Expr) {op : CmpOp} (h : op ≠ .In) (h2 : op ≠ .NotIn) : behindInMarks op b = false := by
  have e1 : (op == CmpOp.In) = false := by cases op <;> first | rfl | exact absurd rfl h
  have e2 : (op == CmpOp.NotIn) = false := by cases op <;> first | rfl | exact absurd rfl h2
  cases b <;> simp [behindInMarks, e1, e2]
def tIsN (ta : TE) : TE := fun σ H Q => ta σ H fun x H1 => Q (.bl (decide (x = .non))) H1
theorem RelV.none_iff {x : V} {v : Value} (r : RelV x v) : (v == Value.none) = decide (x = .non) := by
  cases x with
  | non => cases r; rfl
  | bl _ => cases r; rfl
  | int _ => obtain ⟨t, rfl⟩ := r; rfl
  | str _ => obtain ⟨t, rfl⟩ := r; rfl
  | byt _ => obtain ⟨t, rfl⟩ := r; rfl
  | flt _ => obtain ⟨t, rfl⟩ := r; rfl
  | ref _ => cases r; rfl
  | ty _ => cases r; rfl
theorem pc_isN {j pos'} (ha : PE X a ta) : PC X .Is a (.Constant .none j pos') (tIsN ta) := by
  intro pins s σ H Q I h
  refine thn (ha pins s σ H _ I h) fun v s1 ⟨x, H1, I1, r1, q1⟩ => ?_
  exact Constant_none (is_none_gen ⟨.bl _, H1, I1, by rw [r1.none_iff]; rfl, q1⟩)
def tB (t : TE) : TT := fun σ H Q => t σ H fun x H1 => ∃ c, x = .bl c ∧ Q c H1
theorem pe_cmp {op : CmpOp} {t : TE} (h : PC X op a b t) (h1 : behindInMarks op b = false := by first | exact nobehind _ (by decide) (by decide) | rfl) : PE X (.Compare a [op] [b] pos) t := fun pins s σ H Q I hw => wpAny_Compare1 (h pins s σ H Q I hw) h1
theorem pt_cmp {op : CmpOp} {t : TE} (h : PC X op a b t) (h1 : behindInMarks op b = false := by first | exact nobehind _ (by decide) (by decide) | rfl) : PT X (.Compare a [op] [b] pos) (tB t) := by
  intro pins s σ H Q I hw
  refine wpAny_isTrue_Compare1 (thn (h pins s σ H _ I hw) fun v s1 h1 => thn h1 fun u s2 h2 => thn h2 fun c s3 ⟨x, H1, I1, r1, q1⟩ => ?_) h1
  obtain ⟨d, rfl, q⟩ := q1
  cases r1
  exact wpAny_truthy_bool ⟨H1, I1, q⟩
theorem pt_val {e : Expr} {t : TE} (h : PE X e t) (he : ∀ whole, isTrue e X.env whole = (do let v ← whole; standAt e.pos; holding [v] (truthy v)) := by intro _; rfl) : PT X e (tB t) := by
  intro pins s σ H Q I hw
  refine isTrue_plain (thn (h pins s σ H _ I hw) fun v s1 ⟨x, H1, I1, r1, q1⟩ => ?_) (he _)
  obtain ⟨d, rfl, q⟩ := q1
  cases r1
  exact wpAny_truthy_bool ⟨H1, I1, q⟩
variable {tA tB' : TT} {rest : List Expr}
def tAnd (t u : TT) : TT := fun σ H Q => t σ H fun c H1 => if c = true then u σ H1 Q else Q false H1
def tOr (t u : TT) : TT := fun σ H Q => t σ H fun c H1 => if c = true then Q true H1 else u σ H1 Q
def tNot (t : TT) : TT := fun σ H Q => t σ H fun c H1 => Q (!c) H1
theorem pw_and1 (ha : PT X a tA) : PW X (.BoolOp .And [a] pos) tA := by
  intro wh pins s σ H Q I h
  refine isTrue_and (thn (ha pins s σ H Q I h) fun c s1 e => ?_)
  cases c with
  | true => exact isTrue_and_nil e
  | false => exact e
theorem pw_or1 (ha : PT X a tA) : PW X (.BoolOp .Or [a] pos) tA := by
  intro wh pins s σ H Q I h
  refine isTrue_or (thn (ha pins s σ H Q I h) fun c s1 e => ?_)
  cases c with
  | false => exact isTrue_or_nil e
  | true => exact e
theorem pw_and (ha : PT X a tA) (hb : PW X (.BoolOp .And (b :: rest) pos) tB') : PW X (.BoolOp .And (a :: b :: rest) pos) (tAnd tA tB') := by
  intro wh pins s σ H Q I h
  refine isTrue_and (thn (ha pins s σ H _ I h) fun c s1 ⟨H1, I1, q1⟩ => ?_)
  cases c with
  | true => exact hb wh pins s1 σ H1 Q I1 q1
  | false => exact ⟨H1, I1, q1⟩
theorem pw_or (ha : PT X a tA) (hb : PW X (.BoolOp .Or (b :: rest) pos) tB') : PW X (.BoolOp .Or (a :: b :: rest) pos) (tOr tA tB') := by
  intro wh pins s σ H Q I h
  refine isTrue_or (thn (ha pins s σ H _ I h) fun c s1 ⟨H1, I1, q1⟩ => ?_)
  cases c with
  | true => exact ⟨H1, I1, q1⟩
  | false => exact hb wh pins s1 σ H1 Q I1 q1
theorem pt_not (ha : PT X a tA) : PT X (.UnaryOp .Not a pos) (tNot tA) := by
  intro pins s σ H Q I h
  exact isTrue_not (ha pins s σ H (fun c H1 => Q (!c) H1) I h)
def tOrV (ta tb : TE) : TE := fun σ H Q => ta σ H fun x H1 => ∃ c, x = .bl c ∧ if c = true then Q (.bl true) H1 else tb σ H1 Q
theorem pe_one {op} {t : TE} (h : PE X a t) : PE X (.BoolOp op [a] pos) t := fun pins s σ H Q I hw => BoolOp_one (h pins s σ H Q I hw)
theorem pe_or (ha : PE X a ta) (hb : PE X (.BoolOp .Or (b :: rest) pos) tb) : PE X (.BoolOp .Or (a :: b :: rest) pos) (tOrV ta tb) := by
  intro pins s σ H Q I h
  refine BoolOp_or (thn (ha pins s σ H _ I h) fun v s1 ⟨x, H1, I1, r1, q1⟩ => ?_)
  obtain ⟨c, rfl, q1⟩ := q1
  cases r1
  refine wpAny_truthy_bool ?_
  cases c with
  | false => exact hb pins s1 σ H1 Q I1 q1
  | true => exact ⟨.bl true, H1, I1, rfl, q1⟩
def tIf (t : TT) (ta tb : TE) : TE := fun σ H Q => t σ H fun c H1 => if c = true then ta σ H1 Q else tb σ H1 Q
theorem pe_ifExp {c : Expr} (hc : PT X c tA) (ha : PE X a ta) (hb : PE X b tb) : PE X (.IfExp c a b pos) (tIf tA ta tb) := by
  intro pins s σ H Q I h
  refine wpAny_IfExp (thn (hc pins s σ H _ I h) fun d s1 ⟨H1, I1, q1⟩ => ?_)
  cases d with
  | true => exact ha pins s1 σ H1 Q I1 q1
  | false => exact hb pins s1 σ H1 Q I1 q1
end
end L2
namespace L2
open PySem PySem.Spec PyProof.Rows
def SqL (K : PySem.W.Frag) (H : Hp) (a : Addr) (xs : List V) : Prop :=
  Rd H a (.lst xs) ∨
    ∃ (o : Obj) (its : Array Value) (n : Nat), K.lookup a = some o ∧ o.cls = .type "list" ∧ o.dict = none ∧ o.data = .seq its n ∧ its.size ≤ sizeLine ∧ Vals xs its.toList
def SqT (K : PySem.W.Frag) (H : Hp) (a : Addr) (xs : List V) : Prop :=
  Rd H a (.tup xs) ∨
    ∃ (o : Obj) (its : Array Value) (n : Nat), K.lookup a = some o ∧ o.cls = .type "tuple" ∧ o.data = .seq its n ∧ its.size ≤ sizeLine ∧ Vals xs its.toList
def absV : Value → Option V
  | .none => some .non
  | .bool b => some (.bl b)
  | .int i _ => some (.int i)
  | .str x _ => some (.str x)
  | .bytes b _ => some (.byt b)
  | .float b _ => some (.flt b)
  | .ref a => some (.ref a)
  | .type n => some (.ty n)
  | _ => none
theorem RelV.abs {x : V} {u : Value} (r : RelV x u) : absV u = some x := by
  cases x with
  | non => cases r; rfl
  | bl _ => cases r; rfl
  | int _ => obtain ⟨t, rfl⟩ := r; rfl
  | str _ => obtain ⟨t, rfl⟩ := r; rfl
  | byt _ => obtain ⟨t, rfl⟩ := r; rfl
  | flt _ => obtain ⟨t, rfl⟩ := r; rfl
  | ref _ => cases r; rfl
  | ty _ => cases r; rfl
theorem RelV.inj {x y : V} {u : Value} (r : RelV x u) (q : RelV y u) : x = y := Option.some.inj (r.abs.symm.trans q.abs)
theorem Vals.inj : ∀ {xs ys : List V} {us : List Value}, Vals xs us → Vals ys us → xs = ys
  | _, _, _, .nil, .nil => rfl
  | _, _, _, .cons r t, .cons r' t' => by rw [r.inj r', Vals.inj t t']
section
variable {X : Cx} {pins : List (Addr × Obj)} {σ : St} {H : Hp} {s : Shared} {a : Addr} {xs ys : List V}
theorem SqL.of {K : PySem.W.Frag} (h : H a = some (.lst xs)) : SqL K H a xs := .inl (.inl h)
theorem SqT.of {K : PySem.W.Frag} (h : H a = some (.tup xs)) : SqT K H a xs := .inl (.inl h)
theorem Inv.list (I : Inv X pins σ H s) (h : SqL X.K H a xs) : ∃ its : List Value, Vals xs its ∧ PlainL s.heap a its.toArray ∧ xs.length ≤ sizeLine := by
  rcases h with h | ⟨o, its, n, hk, hc, hd, hs, hz, r⟩
  · obtain ⟨z, its, n, r, e⟩ := h.ok I.hok
    exact ⟨its, r, ⟨_, n, e, rfl, rfl, rfl⟩, z⟩
  · refine ⟨its.toList, r, ⟨o, n, I.kIn a o hk, hc, hd, by simpa using hs⟩, ?_⟩
    have e := r.length
    simp only [Array.length_toList] at e
    omega
theorem Inv.tuple (I : Inv X pins σ H s) (h : SqT X.K H a xs) : ∃ its : List Value, Vals xs its ∧ IsTup s.heap a its.toArray ∧ xs.length ≤ sizeLine := by
  rcases h with h | ⟨o, its, n, hk, hc, hs, hz, r⟩
  · obtain ⟨z, its, r, p⟩ := h.ok I.hok
    exact ⟨its, r, p, z⟩
  · refine ⟨its.toList, r, ⟨o, I.kIn a o hk, hc, n, by simpa using hs⟩, ?_⟩
    have e := r.length
    simp only [Array.length_toList] at e
    omega
theorem Inv.list_inj (I : Inv X pins σ H s) (h : SqL X.K H a xs) (h' : SqL X.K H a ys) : xs = ys := by
  obtain ⟨its, r, ⟨o, n, e, _, _, d⟩, _⟩ := I.list h
  obtain ⟨its', r', ⟨o', n', e', _, _, d'⟩, _⟩ := I.list h'
  rw [e] at e'; cases e'
  rw [d] at d'
  injection d' with d1 _
  have : its = its' := by simpa using congrArg Array.toList d1
  subst this
  exact r.inj r'
end
abbrev Cx.wish (X : Cx) (E : Value → Shared → Prop) : Cx := { X with xe := E }
abbrev Cx.nox (X : Cx) : Cx := X.wish fun _ _ => False
theorem Cx.Ok.wish {X : Cx} (ok : X.Ok) (E : Value → Shared → Prop) : (X.wish E).Ok :=
  ⟨ok.mod, ok.kind, ok.glob, ok.blt, ok.above, ok.inj, ok.has, ok.cab, ok.hd, ok.frames, ok.stk, ok.exf, ok.bs, ok.bsz, ok.noex, ok.exfs, ok.funs, ok.frf⟩
theorem Cx.Ok.unwish {X : Cx} {E : Value → Shared → Prop} (ok : (X.wish E).Ok) : X.Ok :=
  ⟨ok.mod, ok.kind, ok.glob, ok.blt, ok.above, ok.inj, ok.has, ok.cab, ok.hd, ok.frames, ok.stk, ok.exf, ok.bs, ok.bsz, ok.noex, ok.exfs, ok.funs, ok.frf⟩
section
variable {X : Cx} {pins : List (Addr × Obj)} {σ : St} {H : Hp} {s : Shared} {E : Value → Shared → Prop}
theorem Inv.wish (I : Inv X pins σ H s) (E : Value → Shared → Prop) : Inv (X.wish E) pins σ H s := ⟨I.ok.wish E, I.os, I.bare, I.base, I.loc, I.cell, I.free, I.freeC, I.pin, I.hok, I.len⟩
theorem Inv.unwish (I : Inv (X.wish E) pins σ H s) : Inv X pins σ H s := ⟨I.ok.unwish, I.os, I.bare, I.base, I.loc, I.cell, I.free, I.freeC, I.pin, I.hok, I.len⟩
theorem SP.unwish {D : Ends} {f : Flow} {s' : Shared} (h : SP (X.wish E) pins D f s') : SP X pins D f s' := by
  cases f with
  | next => obtain ⟨σ', H', I, q⟩ := h; exact ⟨σ', H', I.unwish, q⟩
  | brk => obtain ⟨σ', H', I, q⟩ := h; exact ⟨σ', H', I.unwish, q⟩
  | cont => obtain ⟨σ', H', I, q⟩ := h; exact ⟨σ', H', I.unwish, q⟩
  | ret u => obtain ⟨v, σ', H', I, r, q⟩ := h; exact ⟨v, σ', H', I.unwish, r, q⟩
theorem PSs.nox {st : List Stmt} {t : TS} (h : PSs X.nox st t) : PSs X st t := fun pins s σ H D I hw =>
  wpAny_mono (h pins s σ H D (I.wish _) hw) (fun _ _ q => q.unwish) fun _ _ z => False.elim z
end
section
variable {X : Cx} {st : Stmt} {rest : List Stmt} {t u : TS} {e : Expr} {te : TE} {pos : Pos}
def tNext : TS := fun D σ H => D.nx σ H
def tSeq (t u : TS) : TS := fun D σ H => t { D with nx := u D } σ H
theorem pss_nil : PSs X [] tNext := fun _ _ σ H _ I h => wpAny_execs_nil ⟨σ, H, I, h⟩
theorem pss_cons (h1 : PS X st t) (h2 : PSs X rest u) : PSs X (st :: rest) (tSeq t u) := by
  intro pins s σ H D I h
  refine wpAny_execs_cons (thn (h1 pins s σ H { D with nx := u D } I h) fun f s1 q => ?_)
  cases f with
  | next =>
    obtain ⟨σ', H', I', q⟩ := q
    exact h2 pins s1 σ' H' D I' q
  | ret v => exact q
  | brk => exact q
  | cont => exact q
theorem pss_one (h1 : PS X st t) : PSs X [st] t := by
  intro pins s σ H D I h
  refine wpAny_execs_cons (thn (h1 pins s σ H D I h) fun f s1 q => ?_)
  cases f with
  | next => exact wpAny_execs_nil q
  | ret v => exact q
  | brk => exact q
  | cont => exact q
theorem Inv.quiet {pins : List (Addr × Obj)} {σ : St} {H : Hp} {s : Shared} (I : Inv X pins σ H s) : interactive X.env = false := by simp [interactive, I.ok.kind]
def tDrop (te : TE) : TS := fun D σ H => te σ H fun _ H1 => D.nx σ H1
theorem ps_expr (he : PE X e te) (hs : swapsWith e none pos.line X.env = pure false := by rfl) : PS X (.Expr e pos) (tDrop te) := by
  intro pins s σ H D I h
  exact wpAny_Expr_any (thn (he pins s σ H _ I h) fun v s1 ⟨x, H1, I1, r1, q1⟩ => ⟨σ, H1, I1, q1⟩) I.quiet hs
def tRet (te : TE) : TS := fun D σ H => te σ H D.rt
theorem ps_ret (he : PE X e te) : PS X (.Return (some e) pos) (tRet te) := by
  intro pins s σ H D I h
  exact wpAny_Return_some (thn (he pins s σ H _ I h) fun v s1 ⟨x, H1, I1, r1, q1⟩ => ⟨x, σ, H1, I1, r1, q1⟩)
def tIfS (c : TT) (t u : TS) : TS := fun D σ H => c σ H fun b H1 => if b = true then t D σ H1 else u D σ H1
theorem ps_if {c : Expr} {a b : List Stmt} {tc : TT} (hc : PT X c tc) (ha : PSs X a t) (hb : PSs X b u) : PS X (.If c a b pos) (tIfS tc t u) := by
  intro pins s σ H D I h
  refine wpAny_If (thn (hc pins s σ H _ I h) fun d s1 ⟨H1, I1, q1⟩ => ?_)
  cases d with
  | true => exact ha pins s1 σ H1 D I1 q1
  | false => exact hb pins s1 σ H1 D I1 q1
end
abbrev TG := V → St → Hp → (St → Hp → Prop) → Prop
abbrev TGs := List V → St → Hp → (St → Hp → Prop) → Prop
def PG (X : Cx) (target : Expr) (t : TG) : Prop :=
  ∀ (pins : List (Addr × Obj)) (s : Shared) (σ : St) (H : Hp) (v : V) (u : Value) (Q : St → Hp → Prop), Inv X pins σ H s → RelV v u → t v σ H Q →
    wpAny (model X.prog X.w) X.A (assign target X.env u) (fun _ s' => ∃ σ' H', Inv X pins σ' H' s' ∧ Q σ' H') X.xe s
def PGs (X : Cx) (ts : List Expr) (t : TGs) : Prop :=
  ∀ (pins : List (Addr × Obj)) (s : Shared) (σ : St) (H : Hp) (vs : List V) (us : List Value) (Q : St → Hp → Prop), Inv X pins σ H s → Vals vs us → t vs σ H Q →
    wpAny (model X.prog X.w) X.A (assignInOrder ((assignEach ts X.env).map (·.2)) us) (fun _ s' => ∃ σ' H', Inv X pins σ' H' s' ∧ Q σ' H') X.xe s
abbrev TSet := V → V → V → Hp → (Hp → Prop) → Prop
def PSet (X : Cx) (t : TSet) : Prop :=
  ∀ (pins : List (Addr × Obj)) (s : Shared) (σ : St) (H : Hp) (o i v : V) (ov iv u : Value) (Q : Hp → Prop), Inv X pins σ H s → RelV o ov → RelV i iv → RelV v u → t o i v H Q →
    wpAny (model X.prog X.w) X.A (setItem ov iv u) (fun _ s' => ∃ H', Inv X pins σ H' s' ∧ Q H') X.xe s
abbrev TIp := V → V → Hp → VK → Prop
def PIp (X : Cx) (op : Operator) (t : TIp) : Prop :=
  ∀ (pins : List (Addr × Obj)) (s : Shared) (σ : St) (H : Hp) (x y : V) (v u : Value) (Q : VK), Inv X pins σ H s → RelV x v → RelV y u → t x y H Q →
    wpAny (model X.prog X.w) X.A (inplaceOp op v u) (EP X pins σ Q) X.xe s
section
variable {X : Cx} {pos : Pos}
def gName (i : Nat) : TG := fun v σ H Q => Q (σ.set i (some v)) H
theorem pg_name {i : Nat} {x : Str} (hN : X.N.Nodup) (hi : X.N[i]? = some x) (hx : Loc X.env.scope x) (hf : X.fn x = true ∨ X.env.scope.names.lookup x = some .local := by first | exact .inl rfl | exact .inr rfl | assumption) : PG X (.Name x pos) (gName i) := by
  intro pins s σ H v u Q I r h
  exact wpAny_assign_Name (store_ok I hN hi hx r (fun s' I' => ⟨_, H, I', h⟩) hf)
def gNil : TGs := fun vs σ H Q => vs = [] ∧ Q σ H
def gCons (t : TG) (u : TGs) : TGs := fun vs σ H Q => ∃ v r, vs = v :: r ∧ t v σ H fun σ' H' => u r σ' H' Q
theorem pgs_nil : PGs X [] gNil := by
  intro pins s σ H vs us Q I r h
  obtain ⟨e, h⟩ := h
  subst e
  cases r
  exact assignInOrder_nil ⟨σ, H, I, h⟩
theorem pgs_cons {e : Expr} {es : List Expr} {t : TG} {u : TGs} (h1 : PG X e t) (h2 : PGs X es u)
    (hs : (assignEach (e :: es) X.env).map (·.2) = assign e X.env :: (assignEach es X.env).map (·.2) := by rfl) : PGs X (e :: es) (gCons t u) := by
  intro pins s σ H vs us Q I r h
  obtain ⟨v, vr, e1, h⟩ := h
  subst e1
  cases r with
  | cons r rr =>
    rw [hs]
    refine assignInOrder_cons (thn (h1 pins s σ H _ _ _ I r h) fun _ s1 ⟨σ1, H1, I1, q1⟩ => ?_)
    exact h2 pins s1 σ1 H1 _ _ Q I1 rr q1
def gTup (K : PySem.W.Frag) (n : Nat) (t : TGs) : TG := fun v σ H Q => ∃ a xs, v = .ref a ∧ SqT K H a xs ∧ xs.length = n ∧ t xs σ H Q
theorem pg_tup {es : List Expr} {k : Nat} {t : TGs} {n : Nat} (hc : X.calm = true) (h : PGs X es t)
    (hn : (assignEach es X.env).length = n := by rfl) (hst : (assignEach es X.env).findIdx? (·.1) = none := by rfl) : PG X (.Tuple es k pos) (gTup X.K n t) := by
  intro pins s σ H v u Q I r hw
  obtain ⟨a, xs, e1, hq, hl, hw⟩ := hw
  subst e1
  cases r
  obtain ⟨its, rv, ht, hz⟩ := I.tuple hq
  refine assign_Tuple_tuple (I.ok.hd hc) ht (by simp [hn, ← hl, rv.length]) hst fun h' hx => ?_
  have I1 : Inv X pins σ H { s with heap := h' } := I.kept (t' := s.toks) fun b o e => hx b o (Nat.ne_of_lt (Heap.lt_size e)) e
  exact h pins _ σ H xs _ Q I1 (by simpa using rv) hw
def gSub (to ti : TE) (t : TSet) : TG := fun v σ H Q => to σ H fun o H1 => ti σ H1 fun i H2 => t o i v H2 fun H3 => Q σ H3
theorem pg_sub {o i : Expr} {to ti : TE} {t : TSet} (ho : PE X o to) (hi : PE X i ti) (hs : PSet X t)
    (ha : ∀ v, assign (.Subscript o i pos) X.env v = (do
      let ov ← holding [v] (eval o X.env)
      let iv ← holding [v, ov] (eval i X.env)
      standAt pos
      holding [v, ov, iv] (setItem ov iv v)
      release [v, ov, iv] []) := by intro _; rfl) : PG X (.Subscript o i pos) (gSub to ti t) := by
  intro pins s σ H v u Q I r h
  rw [ha]
  refine wpAny_bind (wpAny_holding (thn (ho pins s σ H _ I h) fun ov s1 ⟨x, H1, I1, r1, q1⟩ => ?_))
  refine wpAny_bind (wpAny_holding (thn (hi pins s1 σ H1 _ I1 q1) fun iv s2 ⟨y, H2, I2, r2, q2⟩ => ?_))
  refine wpAny_bind (wpAny_standAt (wpAny_bind (wpAny_holding (thn (hs pins s2 σ H2 x y v ov iv u _ I2 r1 r2 r q2) fun _ s3 ⟨H3, I3, q3⟩ => ?_))))
  exact wpAny_release ⟨σ, H3, I3, q3⟩
def tAsg (te : TE) (g : TG) : TS := fun D σ H => te σ H fun x H1 => g x σ H1 D.nx
theorem ps_asg {tg e : Expr} {te : TE} {g : TG} (he : PE X e te) (hg : PG X tg g) (hs : swapsWithSole [tg] e pos.line X.env = pure false := by rfl) (hw : swappedStores [tg] e X.env = pure none := by rfl)
    (h1 : (assignEach [tg] X.env).map (·.2) = [assign tg X.env] := by rfl) : PS X (.Assign [tg] e pos) (tAsg te g) := by
  intro pins s σ H D I h
  refine wpAny_Assign_stores (thn (he pins s σ H _ I h) fun v s1 ⟨x, H1, I1, r1, q1⟩ => ?_) hs hw
  rw [h1]
  exact thn (hg pins s1 σ H1 x v _ I1 r1 q1) fun _ s2 q => q
theorem ps_set {i : Nat} {x : Str} {e : Expr} {te : TE} {pos' : Pos} (hN : X.N.Nodup) (hi : X.N[i]? = some x) (hx : Loc X.env.scope x) (he : PE X e te) (hs : swapsWith e (some (.Name x pos')) pos.line X.env = pure false := by rfl) (hf : X.fn x = true ∨ X.env.scope.names.lookup x = some .local := by first | exact .inl rfl | exact .inr rfl | assumption) :
    PS X (.Assign [.Name x pos'] e pos) (tAsg te (gName i)) := by
  intro pins s σ H D I h
  refine wpAny_Assign_Name (thn (he pins s σ H _ I h) fun v s1 ⟨y, H1, I1, r1, q1⟩ => ?_) hs
  exact store_ok I1 hN hi hx r1 (fun s2 I2 => ⟨_, H1, I2, q1⟩) hf
def tAug (i : Nat) (te : TE) (ti : TIp) : TS := fun D σ H => ∃ x, σ[i]? = some (some x) ∧ te σ H fun y H1 => ti x y H1 fun z H2 => D.nx (σ.set i (some z)) H2
theorem ps_aug {i : Nat} {x : Str} {e : Expr} {te : TE} {op : Operator} {ti : TIp} {pos' : Pos} (hN : X.N.Nodup) (hi : X.N[i]? = some x) (hx : Loc X.env.scope x) (he : PE X e te) (ho : PIp X op ti) (hf : X.fn x = true ∨ X.env.scope.names.lookup x = some .local := by first | exact .inl rfl | exact .inr rfl | assumption) :
    PS X (.AugAssign (.Name x pos') op e pos) (tAug i te ti) := by
  intro pins s σ H D I h
  obtain ⟨v, e1, h⟩ := h
  obtain ⟨m, hn, hl⟩ := I.loc
  have vis : Vis X.env.scope x := by rcases hx with k | k; exact .inl k; exact .inr (.inl k)
  obtain ⟨u, r, l⟩ := hl i x v hi e1 vis
  refine wpAny_AugAssign_Name ?_
  have go : wpAny (model X.prog X.w) X.A (eval e X.env) (fun w s₂ => wpAny (model X.prog X.w) X.A (inplaceOp op u w) (fun r s₃ => wpAny (model X.prog X.w) X.A (storeName X.env x r) (fun _ => SP X pins D .next) X.xe s₃) X.xe s₂) X.xe s := by
    refine thn (he pins s σ H _ I h) fun w s1 ⟨y, H1, I1, r1, q1⟩ => ?_
    refine thn (ho pins s1 σ H1 v y u w _ I1 r r1 q1) fun z s2 ⟨zv, H2, I2, r2, q2⟩ => ?_
    exact store_ok I2 hN hi hx r2 (fun s3 I3 => ⟨_, H2, I3, q2⟩) hf
  rcases l with ⟨hk, hm⟩ | ⟨hk, c, hc, hcell⟩
  · exact wpAny_loadName_local I.ok.kind hk hn hm go
  · rcases hk with hk | hk
    · exact wpAny_loadName_cell I.ok.kind hk hc hcell go
    · rcases hx with k | k
      · have : X.env.scope.names.lookup x = some .free := hk
        rw [k] at this; cases this
      · have : X.env.scope.names.lookup x = some .free := hk
        rw [k] at this; cases this
def ipI (f : Int → Int → Int) : TIp := fun x y H Q => ∃ i j, x = .int i ∧ y = .int j ∧ Q (.int (f i j)) H
theorem ip_add : PIp X .Add (ipI fun i j => i + j) := by
  intro pins s σ H x y v u Q I r1 r2 h
  obtain ⟨i, j, e1, e2, q⟩ := h
  subst e1; subst e2
  obtain ⟨t, rfl⟩ := r1
  obtain ⟨t', rfl⟩ := r2
  exact iadd_int ⟨.int _, H, I.tok _, ⟨_, rfl⟩, q⟩
end
section
variable {X : Cx} {pos : Pos}
def tWhile (c : TT) (tb : TS) : TS := fun D σ H => ∃ W : Nat → St → Hp → Prop, (∃ m, W m σ H) ∧ ∀ m σ H, W m σ H →
  c σ H fun b H1 => if b = true then ∃ N : St → Hp → Prop, (∀ σ' H', N σ' H' → ∃ m', m' < m ∧ W m' σ' H') ∧ tb { D with nx := N, ct := N, bk := D.nx } σ H1 else D.nx σ H1
theorem ps_while {c : Expr} {body : List Stmt} {tc : TT} {tb : TS} (hp : PassesOwn (model X.prog X.w) X.A X.env X.xe) (hc : PT X c tc) (hb : PSs X body tb) : PS X (.While c body [] pos) (tWhile tc tb) := by
  intro pins s σ H D I h
  obtain ⟨W, ⟨m0, w0⟩, turn⟩ := h
  refine wpAny_While (codeAny_whileLoop (fun n s' => ∃ σ' H', Inv X pins σ' H' s' ∧ W n σ' H') ?_ m0 ⟨σ, H, I, w0⟩)
  rintro n s1 ⟨σ1, H1, I1, w1⟩
  refine wpAny_passesOwn hp (thn (hc pins s1 σ1 H1 _ I1 (turn n σ1 H1 w1)) fun b s2 ⟨H2, I2, q2⟩ => ?_)
  cases b with
  | true =>
    obtain ⟨N, hN, q2⟩ := q2
    rw [if_pos rfl]
    refine wpAny_passesOwn hp (thn (hb pins s2 σ1 H2 _ I2 q2) fun f s3 q3 => ?_)
    cases f with
    | next =>
      obtain ⟨σ3, H3, I3, n3⟩ := q3
      obtain ⟨m', hm, w3⟩ := hN σ3 H3 n3
      exact ⟨m', hm, σ3, H3, I3, w3⟩
    | cont =>
      obtain ⟨σ3, H3, I3, n3⟩ := q3
      obtain ⟨m', hm, w3⟩ := hN σ3 H3 n3
      exact ⟨m', hm, σ3, H3, I3, w3⟩
    | brk => exact q3
    | ret v => exact q3
  | false =>
    rw [if_neg Bool.false_ne_true]
    exact wpAny_execs_nil ⟨σ1, H2, I2, q2⟩
end
structure It where
  go : Nat → Hp → Prop
  yld : Nat → Hp → V → Hp → Prop
  stop : Nat → Hp → Prop
def FpOk (X : Cx) (pins : List (Addr × Obj)) (H : Hp) (b : Addr) : Prop :=
  H b = none ∧ b ≠ X.env.locals ∧ b ∉ X.fs ∧ (b ∈ X.ex ∨ X.s_0.heap.objs.size ≤ b) ∧ (∀ x c, X.env.cells.lookup x = some c → c ≠ b) ∧ ∀ p ∈ X.pn ++ pins, p.1 ≠ b
theorem Inv.fpOk {X : Cx} {pins : List (Addr × Obj)} {σ : St} {H H' : Hp} {s : Shared} {b : Addr} (I : Inv X pins σ H s) (hb : s.heap.objs.size ≤ b) (hn : H' b = none) : FpOk X pins H' b := by
  refine ⟨hn, Nat.ne_of_gt (Nat.lt_of_lt_of_le I.lt hb), I.nofs hb, .inr (Nat.le_trans I.sz hb), fun x c e z => ?_, fun p hp z => ?_⟩
  · obtain ⟨v, q⟩ := I.cell x c e
    exact absurd (Nat.lt_of_lt_of_le q.lt (by rw [z]; exact hb)) (Nat.lt_irrefl _)
  · exact absurd (Nat.lt_of_lt_of_le (Heap.lt_size (I.pin p hp).1) (by rw [z]; exact hb)) (Nat.lt_irrefl _)
structure Turn (P : Program) (w : World) (K : PySem.W.Frag) (tg : Expr) (J : It) (fp : List Addr) (it : Addr) (tn : Nat → Heap → Prop) : Prop where
  mem : it ∈ fp
  obj : ∀ i h, tn i h → ∀ b ∈ fp, ∃ o, h.get? b = some o ∧ ∀ v, o.data ≠ .cell v
  keep : ∀ i h h', tn i h → (∀ b ∈ fp, ∀ o, h.get? b = some o → h'.get? b = some o) → tn i h'
  item : ∀ (X : Cx), X.prog = P → X.w = w → X.K = K → X.calm = true → ∀ (i : Nat) (pins : List (Addr × Obj)) (s : Shared) (σ : St) (H : Hp) (E : Value → Shared → Prop), Inv X pins σ H s → (∀ b ∈ fp, FpOk X pins H b) → tn i s.heap → J.go i H →
    wpAny (model P w) X.A (pyNext (.ref it)) (fun r s1 => ∃ u, r = some u ∧
      wpAny (model P w) X.A (letOwnedTupleGo tg (.ref it) u) (fun _ s2 => ∃ x H', Inv X pins σ H' s2 ∧ RelV x u ∧ J.yld i H x H' ∧ tn (i + 1) s2.heap ∧ ∀ b ∈ fp, H' b = none) E s1) E s
  done : ∀ (X : Cx), X.prog = P → X.w = w → X.K = K → X.calm = true → ∀ (i : Nat) (pins : List (Addr × Obj)) (s : Shared) (σ : St) (H : Hp) (E : Value → Shared → Prop), Inv X pins σ H s → (∀ b ∈ fp, FpOk X pins H b) → tn i s.heap → J.stop i H →
    wpAny (model P w) X.A (pyNext (.ref it)) (fun r s1 => r = none ∧ Inv X pins σ H s1) E s
  self : ∀ (A : Around) (i : Nat) (s : Shared) (Q : Value → Shared → Prop) (E : Value → Shared → Prop), tn i s.heap → Q (.ref it) s → wpAny (model P w) A (pyIter (.ref it)) Q E s
abbrev TI := St → Hp → (It → Hp → Prop) → Prop
def PIE (X : Cx) (pins : List (Addr × Obj)) (σ : St) (tg : Expr) (R : It → Hp → Prop) (itv : Value) (s2 : Shared) : Prop :=
  ∃ (it : Addr) (fp : List Addr) (tn : Nat → Heap → Prop) (J : It) (H' : Hp), itv = .ref it ∧ Inv X pins σ H' s2 ∧ Turn X.prog X.w X.K tg J fp it tn ∧ tn 0 s2.heap ∧ (∀ b ∈ fp, FpOk X pins H' b) ∧ R J H'
def PI (X : Cx) (tg iter : Expr) (wi : TI) : Prop :=
  ∀ (pins : List (Addr × Obj)) (s : Shared) (σ : St) (H : Hp) (R : It → Hp → Prop), Inv X pins σ H s → wi σ H R →
    wpAny (model X.prog X.w) X.A (eval iter X.env) (fun v s1 => wpAny (model X.prog X.w) X.A (pyIter v) (PIE X pins σ tg R) X.xe s1) X.xe s
theorem go_of {M : Model} {A : Around} {E : Value → Shared → Prop} {s : Shared} {tg : Expr} {it : Addr} {u : Value} {o : Obj} {n : String} {vs : Array Value} {Q : Unit → Shared → Prop} (ho : s.heap.get? it = some o) (hc : o.cls = .type n) (hd : o.data = .fields vs)
    (hn : ["enumerate", "zip", "dict_itemiterator", "dict_reverseitemiterator", "odict_iterator", "itertools.zip_longest", "itertools.pairwise"].contains n = false) (hQ : Q () s) : wpAny M A (letOwnedTupleGo tg (.ref it) u) Q E s := by
  unfold letOwnedTupleGo
  cases tg <;> first
    | exact wpAny_pure hQ
    | (cases u <;> first
        | exact wpAny_pure hQ
        | (refine wpAny_bind (wpAny_load ho ?_)
           rw [hc, hd]
           show wpAny M A (if (["enumerate", "zip", "dict_itemiterator", "dict_reverseitemiterator", "odict_iterator", "itertools.zip_longest", "itertools.pairwise"].contains n && vs[0]? == some (rawInt _)) = true then _ else _) Q E s
           rw [if_neg (by intro h; rw [hn, Bool.false_and] at h; cases h)]
           exact wpAny_pure hQ))
def Itl (K : PySem.W.Frag) (a : Addr) : It :=
  ⟨fun i H => ∃ xs x, SqL K H a xs ∧ xs[i]? = some x, fun i H x H' => H' = H ∧ ∀ xs, SqL K H a xs → xs[i]? = some x, fun i H => ∃ xs, SqL K H a xs ∧ xs.length ≤ i⟩
def Itr (lo : Int) (n : Nat) : It := ⟨fun i _ => i < n, fun i H x H' => H' = H ∧ x = .int (lo + i), fun i _ => n ≤ i⟩
theorem turn_list {P : Program} {w : World} {K : PySem.W.Frag} {tg : Expr} (a it : Addr) : Turn P w K tg (Itl K a) [it] it (fun i h => h.IsListIter it a i) where
  mem := by simp
  obj := fun i h st b hb => by
    have e : b = it := by simpa using hb
    subst e
    obtain ⟨o, e, c, d⟩ := st
    exact ⟨o, e, fun v z => by rw [d] at z; cases z⟩
  keep := fun i h h' st k => st.at fun o e => k it (by simp) o e
  item := by
    intro X hP hw hK hc i pins s σ H E I hf st hg
    subst hP hw hK
    obtain ⟨xs, x, hq, hx⟩ := hg
    obtain ⟨its, rv, p, hz⟩ := I.list hq
    obtain ⟨u, hu, ru⟩ := rv.get hx
    obtain ⟨f0, f1, f2, f3, f4, f5⟩ := hf it (by simp)
    refine wpAny_pyNext_list_item st p.isList (x := u) (by simpa using hu) fun h' st' sb => ?_
    have I1 : Inv X pins σ H { s with heap := h' } := I.turned (t' := s.toks) (fun b o hb e => (sb.2 b hb).trans e) f0 f1 f3 f4 f5
    obtain ⟨o, e, c, d⟩ := id st'
    exact ⟨u, rfl, go_of (s := { s with heap := h' }) e c d (by decide) ⟨x, H, I1, ru, ⟨rfl, fun ys hy => by rw [I.list_inj hy hq]; exact hx⟩, st', fun b hb => (hf b hb).1⟩⟩
  done := by
    intro X hP hw hK hc i pins s σ H E I hf st hg
    subst hP hw hK
    obtain ⟨xs, hq, hx⟩ := hg
    obtain ⟨its, rv, p, hz⟩ := I.list hq
    obtain ⟨f0, f1, f2, f3, f4, f5⟩ := hf it (by simp)
    have hl := rv.length
    exact wpAny_pyNext_list_end (I.ok.hd hc) st p.isList (by simp; omega) fun h' eb => ⟨rfl, I.turned (t' := s.toks) (fun b o hb e => eb b o hb e) f0 f1 f3 f4 f5⟩
  self := fun _ _ _ _ _ st h => wpAny_pyIter_listiter st h
theorem turn_range {P : Program} {w : World} {K : PySem.W.Frag} {tg : Expr} (it : Addr) (lo : Int) (n : Nat) : Turn P w K tg (Itr lo n) [it] it (fun i h => IsRangeIter h it (lo + (i : Nat) * 1) ((n : Int) - (i : Nat)) 1) where
  mem := by simp
  obj := fun i h st b hb => by
    have e : b = it := by simpa using hb
    subst e
    exact ⟨_, st, fun v z => by
      have z' : Data.fields _ = Data.cell v := z
      cases z'⟩
  keep := fun i h h' st k => k it (by simp) _ st
  item := by
    intro X hP hw hK hc i pins s σ H E I hf st hg
    subst hP hw hK
    obtain ⟨f0, f1, f2, f3, f4, f5⟩ := hf it (by simp)
    have W := Walks.range (prog := X.prog) (w := X.w) (I.ok.hd hc) it lo 1 n
    refine W.item i s _ _ hg st fun v h' tk hv st' kk => ?_
    obtain ⟨t, rfl⟩ := hv
    have I1 : Inv X pins σ H { s with heap := h', toks := tk } := I.turned (fun b o hb e => kk b o (by simpa using hb) e) f0 f1 f3 f4 f5
    refine ⟨_, rfl, go_of (s := { s with heap := h', toks := tk }) (n := "range_iterator") st' rfl rfl (by decide) ⟨.int (lo + i), H, I1, ⟨t, ?_⟩, ⟨rfl, rfl⟩, st', fun b hb => (hf b hb).1⟩⟩
    rw [Int.mul_one]
  done := by
    intro X hP hw hK hc i pins s σ H E I hf st hg
    subst hP hw hK
    obtain ⟨f0, f1, f2, f3, f4, f5⟩ := hf it (by simp)
    exact wpAny_pyNext_range_end (I.ok.hd hc) st (by have : n ≤ i := hg; omega) fun h' eb => ⟨rfl, I.turned (t' := s.toks) (fun b o hb e => eb b o hb e) f0 f1 f3 f4 f5⟩
  self := fun _ _ _ _ _ st h => wpAny_pyIter_rangeiter st h
end L2
namespace L2
open PySem PySem.Spec PyProof.Rows
section
variable {X : Cx} {tg : Expr}
def iList (K : PySem.W.Frag) (tl : TE) : TI := fun σ H R => tl σ H fun x H1 => ∃ a, x = .ref a ∧ (∃ xs, SqL K H1 a xs) ∧ R (Itl K a) H1
theorem pi_list {l : Expr} {tl : TE} (hl : PE X l tl) : PI X tg l (iList X.K tl) := by
  intro pins s σ H R I h
  refine thn (hl pins s σ H _ I h) fun v s1 ⟨x, H1, I1, r1, q1⟩ => ?_
  obtain ⟨a, e, ⟨xs, hq⟩, q⟩ := q1
  subst e
  cases r1
  obtain ⟨its, rv, p, hz⟩ := I1.list hq
  refine wpAny_pyIter_list p.isList ?_
  refine ⟨s1.heap.objs.size, [s1.heap.objs.size], _, _, H1, rfl, I1.kept (t' := s1.toks) fun b o e => Heap.get?_push_of_some _ e, turn_list a _, ⟨_, Heap.get?_push_size _ rfl, rfl, rfl⟩, fun b hb => ?_, q⟩
  have e : b = s1.heap.objs.size := by simpa using hb
  subst e
  exact I1.fpOk (Nat.le_refl _) (I1.hok.fresh (Nat.le_refl _))
theorem range_it {pins : List (Addr × Obj)} {σ : St} {H : Hp} {s : Shared} {R : It → Hp → Prop} {E : Value → Shared → Prop} {lo hi : Int} {t u v : Tok} {tk : Nat} (I : Inv X pins σ H s) (h1 : -(2 ^ 62) ≤ lo) (h2 : lo < 2 ^ 62) (h3 : -(2 ^ 62) ≤ hi) (h4 : hi < 2 ^ 62)
    (q : R (Itr lo (hi - lo).toNat) H) : wpAny (model X.prog X.w) X.A (pyIter (.ref s.heap.objs.size)) (PIE X pins σ tg R) E { s with heap := s.heap.push { cls := .type "range", data := .fields #[.int lo t, .int hi u, .int 1 v] }, toks := tk } := by
  refine wpAny_pyIter_range (IsRange.new ..) (small_one h1 h2 h3 h4) ?_
  have I1 : Inv X pins σ H { s with heap := s.heap.push { cls := .type "range", data := .fields #[.int lo t, .int hi u, .int 1 v] }, toks := tk } := I.kept fun b o e => Heap.get?_push_of_some _ e
  refine ⟨(s.heap.push { cls := .type "range", data := .fields #[.int lo t, .int hi u, .int 1 v] }).objs.size, [(s.heap.push { cls := .type "range", data := .fields #[.int lo t, .int hi u, .int 1 v] }).objs.size], _, _, H, rfl,
    I1.kept (t' := tk) fun b o e => Heap.get?_push_of_some _ e, turn_range _ lo (hi - lo).toNat, ?_, fun b hb => ?_, q⟩
  · have e1 : lo + ((0 : Nat) : Int) * 1 = lo := by simp
    have e2 : (((hi - lo).toNat : Nat) : Int) - ((0 : Nat) : Int) = Builtin.Range.rangeSize lo hi 1 := by rw [rangeSize_one]; split <;> omega
    show IsRangeIter _ _ (lo + ((0 : Nat) : Int) * 1) ((((hi - lo).toNat : Nat) : Int) - ((0 : Nat) : Int)) 1
    rw [e1, e2]
    exact Heap.get?_push_size _ rfl
  · have e : b = (s.heap.push { cls := .type "range", data := .fields #[.int lo t, .int hi u, .int 1 v] }).objs.size := by simpa using hb
    subst e
    exact I1.fpOk (Nat.le_refl _) (I1.hok.fresh (Nat.le_refl _))
def iRng1 (ta : TA) : TI := fun σ H R => ta σ H fun vs H1 => ∃ j : Int, vs = [.int j] ∧ -(2 ^ 62) ≤ j ∧ j < 2 ^ 62 ∧ R (Itr 0 j.toNat) H1
def iRng2 (ta : TA) : TI := fun σ H R => ta σ H fun vs H1 => ∃ i j : Int, vs = [.int i, .int j] ∧ (-(2 ^ 62) ≤ i ∧ i < 2 ^ 62 ∧ -(2 ^ 62) ≤ j ∧ j < 2 ^ 62) ∧ R (Itr i (j - i).toNat) H1
theorem pi_range1 {a : Expr} {ta : TA} {p pos : Pos} (hg : Gl X "range") (hm : X.mg "range" = none) (ha : PA X [a] ta) (hs : starEach [a] X.env = [(false, eval a X.env)] := by rfl) : PI X tg (.Call (.Name "range" p) [a] [] pos) (iRng1 ta) := by
  intro pins s σ H R I h
  refine Call_ (ld_blt I hg hm boot_range (PyProof.Rows.callWith_type1 (thn (ha pos pins s σ H _ I h) fun us s1 ⟨vs, H1, I1, r1, q1⟩ => ?_) hs rfl))
  obtain ⟨j, e, q1, q2, q⟩ := q1
  subst e
  cases r1 with
  | cons r rr =>
    cases rr
    obtain ⟨t, rfl⟩ := r
    exact call_range_1 (range_it I1 (by omega) (by omega) q1 q2 (by simpa using q))
theorem pi_range2 {a b : Expr} {ta : TA} {p pos : Pos} (hg : Gl X "range") (hm : X.mg "range" = none) (ha : PA X [a, b] ta) (hs : starEach [a, b] X.env = [(false, eval a X.env), (false, eval b X.env)] := by rfl) (hs2 : starEach [b] X.env = [(false, eval b X.env)] := by rfl) :
    PI X tg (.Call (.Name "range" p) [a, b] [] pos) (iRng2 ta) := by
  intro pins s σ H R I h
  refine Call_ (ld_blt I hg hm boot_range (PyProof.Rows.callWith_type1 (thn (ha pos pins s σ H _ I h) fun us s1 ⟨vs, H1, I1, r1, q1⟩ => ?_) (by rw [hs, hs2]) (by rw [hs2]; rfl)))
  obtain ⟨i, j, e, ⟨q1, q2, q3, q4⟩, q⟩ := q1
  subst e
  cases r1 with
  | cons r rr =>
    cases rr with
    | cons r' rr =>
      cases rr
      obtain ⟨t, rfl⟩ := r
      obtain ⟨t', rfl⟩ := r'
      exact call_range_2 (range_it I1 q1 q2 q3 q4 q)
def tFor (wi : TI) (g : TG) (tb : TS) : TS := fun D σ H => wi σ H fun J H1 => ∃ W : Nat → Nat → St → Hp → Prop, (∃ m, W 0 m σ H1) ∧ ∀ i m σ H, W i m σ H →
  (J.stop i H ∧ D.nx σ H) ∨ (J.go i H ∧ ∃ N : St → Hp → Prop, (∀ σ' H', N σ' H' → ∃ m', m' < m ∧ W (i + 1) m' σ' H') ∧ ∀ x H', J.yld i H x H' → g x σ H' fun σ2 H2 => tb { D with nx := N, ct := N, bk := D.nx } σ2 H2)
def pinsAt (fp : List Addr) (h : Heap) : List (Addr × Obj) := fp.filterMap fun b => (h.get? b).map fun o => (b, o)
theorem mem_pinsAt {fp : List Addr} {h : Heap} {b : Addr} {o : Obj} (hb : b ∈ fp) (e : h.get? b = some o) : (b, o) ∈ pinsAt fp h := List.mem_filterMap.mpr ⟨b, hb, by rw [e]; rfl⟩
theorem of_pinsAt {fp : List Addr} {h : Heap} {p : Addr × Obj} (hp : p ∈ pinsAt fp h) : p.1 ∈ fp ∧ h.get? p.1 = some p.2 := by
  obtain ⟨b, hb, e⟩ := List.mem_filterMap.mp hp
  cases q : h.get? b with
  | none => rw [q] at e; cases e
  | some o =>
    rw [q] at e
    have e' : (b, o) = p := Option.some.inj e
    subst e'
    exact ⟨hb, q⟩
theorem Inv.pinned {pins : List (Addr × Obj)} {σ : St} {H : Hp} {s : Shared} {fp : List Addr} (I : Inv X pins σ H s) (hf : ∀ b ∈ fp, FpOk X pins H b) (ho : ∀ b ∈ fp, ∃ o, s.heap.get? b = some o ∧ ∀ v, o.data ≠ .cell v) : Inv X (pins ++ pinsAt fp s.heap) σ H s :=
  I.pins_of fun p hp => (List.mem_append.mp hp).elim (fun z => I.pin p (List.mem_append_right _ z)) fun z => by
    obtain ⟨hb, e⟩ := of_pinsAt z
    obtain ⟨f0, f1, f2, _⟩ := hf p.1 hb
    obtain ⟨o, e', d⟩ := ho p.1 hb
    rw [e] at e'; cases e'
    exact ⟨e, f0, f1, f2, d⟩
theorem Inv.unpinned {pins pl : List (Addr × Obj)} {σ : St} {H : Hp} {s : Shared} (I : Inv X (pins ++ pl) σ H s) : Inv X pins σ H s := I.pins_of fun p hp => I.pin p (List.mem_append_right _ (List.mem_append_left _ hp))
theorem ps_for {iter : Expr} {body : List Stmt} {wi : TI} {g : TG} {tb : TS} {pos : Pos} (hp : PassesOwn (model X.prog X.w) X.A X.env X.xe) (hc : X.calm = true) (hi : PI X tg iter wi) (hg : PG X tg g) (hb : PSs X body tb)
    (hs : ∀ x, foldedSetIterable iter X.env x = pure x := by intro _; rfl) : PS X (.For tg iter body [] pos) (tFor wi g tb) := by
  intro pins s σ H D I h
  refine wpAny_For (thn (hi pins s σ H _ I h) fun v s1 h1 => thn h1 fun itv s2 h2 => ?_) hs
  obtain ⟨it, fp, tn, J, H2, e, I2, T, st2, f2, W, ⟨m0, w0⟩, turn⟩ := h2
  subst e
  have stat : ∀ {H' : Hp}, (∀ b ∈ fp, H' b = none) → ∀ b ∈ fp, FpOk X pins H' b := fun hn b hb => ⟨hn b hb, (f2 b hb).2⟩
  refine codeAny_forLoop_any (fun n s' => ∃ i σ' H', Inv X pins σ' H' s' ∧ tn i s'.heap ∧ (∀ b ∈ fp, H' b = none) ∧ W i n σ' H') ?_ m0 ⟨0, σ, H2, I2, st2, fun b hb => (f2 b hb).1, w0⟩
  rintro n s3 ⟨i, σ3, H3, I3, st3, fr3, w3⟩
  rcases turn i n σ3 H3 w3 with ⟨stop, qn⟩ | ⟨go, N, hN, step⟩
  · refine wpAny_passesOwn hp (thn (T.done X rfl rfl rfl hc i pins s3 σ3 H3 X.xe I3 (stat fr3) st3 stop) fun r s4 ⟨hr, I4⟩ => ?_)
    subst hr
    exact wpAny_execs_nil ⟨σ3, H3, I4, qn⟩
  · refine wpAny_passesOwn hp (thn (T.item X rfl rfl rfl hc i pins s3 σ3 H3 X.xe I3 (stat fr3) st3 go) fun r s4 ⟨u, hr, h4⟩ => ?_)
    subst hr
    refine wpAny_passesOwn hp (thn h4 fun _ s5 ⟨x, H5, I5, r5, y5, st5, fr5⟩ => ?_)
    have I5' := I5.pinned (stat fr5) (T.obj _ _ st5)
    refine wpAny_passesOwn hp (thn (hg _ s5 σ3 H5 x u _ I5' r5 (step x H5 y5)) fun _ s6 ⟨σ6, H6, I6, q6⟩ => ?_)
    refine wpAny_passesOwn hp (thn (hb _ s6 σ6 H6 _ I6 q6) fun f s7 q7 => ?_)
    have again : ∀ {σ7 : St} {H7 : Hp}, Inv X (pins ++ pinsAt fp s5.heap) σ7 H7 s7 → N σ7 H7 → ∃ m, m < n ∧ ∃ i σ' H', Inv X pins σ' H' s7 ∧ tn i s7.heap ∧ (∀ b ∈ fp, H' b = none) ∧ W i m σ' H' := fun {σ7 H7} I7 n7 => by
      obtain ⟨m', hm, w7⟩ := hN σ7 H7 n7
      refine ⟨m', hm, i + 1, σ7, H7, I7.unpinned, T.keep _ _ _ st5 fun b hb o e => (I7.pin (b, o) (List.mem_append_right _ (List.mem_append_right _ (mem_pinsAt hb e)))).1, fun b hb => ?_, w7⟩
      obtain ⟨o, e, d⟩ := T.obj _ _ st5 b hb
      exact (I7.pin (b, o) (List.mem_append_right _ (List.mem_append_right _ (mem_pinsAt hb e)))).2.1
    cases f with
    | next => obtain ⟨σ7, H7, I7, n7⟩ := q7; exact again I7 n7
    | cont => obtain ⟨σ7, H7, I7, n7⟩ := q7; exact again I7 n7
    | brk => obtain ⟨σ7, H7, I7, q7⟩ := q7; exact ⟨σ7, H7, I7.unpinned, q7⟩
    | ret v => obtain ⟨x7, σ7, H7, I7, r7, q7⟩ := q7; exact ⟨x7, σ7, H7, I7.unpinned, r7, q7⟩
end
theorem for_list {K : PySem.W.Frag} {a : Addr} {xs : List V} {g : TG} {tb : TS} {D : Ends} {σ : St} {H : Hp} (Pv : Nat → St → Hp → Prop) (h0 : Pv 0 σ H) (hl : ∀ i σ H, i ≤ xs.length → Pv i σ H → SqL K H a xs)
    (hs : ∀ i x σ H, xs[i]? = some x → Pv i σ H → g x σ H fun σ2 H2 => tb { D with nx := Pv (i + 1), ct := Pv (i + 1), bk := D.nx } σ2 H2) (hd : ∀ σ H, Pv xs.length σ H → D.nx σ H) :
    ∃ W : Nat → Nat → St → Hp → Prop, (∃ m, W 0 m σ H) ∧ ∀ i m σ H, W i m σ H →
      ((Itl K a).stop i H ∧ D.nx σ H) ∨ ((Itl K a).go i H ∧ ∃ N : St → Hp → Prop, (∀ σ' H', N σ' H' → ∃ m', m' < m ∧ W (i + 1) m' σ' H') ∧ ∀ x H', (Itl K a).yld i H x H' → g x σ H' fun σ2 H2 => tb { D with nx := N, ct := N, bk := D.nx } σ2 H2) := by
  refine ⟨fun i m σ H => m = xs.length - i ∧ i ≤ xs.length ∧ Pv i σ H, ⟨xs.length, by simp, Nat.zero_le _, h0⟩, ?_⟩
  rintro i m σ H ⟨rfl, hi, p⟩
  have q := hl i σ H hi p
  by_cases hlt : i < xs.length
  · refine .inr ⟨⟨xs, xs[i], q, by simp [hlt]⟩, Pv (i + 1), fun σ' H' p' => ⟨xs.length - (i + 1), by omega, rfl, hlt, p'⟩, fun x H' y => ?_⟩
    obtain ⟨e, y⟩ := y
    subst e
    exact hs i x σ _ (y xs q) p
  · have e : i = xs.length := by omega
    subst e
    exact .inl ⟨⟨xs, q, Nat.le_refl _⟩, hd σ H p⟩
theorem for_range {lo : Int} {n : Nat} {g : TG} {tb : TS} {D : Ends} {σ : St} {H : Hp} (Pv : Nat → St → Hp → Prop) (h0 : Pv 0 σ H)
    (hs : ∀ i σ H, i < n → Pv i σ H → g (.int (lo + i)) σ H fun σ2 H2 => tb { D with nx := Pv (i + 1), ct := Pv (i + 1), bk := D.nx } σ2 H2) (hd : ∀ σ H, Pv n σ H → D.nx σ H) :
    ∃ W : Nat → Nat → St → Hp → Prop, (∃ m, W 0 m σ H) ∧ ∀ i m σ H, W i m σ H →
      ((Itr lo n).stop i H ∧ D.nx σ H) ∨ ((Itr lo n).go i H ∧ ∃ N : St → Hp → Prop, (∀ σ' H', N σ' H' → ∃ m', m' < m ∧ W (i + 1) m' σ' H') ∧ ∀ x H', (Itr lo n).yld i H x H' → g x σ H' fun σ2 H2 => tb { D with nx := N, ct := N, bk := D.nx } σ2 H2) := by
  refine ⟨fun i m σ H => m = n - i ∧ i ≤ n ∧ Pv i σ H, ⟨n, by simp, Nat.zero_le _, h0⟩, ?_⟩
  rintro i m σ H ⟨rfl, hi, p⟩
  by_cases hlt : i < n
  · refine .inr ⟨hlt, Pv (i + 1), fun σ' H' p' => ⟨n - (i + 1), by omega, rfl, hlt, p'⟩, fun x H' y => ?_⟩
    obtain ⟨e, y⟩ := y
    subst e y
    exact hs i σ _ hlt p
  · have e : i = n := by omega
    subst e
    exact .inl ⟨Nat.le_refl _, hd σ H p⟩
theorem while_by {c : TT} {tb : TS} {D : Ends} {σ : St} {H : Hp} (Pv : St → Hp → Prop) (μ : St → Hp → Nat) (h0 : Pv σ H)
    (hs : ∀ σ H, Pv σ H → c σ H fun b H1 => if b = true then tb { D with nx := fun σ' H' => Pv σ' H' ∧ μ σ' H' < μ σ H, ct := fun σ' H' => Pv σ' H' ∧ μ σ' H' < μ σ H, bk := D.nx } σ H1 else D.nx σ H1)
    (mono : ∀ σ H Q Q', (∀ b H1, Q b H1 → Q' b H1) → c σ H Q → c σ H Q') : tWhile c tb D σ H := by
  refine ⟨fun m σ H => m = μ σ H ∧ Pv σ H, ⟨_, rfl, h0⟩, ?_⟩
  rintro m σ H ⟨rfl, p⟩
  refine mono σ H _ _ (fun b H1 q => ?_) (hs σ H p)
  cases b with
  | true => exact ⟨_, fun σ' H' ⟨p', l⟩ => ⟨_, l, rfl, p'⟩, q⟩
  | false => exact q
end L2
namespace L2
open PySem PySem.Spec PyProof.Rows
abbrev R2 := V → V → Hp → VK → Prop
def OpR (X : Cx) (f : Value → Value → Sem Value) (r : R2) : Prop :=
  ∀ (pins : List (Addr × Obj)) (s : Shared) (σ : St) (H : Hp) (x y : V) (v u : Value) (Q : VK), Inv X pins σ H s → RelV x v → RelV y u → r x y H Q →
    wpAny (model X.prog X.w) X.A (f v u) (EP X pins σ Q) X.xe s
def UnR (X : Cx) (f : Value → Sem Value) (r : V → Hp → VK → Prop) : Prop :=
  ∀ (pins : List (Addr × Obj)) (s : Shared) (σ : St) (H : Hp) (x : V) (v : Value) (Q : VK), Inv X pins σ H s → RelV x v → r x H Q →
    wpAny (model X.prog X.w) X.A (f v) (EP X pins σ Q) X.xe s
def CallR (X : Cx) (f : Value) (r : List V → Hp → VK → Prop) : Prop :=
  ∀ (pins : List (Addr × Obj)) (s : Shared) (σ : St) (H : Hp) (xs : List V) (us : List Value) (Q : VK), Inv X pins σ H s → Vals xs us → r xs H Q →
    wpAny (model X.prog X.w) X.A (call f us) (EP X pins σ Q) X.xe s
def tOp (r : R2) (ta tb : TE) : TE := fun σ H Q => ta σ H fun x H1 => tb σ H1 fun y H2 => r x y H2 Q
def tUn (r : V → Hp → VK → Prop) (ta : TE) : TE := fun σ H Q => ta σ H fun x H1 => r x H1 Q
def rI (C : Int → Int → Prop) (g : Int → Int → V) : R2 := fun x y H Q => ∃ i j, x = .int i ∧ y = .int j ∧ C i j ∧ Q (g i j) H
def rI0 (g : Int → Int → V) : R2 := fun x y H Q => ∃ i j, x = .int i ∧ y = .int j ∧ Q (g i j) H
def rU (g : Int → V) : V → Hp → VK → Prop := fun x H Q => ∃ i, x = .int i ∧ Q (g i) H
section
variable {X : Cx} {a b c : Expr} {ta tb tc : TE} {pos : Pos}
theorem binT (ha : PE X a ta) (hb : PE X b tb) {pins : List (Addr × Obj)} {s : Shared} {σ : St} {H : Hp} {R : V → V → Hp → Prop} (I : Inv X pins σ H s)
    (h : ta σ H fun x H1 => tb σ H1 fun y H2 => R x y H2) {Q : Value → Shared → Prop} {f : Value → Value → Sem Value}
    (hf : ∀ v u s2 x y H2, Inv X pins σ H2 s2 → RelV x v → RelV y u → R x y H2 → wpAny (model X.prog X.w) X.A (f v u) Q X.xe s2) :
    wpAny (model X.prog X.w) X.A (eval a X.env) (fun v s₁ => wpAny (model X.prog X.w) X.A (eval b X.env) (fun u s₂ => wpAny (model X.prog X.w) X.A (f v u) Q X.xe s₂) X.xe s₁) X.xe s := by
  refine thn (ha pins s σ H _ I h) fun v s1 ⟨x, H1, I1, r1, q1⟩ => ?_
  refine thn (hb pins s1 σ H1 _ I1 q1) fun u s2 ⟨y, H2, I2, r2, q2⟩ => ?_
  exact hf v u s2 x y H2 I2 r1 r2 q2
theorem pe_op {op : Operator} {r : R2} (ho : OpR X (binaryOp op) r) (ha : PE X a ta) (hb : PE X b tb) : PE X (.BinOp a op b pos) (tOp r ta tb) := by
  intro pins s σ H Q I h
  exact wpAny_BinOp (binT ha hb I h fun v u s2 x y H2 I2 rx ry q => ho pins s2 σ H2 x y v u Q I2 rx ry q)
theorem pe_un {op : UnaryOp} {r : V → Hp → VK → Prop} (ho : UnR X (unaryOp op) r) (ha : PE X a ta) : PE X (.UnaryOp op a pos) (tUn r ta) := by
  intro pins s σ H Q I h
  exact UnaryOp_ (thn (ha pins s σ H _ I h) fun v s1 ⟨x, H1, I1, r1, q1⟩ => ho pins s1 σ H1 x v Q I1 r1 q1)
theorem opI {f : Value → Value → Sem Value} {C : Int → Int → Prop} {g : Int → Int → Int}
    (rule : ∀ (i j : Int) (t u : Tok) (s : Shared) (Q : Value → Shared → Prop) (E : Value → Shared → Prop), C i j → Q (.int (g i j) s.toks) { s with toks := s.toks + 1 } → wpAny (model X.prog X.w) X.A (f (.int i t) (.int j u)) Q E s) :
    OpR X f (rI C fun i j => .int (g i j)) := by
  intro pins s σ H x y v u Q I rx ry h
  obtain ⟨i, j, rfl, rfl, hc, q⟩ := h
  obtain ⟨t, rfl⟩ := rx
  obtain ⟨t', rfl⟩ := ry
  exact rule i j t t' s _ _ hc ⟨.int (g i j), H, I.tok _, ⟨_, rfl⟩, q⟩
theorem opI0 {f : Value → Value → Sem Value} {g : Int → Int → Int}
    (rule : ∀ (i j : Int) (t u : Tok) (s : Shared) (Q : Value → Shared → Prop) (E : Value → Shared → Prop), Q (.int (g i j) s.toks) { s with toks := s.toks + 1 } → wpAny (model X.prog X.w) X.A (f (.int i t) (.int j u)) Q E s) :
    OpR X f (rI0 fun i j => .int (g i j)) := by
  intro pins s σ H x y v u Q I rx ry h
  obtain ⟨i, j, rfl, rfl, q⟩ := h
  obtain ⟨t, rfl⟩ := rx
  obtain ⟨t', rfl⟩ := ry
  exact rule i j t t' s _ _ ⟨.int (g i j), H, I.tok _, ⟨_, rfl⟩, q⟩
theorem opB0 {f : Value → Value → Sem Value} {g : Int → Int → Bool}
    (rule : ∀ (i j : Int) (t u : Tok) (s : Shared) (Q : Value → Shared → Prop) (E : Value → Shared → Prop), Q (.bool (g i j)) s → wpAny (model X.prog X.w) X.A (f (.int i t) (.int j u)) Q E s) :
    OpR X f (rI0 fun i j => .bl (g i j)) := by
  intro pins s σ H x y v u Q I rx ry h
  obtain ⟨i, j, rfl, rfl, q⟩ := h
  obtain ⟨t, rfl⟩ := rx
  obtain ⟨t', rfl⟩ := ry
  exact rule i j t t' s _ _ ⟨.bl (g i j), H, I, rfl, q⟩
def CDiv (i j : Int) : Prop := 0 < j ∧ j < 1073741824
def CMul (i j : Int) : Prop := (-(2 ^ 64) < i ∧ i < 2 ^ 64) ∨ (-(2 ^ 64) < j ∧ j < 2 ^ 64)
theorem CMul.ok {i j : Int} (h : CMul i j) : IntMulOk i j := by
  rcases h with ⟨h1, h2⟩ | ⟨h1, h2⟩
  · exact .of_left (intBits_le_64 h1 h2)
  · exact .of_right (intBits_le_64 h1 h2)
theorem two_pow_nn (k : Nat) : (0 : Int) ≤ 2 ^ k := by
  rw [two_pow_cast]
  exact Int.natCast_nonneg _
theorem op_add : OpR X (binaryOp .Add) (rI0 fun i j => .int (i + j)) := opI0 fun _ _ _ _ _ _ _ q => add_int q
theorem op_sub : OpR X (binaryOp .Sub) (rI0 fun i j => .int (i - j)) := opI0 fun _ _ _ _ _ _ _ q => sub_int q
theorem op_mul : OpR X (binaryOp .Mult) (rI CMul fun i j => .int (i * j)) := opI fun _ _ _ _ _ _ _ hc q => mul_int q hc.ok
theorem op_fdiv : OpR X (binaryOp .FloorDiv) (rI CDiv fun i j => .int (i / j)) := opI fun i j _ _ _ _ _ hc q => by
  have h1 : (0 : Int) < j := hc.1
  have h2 : j < 1073741824 := hc.2
  exact floordiv_int (by omega) (by rw [Int.fdiv_eq_ediv_of_nonneg i (by omega)]; exact q) (.inl (PyProof.noPylong_small (by omega)))
theorem op_mod : OpR X (binaryOp .Mod) (rI (fun _ j => 0 < j) fun i j => .int (i % j)) := opI fun i j _ _ _ _ _ hc q => by
  have h1 : (0 : Int) < j := hc
  exact mod_int' (by omega) (by rw [Int.fmod_eq_emod_of_nonneg i (by omega)]; exact q)
theorem op_shr : OpR X (binaryOp .RShift) (rI (fun _ j => 0 ≤ j) fun i j => .int (i / 2 ^ j.toNat)) := opI fun i j _ _ _ _ _ hc q =>
  rshift_int hc (by rw [Int.fdiv_eq_ediv_of_nonneg i (two_pow_nn _)]; exact q)
theorem unI {f : Value → Sem Value} {g : Int → Int}
    (rule : ∀ (i : Int) (t : Tok) (s : Shared) (Q : Value → Shared → Prop) (E : Value → Shared → Prop), Q (.int (g i) s.toks) { s with toks := s.toks + 1 } → wpAny (model X.prog X.w) X.A (f (.int i t)) Q E s) :
    UnR X f (rU fun i => .int (g i)) := by
  intro pins s σ H x v Q I rx h
  obtain ⟨i, rfl, q⟩ := h
  obtain ⟨t, rfl⟩ := rx
  exact rule i t s _ _ ⟨.int (g i), H, I.tok _, ⟨_, rfl⟩, q⟩
theorem un_neg : UnR X (unaryOp .USub) (rU fun i => .int (-i)) := unI fun _ _ _ _ _ q => neg_int q
end
def scal : V → V → Bool
  | .non, .non => true | .non, .int _ => true | .int _, .non => true | .non, .bl _ => true | .bl _, .non => true | .non, .str _ => true | .str _, .non => true
  | .int _, .int _ => true | .bl _, .bl _ => true | .str _, .str _ => true | .byt _, .byt _ => true
  | .int _, .str _ => true | .str _, .int _ => true | .bl _, .str _ => true | .str _, .bl _ => true
  | _, _ => false
def rEq : R2 := fun x y H Q => scal x y = true ∧ Q (.bl (decide (x = y))) H
def rNe : R2 := fun x y H Q => scal x y = true ∧ Q (.bl (!decide (x = y))) H
theorem dec_int {i j : Int} : decide (V.int i = V.int j) = (i == j) := by
  rw [Bool.eq_iff_iff]
  simp
theorem dec_bl {i j : Bool} : decide (V.bl i = V.bl j) = (i == j) := by
  rw [Bool.eq_iff_iff]
  simp
theorem dec_str {i j : Str} : decide (V.str i = V.str j) = (i == j) := by
  rw [Bool.eq_iff_iff]
  simp
theorem dec_byt {i j : Array UInt8} : decide (V.byt i = V.byt j) = (i.toList == j.toList) := by
  rw [Bool.eq_iff_iff]
  cases i
  cases j
  simp
section
variable {X : Cx} {a b c : Expr} {ta tb tc : TE} {pos : Pos}
theorem fin_bl {pins : List (Addr × Obj)} {σ : St} {H : Hp} {s : Shared} {Q : VK} {k k' : Bool} (I : Inv X pins σ H s) (q : Q (.bl k) H) (e : k = k') : EP X pins σ Q (.bool k') s := by
  subst e
  exact ⟨.bl k, H, I, rfl, q⟩
theorem op_eq : OpR X (compareOp .Eq) rEq := by
  intro pins s σ H x y v u Q I rx ry h
  obtain ⟨hs, q⟩ := h
  cases x with
  | non =>
    cases rx
    cases y with
    | non => cases ry; exact PySem.EqNone.eq_none_none (fin_bl I q (by simp))
    | bl j => cases ry; exact PySem.EqNone.eq_none_bool (fin_bl I q (by simp))
    | int j => obtain ⟨t', rfl⟩ := ry; exact PySem.EqNone.eq_none_int (fin_bl I q (by simp))
    | str j => obtain ⟨t', rfl⟩ := ry; exact PySem.EqNone.eq_none_str (fin_bl I q (by simp))
    | _ => exact absurd (show false = true from hs) Bool.false_ne_true
  | bl i =>
    cases rx
    cases y with
    | non => cases ry; exact PySem.EqNone.eq_bool_none (fin_bl I q (by simp))
    | bl j => cases ry; exact eq_bool (fin_bl I q dec_bl)
    | str j => obtain ⟨t', rfl⟩ := ry; exact PySem.EqMixed.eq_bool_str (fin_bl I q (by simp))
    | _ => exact absurd (show false = true from hs) Bool.false_ne_true
  | int i =>
    obtain ⟨t, rfl⟩ := rx
    cases y with
    | non => cases ry; exact PySem.EqNone.eq_int_none (fin_bl I q (by simp))
    | int j => obtain ⟨t', rfl⟩ := ry; exact eq_int (fin_bl I q dec_int)
    | str j => obtain ⟨t', rfl⟩ := ry; exact PySem.EqMixed.eq_int_str (fin_bl I q (by simp))
    | _ => exact absurd (show false = true from hs) Bool.false_ne_true
  | str i =>
    obtain ⟨t, rfl⟩ := rx
    cases y with
    | non => cases ry; exact PySem.EqNone.eq_str_none (fin_bl I q (by simp))
    | bl j => cases ry; exact PySem.EqMixed.eq_str_bool (fin_bl I q (by simp))
    | int j => obtain ⟨t', rfl⟩ := ry; exact PySem.EqMixed.eq_str_int (fin_bl I q (by simp))
    | str j => obtain ⟨t', rfl⟩ := ry; exact eq_str (fin_bl I q dec_str)
    | _ => exact absurd (show false = true from hs) Bool.false_ne_true
  | byt i =>
    obtain ⟨t, rfl⟩ := rx
    cases y with
    | byt j => obtain ⟨t', rfl⟩ := ry; exact PySem.W.eq_bytes (fin_bl I q dec_byt)
    | _ => exact absurd (show false = true from hs) Bool.false_ne_true
  | _ => cases y <;> exact absurd (show false = true from hs) Bool.false_ne_true
theorem op_ne : OpR X (compareOp .NotEq) rNe := by
  intro pins s σ H x y v u Q I rx ry h
  obtain ⟨hs, q⟩ := h
  cases x with
  | non =>
    cases rx
    cases y with
    | non => cases ry; exact PySem.EqNone.ne_none_none (fin_bl I q (by simp))
    | bl j => cases ry; exact PySem.EqNone.ne_none_bool (fin_bl I q (by simp))
    | int j => obtain ⟨t', rfl⟩ := ry; exact PySem.EqNone.ne_none_int (fin_bl I q (by simp))
    | str j => obtain ⟨t', rfl⟩ := ry; exact PySem.EqNone.ne_none_str (fin_bl I q (by simp))
    | _ => exact absurd (show false = true from hs) Bool.false_ne_true
  | bl i =>
    cases rx
    cases y with
    | non => cases ry; exact PySem.EqNone.ne_bool_none (fin_bl I q (by simp))
    | bl j => cases ry; exact ne_bool (fin_bl I q (congrArg not dec_bl))
    | str j => obtain ⟨t', rfl⟩ := ry; exact PySem.EqMixed.ne_bool_str (fin_bl I q (by simp))
    | _ => exact absurd (show false = true from hs) Bool.false_ne_true
  | int i =>
    obtain ⟨t, rfl⟩ := rx
    cases y with
    | non => cases ry; exact PySem.EqNone.ne_int_none (fin_bl I q (by simp))
    | int j => obtain ⟨t', rfl⟩ := ry; exact ne_int (fin_bl I q (congrArg not dec_int))
    | str j => obtain ⟨t', rfl⟩ := ry; exact PySem.EqMixed.ne_int_str (fin_bl I q (by simp))
    | _ => exact absurd (show false = true from hs) Bool.false_ne_true
  | str i =>
    obtain ⟨t, rfl⟩ := rx
    cases y with
    | non => cases ry; exact PySem.EqNone.ne_str_none (fin_bl I q (by simp))
    | bl j => cases ry; exact PySem.EqMixed.ne_str_bool (fin_bl I q (by simp))
    | int j => obtain ⟨t', rfl⟩ := ry; exact PySem.EqMixed.ne_str_int (fin_bl I q (by simp))
    | str j => obtain ⟨t', rfl⟩ := ry; exact ne_str (fin_bl I q (congrArg not dec_str))
    | _ => exact absurd (show false = true from hs) Bool.false_ne_true
  | byt i =>
    obtain ⟨t, rfl⟩ := rx
    cases y with
    | byt j => obtain ⟨t', rfl⟩ := ry; exact PySem.W.ne_bytes (fin_bl I q (congrArg not dec_byt))
    | _ => exact absurd (show false = true from hs) Bool.false_ne_true
  | _ => cases y <;> exact absurd (show false = true from hs) Bool.false_ne_true
theorem op_lt : OpR X (compareOp .Lt) (rI0 fun i j => .bl (decide (i < j))) := opB0 fun _ _ _ _ _ _ _ q => lt_int q
theorem op_le : OpR X (compareOp .LtE) (rI0 fun i j => .bl (decide (i ≤ j))) := opB0 fun _ _ _ _ _ _ _ q => le_int q
theorem op_gt : OpR X (compareOp .Gt) (rI0 fun i j => .bl (decide (j < i))) := opB0 fun _ _ _ _ _ _ _ q => gt_int q
theorem nomark (b : Expr) {op : CmpOp} (h : op ≠ .In := by decide) (h2 : op ≠ .NotIn := by decide) : behindInMarks op b = false := by
  have e1 : (op == CmpOp.In) = false := by cases op <;> first | rfl | exact absurd rfl h
  have e2 : (op == CmpOp.NotIn) = false := by cases op <;> first | rfl | exact absurd rfl h2
  cases b <;> simp [behindInMarks, e1, e2]
theorem pe_cmpR {op : CmpOp} {r : R2} (ho : OpR X (compareOp op) r) (ha : PE X a ta) (hb : PE X b tb) (hm : behindInMarks op b = false) : PE X (.Compare a [op] [b] pos) (tOp r ta tb) := by
  intro pins s σ H Q I h
  exact wpAny_Compare1 (binT ha hb I h fun v u s2 x y H2 I2 rx ry q => ho pins s2 σ H2 x y v u Q I2 rx ry q) hm
def tTest (t : TE) : TT := fun σ H Q => t σ H fun x H' => ∃ k, x = .bl k ∧ Q k H'
theorem pt_cmpR {op : CmpOp} {r : R2} (ho : OpR X (compareOp op) r) (ha : PE X a ta) (hb : PE X b tb) (hm : behindInMarks op b = false) : PT X (.Compare a [op] [b] pos) (tTest (tOp r ta tb)) := by
  intro pins s σ H Q I h
  refine wpAny_isTrue_Compare1 (thn (ha pins s σ H _ I h) fun v s1 ⟨x, H1, I1, r1, q1⟩ => thn (hb pins s1 σ H1 _ I1 q1) fun u s2 ⟨y, H2, I2, r2, q2⟩ =>
    thn (ho pins s2 σ H2 x y v u _ I2 r1 r2 q2) fun c s3 ⟨z, H3, I3, r3, k, e, q3⟩ => ?_) hm
  subst e
  cases r3
  exact wpAny_truthy_bool ⟨H3, I3, q3⟩
theorem line63 : (sizeLine : Nat) < 2 ^ 63 := by rw [sizeLine_eq]; decide
theorem vals1 {x : V} {us : List Value} (r : Vals [x] us) : ∃ u, us = [u] ∧ RelV x u := by
  cases r with
  | cons r1 r2 => cases r2; exact ⟨_, rfl, r1⟩
theorem call_abs : CallR X (.builtin "abs") (fun xs H Q => ∃ i, xs = [.int i] ∧ Q (.int (if i < 0 then -i else i)) H) := by
  intro pins s σ H xs us Q I r h
  obtain ⟨i, rfl, q⟩ := h
  obtain ⟨u, rfl, t, rfl⟩ := vals1 r
  exact call_abs_int fun u tk => ⟨.int (if i < 0 then -i else i), H, I.tok _, ⟨_, rfl⟩, q⟩
end
end L2
namespace L2
open PySem PySem.Spec PyProof.Rows
structure ObjM (h : Heap) (x dx C : Addr) (mA : Str → Option Value) : Prop where
  obj : h.get? x = some (PySem.W.instObj C dx)
  ns : h.Ns1 dx mA
  ne : dx ≠ x
theorem lookIn_ns {h : Heap} {dx : Addr} {mA : Str → Option Value} (n : h.Ns1 dx mA) : ∃ od, h.get? dx = some od ∧ ∀ name, PySem.W.lookIn name od = some (mA name) := by
  obtain ⟨o, es, ep, ho, hd, hk, _, hm⟩ := n
  refine ⟨o, ho, fun name => ?_⟩
  have e := hm name
  unfold nsFind findBy at e
  rw [← Array.find?_toList] at e
  unfold PySem.W.lookIn
  rw [hd]
  dsimp only
  split
  · rename_i y q
    rw [q] at e
    exact congrArg some e
  · rename_i q
    rw [q] at e
    have a : es.toList.any (·.refKey) = false := by
      rw [List.any_eq_false]
      intro y hy
      obtain ⟨z, t, hkey⟩ := hk y (Array.mem_toList_iff.mp hy)
      simp [DictEntry.refKey, hkey]
    have a' : ¬ es.toList.any (·.refKey) = true := by rw [a]; exact Bool.false_ne_true
    rw [if_neg a']
    exact congrArg some e
theorem ObjM.look {h : Heap} {x dx C : Addr} {mA : Str → Option Value} (I : ObjM h x dx C mA) : ∃ od, PySem.W.InstAt h x (PySem.W.instObj C dx) C (some od) ∧ ∀ name, PySem.W.lookIn name od = some (mA name) :=
  let ⟨od, ho, hl⟩ := lookIn_ns I.ns
  ⟨od, ⟨I.obj, rfl, rfl, ho⟩, hl⟩
section
variable {prog : Program} {w : World} {A : Around} {E : Value → Shared → Prop} {s : Shared} {K : PySem.W.Frag} {x dx C f : Addr} {mA : Str → Option Value} {name : Str} {v : Value}
theorem get_map {expr : Bool} {Q : Value → Shared → Prop} (X : K.In s.heap) (I : ObjM s.heap x dx C mA) (hg : PySem.W.plainGet K C name = true) (hh : PySem.W.hasDictIn K C = true)
    (ha : PySem.W.findIn K (.ref C) name = some none) (hv : mA name = some v) (hv' : PySem.W.handedIn v = true) (h : Q v { s with toks := s.toks + 1 }) :
    wpAny (model prog w) A (getAttr (.ref x) name expr) Q E s := by
  obtain ⟨od, J, hl⟩ := I.look
  exact PySem.W.get_value X J (PySem.W.plainGet_of hg).1 (PySem.W.findObj_own hh ha rfl (by rw [hl, hv])) hv' h
theorem get_meth {pl : Sem Bool} {Q : Value × List Value → Shared → Prop} (X : K.In s.heap) (I : ObjM s.heap x dx C mA) (hg : PySem.W.plainGet K C name = true)
    (hf : PySem.W.findIn K (.ref C) name = some (some (.ref f))) (ht : PySem.W.isFn K (.ref f) = true) (hv : mA name = none) (h : Q (.ref f, [.ref x]) s) :
    wpAny (model prog w) A (getMethod (.ref x) name pl) Q E s := by
  obtain ⟨od, J, hl⟩ := I.look
  exact PySem.W.method_fn X J (PySem.W.plainGet_of hg).1 (PySem.W.plainGet_of hg).2 hf (beq_iff_eq.mp ht) (by show (PySem.W.lookIn name od).map (·.isSome) = some false; rw [hl, hv]; rfl) h
theorem set_map {ns : List Str} {Q : Unit → Shared → Prop} (X : K.In s.heap) (I : ObjM s.heap x dx C mA)
    (hs : PySem.W.findIn K (.ref C) "__setattr__" = some (some (.builtin "object.__setattr__"))) (hp : PySem.W.plainOver K C = true) (ht : PySem.W.takerIn K C name = some none) (hh : PySem.W.hasDictIn K C = true)
    (hw : PySem.Within mA ns) (hsz : ns.length ≤ sizeLine)
    (h : ∀ h', ObjM h' x dx C (fun y => if y = name then some v else mA y) → Heap.SameBut dx s.heap h' → Q () { s with heap := h', toks := s.toks + 2 }) :
    wpAny (model prog w) A (setAttr (.ref x) name v) Q E s := by
  obtain ⟨od, J, hl⟩ := I.look
  refine PySem.W.set_plain X J hs (PySem.W.osa_open (s := { s with toks := s.toks + 1 }) (r := none) X J hp ht fun b => ?_)
  obtain ⟨cd, hc, hd'⟩ := PySem.W.any_some hh
  have hx : s.heap.get? x = some ⟨.ref C, some dx, .plain, #[]⟩ := I.obj
  refine wpAny_bind (wpAny_pure (wpAny_bind (wpAny_bind (wpAny_loadPart hx (wpAny_bind (PySem.W.Looks.here (s := { s with toks := s.toks + 1 }) (PySem.W.looks_clsIn X hc) ?_))))))
  rw [hd']
  refine wpAny_pure (a := some dx) (wpAny_bind (wpAny_pure (wpAny_bind ?_)))
  refine wpAny_nsSet1 (s := { s with toks := s.toks + 1 }) I.ns fun h' hn2 hs2 => ?_
  obtain ⟨oD, esD, epD, hoD, hdD, hcD⟩ := hn2.count (PySem.Within.cons name v hw)
  refine wpAny_bind (wpAny_lookBehind hoD (by rw [hdD]; exact pastItsLine_dict (Nat.le_trans hcD (by rw [List.length_cons]; omega))) ?_)
  exact wpAny_pure (h _ ⟨(hs2.2 _ (Ne.symm I.ne)).trans I.obj, hn2, I.ne⟩ hs2)
theorem make_map {R : Result → Shared → Prop} {vs : List Value} {kw : List (Str × Value)} (X : K.In s.heap) (hm : PySem.W.makesIn K C = true)
    (hi : PySem.W.findIn K (.ref C) "__init__" = some (some (.ref f))) (hf : PySem.W.typeIn K (.ref f) = some (.type "function"))
    (h : codeAny (model prog w) (A.under (.builtin "type.__call__" ⟨.ref C :: vs, kw⟩)) (.call (.ref f) ⟨.ref (s.heap.objs.size + 1) :: vs, kw⟩) (PySem.W.InitBack (s.heap.objs.size + 1) R)
      { s with heap := (s.heap.push PySem.W.emptyDict).push (PySem.W.instObj C s.heap.objs.size) }) :
    codeAny (model prog w) A (.call (.ref C) ⟨vs, kw⟩) R s := by
  obtain ⟨hh, g, d, t, os⟩ := s
  exact PySem.W.make_core (PySem.W.makes_of X hm) (PySem.W.looks_findIn X hi) (fun self => PySem.W.bind_fn X self hf) (.inl rfl) h
end
def putF (f : Str) (v : V) : List (Str × V) → List (Str × V)
  | [] => [(f, v)]
  | (g, x) :: r => if g = f then (g, v) :: r else (g, x) :: putF f v r
theorem lookup_putF (f g : Str) (v : V) : ∀ fs : List (Str × V), (putF f v fs).lookup g = if g = f then some v else fs.lookup g
  | [] => by
    show List.lookup g [(f, v)] = _
    by_cases h : g = f
    · have hb : (g == f) = true := beq_iff_eq.mpr h
      simp only [List.lookup, hb, if_pos h]
    · have hb : (g == f) = false := beq_eq_false_iff_ne.mpr h
      simp only [List.lookup, hb, if_neg h]
  | (k, x) :: r => by
    have ih := lookup_putF f g v r
    rw [show putF f v ((k, x) :: r) = (if k = f then (k, v) :: r else (k, x) :: putF f v r) from rfl]
    by_cases hk : k = f
    · rw [if_pos hk]
      by_cases h : g = k
      · have hb : (g == k) = true := beq_iff_eq.mpr h
        simp only [List.lookup, hb, if_pos (h.trans hk)]
      · have hb : (g == k) = false := beq_eq_false_iff_ne.mpr h
        simp only [List.lookup, hb, if_neg (fun e : g = f => h (e.trans hk.symm))]
    · rw [if_neg hk]
      by_cases h : g = k
      · have hb : (g == k) = true := beq_iff_eq.mpr h
        simp only [List.lookup, hb, if_neg (fun e : g = f => hk (h.symm.trans e))]
      · have hb : (g == k) = false := beq_eq_false_iff_ne.mpr h
        simp only [List.lookup, hb]
        exact ih
theorem keys_putF (f : Str) (v : V) : ∀ fs : List (Str × V), f ∈ (putF f v fs).map (·.1) ∧ ∀ g, g ∈ fs.map (·.1) → g ∈ (putF f v fs).map (·.1)
  | [] => ⟨by simp [putF], fun g h => by simp at h⟩
  | (k, x) :: r => by
    obtain ⟨i1, i2⟩ := keys_putF f v r
    rw [show putF f v ((k, x) :: r) = (if k = f then (k, v) :: r else (k, x) :: putF f v r) from rfl]
    by_cases hk : k = f
    · rw [if_pos hk]
      subst hk
      exact ⟨by simp, fun g h => by simpa using h⟩
    · rw [if_neg hk]
      refine ⟨?_, fun g h => ?_⟩
      · rw [List.map_cons]
        exact List.mem_cons_of_mem _ i1
      · rw [List.map_cons] at h ⊢
        rcases List.mem_cons.mp h with e | e
        · exact List.mem_cons.mpr (.inl e)
        · exact List.mem_cons_of_mem _ (i2 g e)
theorem length_putF (f : Str) (v : V) : ∀ fs : List (Str × V), (putF f v fs).length ≤ fs.length + 1
  | [] => by simp [putF]
  | (k, x) :: r => by
    have ih := length_putF f v r
    rw [show putF f v ((k, x) :: r) = (if k = f then (k, v) :: r else (k, x) :: putF f v r) from rfl]
    by_cases hk : k = f
    · rw [if_pos hk, List.length_cons, List.length_cons]; omega
    · rw [if_neg hk, List.length_cons, List.length_cons]; omega
theorem RelO.some_of {v : V} {o : Option Value} (r : RelO (some v) o) : ∃ u, o = some u ∧ RelV v u := by
  cases o with
  | none => exact (show False from r).elim
  | some u => exact ⟨u, rfl, r⟩
theorem RelO.none_of {o : Option Value} (r : RelO none o) : o = none := by
  cases o with
  | none => rfl
  | some u => exact (show False from r).elim
theorem handed_of {v : V} {u : Value} (r : RelV v u) : PySem.W.handedIn u = true := by
  cases v with
  | non => cases (show u = Value.none from r); rfl
  | bl b => cases (show u = Value.bool b from r); rfl
  | int i => obtain ⟨t, e⟩ := (show ∃ t, u = Value.int i t from r); cases e; rfl
  | str x => obtain ⟨t, e⟩ := (show ∃ t, u = Value.str x t from r); cases e; rfl
  | byt b => obtain ⟨t, e⟩ := (show ∃ t, u = Value.bytes b t from r); cases e; rfl
  | flt b => obtain ⟨t, e⟩ := (show ∃ t, u = Value.float b t from r); cases e; rfl
  | ref a => cases (show u = Value.ref a from r); rfl
  | ty n => cases (show u = Value.type n from r); rfl
section
variable {P : Program} {w : World} {H H' : Hp} {h h' : Heap} {a C dx : Addr} {fs fs' : List (Str × V)}
theorem ins_get (hok : HOk P w H h) (e : H a = some (.ins C dx fs)) : ∃ mA, ObjM h a dx C mA ∧ (∀ f, RelO (fs.lookup f) (mA f)) ∧ PySem.Within mA (fs.map (·.1)) ∧ fs.length ≤ 1000 ∧ H dx = some (.own a) := by
  obtain ⟨d, z, ne, ob, mA, n, r, q⟩ := (show ObjOk P w H h a (.ins C dx fs) from hok a _ e)
  exact ⟨mA, ⟨ob, n, ne⟩, r, q, z, d⟩
end
structure Cls (K : PySem.W.Frag) (C : Addr) : Prop where
  pg : PySem.W.plainGet K C Str.empty = true
  hd : PySem.W.hasDictIn K C = true
  po : PySem.W.plainOver K C = true
  sa : PySem.W.findIn K (.ref C) "__setattr__" = some (some (.builtin "object.__setattr__"))
theorem Cls.get {K : PySem.W.Frag} {C : Addr} (c : Cls K C) (f : Str) : PySem.W.plainGet K C f = true := c.pg
def NoAttr (K : PySem.W.Frag) (C : Addr) (f : Str) : Prop := PySem.W.findIn K (.ref C) f = some none
theorem NoAttr.taker {K : PySem.W.Frag} {C : Addr} {f : Str} (n : NoAttr K C f) : PySem.W.takerIn K C f = some none := by
  unfold PySem.W.takerIn
  rw [show PySem.W.findIn K (.ref C) f = some none from n]
  rfl
structure Con (K : PySem.W.Frag) (C : Addr) (f : Str) (v : V) (u : Value) : Prop where
  at_ : PySem.W.findIn K (.ref C) f = some (some u)
  rel : RelV v u
  get : PySem.W.specialIn K u "__get__" = some none
  cp : PySem.W.copiedNames.contains f = false
structure Meth (K : PySem.W.Frag) (C : Addr) (m : Str) (f : Addr) : Prop where
  at_ : PySem.W.findIn K (.ref C) m = some (some (.ref f))
  fn : PySem.W.isFn K (.ref f) = true
  kp : PySem.W.keepIn K (.ref f) = true
section
variable {X : Cx} {pins : List (Addr × Obj)} {σ : St} {H : Hp} {s : Shared} {a C dx : Addr} {fs : List (Str × V)} {f : Str} {v : V} {A : Around} {E : Value → Shared → Prop}
theorem getattr_ok {b : Bool} {Q : Value → Shared → Prop} (I : Inv X pins σ H s) (e : H a = some (.ins C dx fs)) (c : Cls X.K C) (n : NoAttr X.K C f) (l : fs.lookup f = some v)
    (h : ∀ u s', Inv X pins σ H s' → RelV v u → Q u s') : wpAny (model X.prog X.w) A (getAttr (.ref a) f b) Q E s := by
  obtain ⟨mA, O, r, _, _, _⟩ := ins_get I.hok e
  obtain ⟨u, hu, ru⟩ := RelO.some_of (v := v) (o := mA f) (by rw [← l]; exact r f)
  exact get_map I.kIn O (c.get f) c.hd n hu (handed_of ru) (h u _ (I.tok _) ru)
theorem getmeth_ok {m : Str} {g : Addr} {pl : Sem Bool} {Q : Value × List Value → Shared → Prop} (I : Inv X pins σ H s) (e : H a = some (.ins C dx fs)) (c : Cls X.K C) (k : Meth X.K C m g) (l : fs.lookup m = none)
    (h : Q (.ref g, [.ref a]) s) : wpAny (model X.prog X.w) A (getMethod (.ref a) m pl) Q E s := by
  obtain ⟨mA, O, r, _, _, _⟩ := ins_get I.hok e
  have hn : mA m = none := RelO.none_of (by rw [← l]; exact r m)
  exact get_meth I.kIn O (c.get m) k.at_ k.fn hn h
theorem setattr_ok {y : V} {u : Value} {Q : Unit → Shared → Prop} (I : Inv X pins σ H s) (e : H a = some (.ins C dx fs)) (c : Cls X.K C) (n : NoAttr X.K C f) (hl : fs.length < 1000) (ry : RelV y u)
    (h : ∀ s', Inv X pins σ (upd H a (.ins C dx (putF f y fs))) s' → Q () s') : wpAny (model X.prog X.w) A (setAttr (.ref a) f u) Q E s := by
  obtain ⟨mA, O, r, wi, _, ho⟩ := ins_get I.hok e
  have hz : (fs.map (·.1)).length ≤ sizeLine := by rw [List.length_map, sizeLine_eq]; omega
  refine set_map I.kIn O c.sa c.po n.taker c.hd wi hz fun h' O' sb => h _ ?_
  have hd : ∃ o, h'.get? dx = some o := let ⟨o, _, _, e', _⟩ := O'.ns; ⟨o, e'⟩
  refine I.write (x := a) (e := dx) (by rw [e]; exact True.intro) (.inr ho) (fun b q hb z => (sb.2 b hb).trans z) hd ?_
  refine ⟨by rw [upd_ne O.ne]; exact ho, ?_, O.ne, O'.obj, _, O'.ns, fun g => ?_, fun g hg => ?_⟩
  · have := length_putF f y fs; omega
  · show RelO ((putF f y fs).lookup g) (if g = f then some u else mA g)
    rw [lookup_putF]
    by_cases q : g = f
    · rw [if_pos q, if_pos q]; exact ry
    · rw [if_neg q, if_neg q]; exact r g
  · by_cases q : g = f
    · rw [q]; exact (keys_putF f y fs).1
    · refine (keys_putF f y fs).2 g (wi g fun z => hg ?_)
      show (if g = f then some u else mA g) = none
      rw [if_neg q]; exact z
theorem Inv.made (I : Inv X pins σ H s) : Inv X pins σ (upd (upd H s.heap.objs.size (.own (s.heap.objs.size + 1))) (s.heap.objs.size + 1) (.ins C s.heap.objs.size []))
    { s with heap := (s.heap.push PySem.W.emptyDict).push (PySem.W.instObj C s.heap.objs.size) } := by
  have e1 : (s.heap.push PySem.W.emptyDict).get? s.heap.objs.size = some PySem.W.emptyDict := Heap.get?_push_size s.heap rfl
  have e2 : ((s.heap.push PySem.W.emptyDict).push (PySem.W.instObj C s.heap.objs.size)).get? (s.heap.objs.size + 1) = some (PySem.W.instObj C s.heap.objs.size) := by
    have := Heap.get?_push_size (s.heap.push PySem.W.emptyDict) (o := PySem.W.instObj C s.heap.objs.size) rfl
    rwa [Heap.size_push] at this
  have e3 : (s.heap.push PySem.W.emptyDict).Ns s.heap.objs.size (fun _ => none) := ⟨PySem.W.emptyDict, #[], _, e1, rfl, (fun e he => absurd he (by simp)), fun _ => rfl⟩
  have I1 := I.laid (a := s.heap.objs.size) (o := .own (s.heap.objs.size + 1)) (h' := s.heap.push PySem.W.emptyDict) (t' := s.toks) (fun b u q => Heap.get?_push_of_some _ q) (Nat.le_refl _) ⟨_, e1⟩
  refine I1.laid (a := s.heap.objs.size + 1) (o := .ins C s.heap.objs.size []) (t' := s.toks) (fun b u q => Heap.get?_push_of_some _ q) (Nat.le_of_eq (Heap.size_push _ _)) ?_
  have ne : s.heap.objs.size ≠ s.heap.objs.size + 1 := Nat.ne_of_lt (Nat.lt_succ_self _)
  refine ⟨by rw [upd_ne ne, upd_same], Nat.zero_le _, ne, e2, fun _ => none, (Heap.Ns1.of_empty e3).at fun o q => Heap.get?_push_of_some _ q, fun _ => True.intro, fun y hy => absurd rfl hy⟩
theorem attr_of {prog : Program} {w : World} {env : Env} {e : Expr} {f : Str} {pos : Pos} {s : Shared} {Q : Value → Shared → Prop} (hb : attributeBase e f env (eval e env) = eval e env)
    (h : wpAny (model prog w) A (eval e env) (fun o s₁ => wpAny (model prog w) A (getAttr o f true) Q E s₁) E s) : wpAny (model prog w) A (eval (.Attribute e f pos) env) Q E s :=
  Attribute_any_ h (by rw [arm_eval_Attribute, hb])
end
def tFld (K : PySem.W.Frag) (ta : TE) (f : Str) : TE := fun σ H Q => ta σ H fun x H1 => ∃ a C dx fs v, x = .ref a ∧ H1 a = some (.ins C dx fs) ∧ Cls K C ∧ NoAttr K C f ∧ fs.lookup f = some v ∧ Q v H1
def sFld (K : PySem.W.Frag) (ta tv : TE) (f : Str) : TS := fun D σ H => tv σ H fun y H1 => ta σ H1 fun x H2 => ∃ a C dx fs, x = .ref a ∧ H2 a = some (.ins C dx fs) ∧ Cls K C ∧ NoAttr K C f ∧ fs.length < 1000 ∧
  D.nx σ (upd H2 a (.ins C dx (putF f y fs)))
section
variable {X : Cx} {o e value : Expr} {f : Str} {pos pos' tpos : Pos} {ta tv : TE}
theorem pe_fld (he : PE X e ta) (hb : attributeBase e f X.env (eval e X.env) = eval e X.env) : PE X (.Attribute e f pos) (tFld X.K ta f) := by
  intro pins s σ H Q I h
  refine attr_of hb (thn (he pins s σ H _ I h) fun u s1 ⟨x, H1, I1, rx, a, C, dx, fs, v, ex, ea, c, n, l, q⟩ => ?_)
  subst ex
  obtain rfl : u = Value.ref a := rx
  exact getattr_ok I1 ea c n l fun u' s2 I2 ru => ⟨v, H1, I2, ru, q⟩
theorem ps_fld (ha : PE X o ta) (hv : PE X value tv) (hs : swapsWith value (some (.Attribute o f pos')) pos.line X.env = pure false) : PS X (.Assign [.Attribute o f pos'] value pos) (sFld X.K ta tv f) := by
  intro pins s σ H D I h
  refine plainObj_wpAny_Assign_Attribute (thn (hv pins s σ H _ I h) fun u s1 ⟨y, H1, I1, ry, q⟩ => thn (ha pins s1 σ H1 _ I1 q) fun ov s2 ⟨x, H2, I2, rx, a, C, dx, fs, ex, ea, c, n, l, q2⟩ => ?_) hs
  subst ex
  obtain rfl : ov = Value.ref a := rx
  exact setattr_ok I2 ea c n l ry fun s3 I3 => ⟨σ, _, I3, q2⟩
end
section
variable {X : Cx} {pins : List (Addr × Obj)} {σ : St} {H : Hp} {s : Shared} {A : Around} {E : Value → Shared → Prop} {Q : Value → Shared → Prop} {c : Value} {b : Bool}
inductive TyOf (K : PySem.W.Frag) (H : Hp) : V → Value → Prop where
  | non : TyOf K H .non (.type "NoneType")
  | bl (x : Bool) : TyOf K H (.bl x) (.type "bool")
  | int (i : Int) : TyOf K H (.int i) (.type "int")
  | str (x : Str) : TyOf K H (.str x) (.type "str")
  | flt (x : UInt64) : TyOf K H (.flt x) (.type "float")
  | lst {a : Addr} {xs : List V} (e : H a = some (.lst xs)) : TyOf K H (.ref a) (.type "list")
  | frz {a : Addr} {o : Obj} {xs : List V} (e : H a = some (.frz o (.lst xs))) : TyOf K H (.ref a) (.type "list")
  | tup {a : Addr} {xs : List V} (e : H a = some (.tup xs)) : TyOf K H (.ref a) (.type "tuple")
  | dK {a : Addr} {kvs : List (Key × V)} (e : H a = some (.dK kvs)) : TyOf K H (.ref a) (.type "dict")
  | dT {a : Addr} {kvs : List (List Key × V)} (e : H a = some (.dT kvs)) : TyOf K H (.ref a) (.type "dict")
  | ins {a C dx : Addr} {fs : List (Str × V)} (e : H a = some (.ins C dx fs)) (cl : Cls K C) (ha : PySem.W.findIn K (.ref C) "__class__" = some (some (.builtin "object.__class__")))
      (hn : PySem.W.specialIn K (.builtin "object.__class__") "__get__" = some (some (.builtin "getset_descriptor.__get__"))) (htk : PySem.W.takesIn K (.builtin "object.__class__") = some true)
      (hm : PySem.W.mroIn K C (.type "object") = some true) : TyOf K H (.ref a) (.ref C)
end
end L2
namespace L2
open PySem PySem.Spec PyProof.Rows
structure Room (k : Nat) (A : Around) : Prop where
  hd : A.handled = none
  dp : A.depth + 3 * k + 5 < recursionLimit
  un : A.units + 16 * k + 200 < cLine
theorem Room.mono {j k : Nat} {A : Around} (r : Room k A) (h : j ≤ k) : Room j A := ⟨r.hd, by have := r.dp; omega, by have := r.un; omega⟩
theorem Room.deeper {k : Nat} {A : Around} (r : Room (k + 1) A) (env : Env) : Room k (A.deeper env) :=
  ⟨r.hd, by have := r.dp; show A.depth + 1 + 3 * k + 5 < _; omega, by have := r.un; show A.units + 3 + 16 * k + 200 < _; omega⟩
theorem Room.in1 {k : Nat} {A : Around} (r : Room (k + 1) A) : Room k A.in1 :=
  ⟨r.hd, by have := r.dp; show A.depth + 3 * k + 5 < _; omega, by have := r.un; show A.units + 1 + 16 * k + 200 < _; omega⟩
theorem make_depth {A : Around} {C : Addr} {us : List Value} {kw : List (Str × Value)} : (A.under (.builtin "type.__call__" ⟨.ref C :: us, kw⟩)).depth = A.depth + 1 := by
  first | rfl | simp [Around.under, Code.weight, Code.isCreation, Code.isGuard, Code.isCaller, Code.frames, Code.isFrame, guardIds]
theorem make_units {A : Around} {C : Addr} {us : List Value} {kw : List (Str × Value)} : (A.under (.builtin "type.__call__" ⟨.ref C :: us, kw⟩)).units = A.units + 1 := by
  first | rfl | simp [Around.under, Code.cUnits, Code.frames, Code.isFrame]
theorem Room.make {k : Nat} {A : Around} (r : Room (k + 1) A) (C : Addr) (us : List Value) (kw : List (Str × Value)) : Room k (A.under (.builtin "type.__call__" ⟨.ref C :: us, kw⟩)) :=
  ⟨r.hd, by have := r.dp; rw [make_depth]; omega, by have := r.un; rw [make_units]; omega⟩
theorem Room.depth {k : Nat} {A : Around} (r : Room k A) : A.depth < recursionLimit := by have := r.dp; omega
theorem Room.units {k : Nat} {A : Around} (r : Room k A) : A.units + 64 < cLine := by have := r.un; omega
def tNil : TA := fun _ H Q => Q [] H
def tCons (ta : TE) (tr : TA) : TA := fun σ H Q => ta σ H fun x H1 => tr σ H1 fun xs H2 => Q (x :: xs) H2
section
variable {X : Cx} {e : Expr} {es : List Expr} {te : TE} {t : TA} {pos : Pos}
theorem pa_nil : PA X [] tNil := fun _ _ _ _ H Q I h => Calls.spliced_nil ⟨[], H, I, .nil, h⟩
theorem pa_cons (ha : PE X e te) (hr : PA X es t) (hs : starEach (e :: es) X.env = (false, eval e X.env) :: starEach es X.env := by rfl) : PA X (e :: es) (tCons te t) := by
  intro pos pins s σ H Q I h
  rw [hs]
  show wpAny _ _ (spliced ((false, eval e X.env) :: backTo pos (starEach es X.env))) _ _ s
  refine Calls.spliced_cons (thn (ha pins s σ H _ I h) fun u s1 ⟨x, H1, I1, r1, q1⟩ => ?_)
  exact thn (hr pos pins s1 σ H1 _ I1 q1) fun us s2 ⟨xs, H2, I2, r2, q2⟩ => ⟨x :: xs, H2, I2, .cons r1 r2, q2⟩
def tTup (t : TA) : TE := fun σ H Q => t σ H fun xs H1 => xs.length ≤ sizeLine ∧ ∀ p, H1 p = none → Q (.ref p) (upd H1 p (.tup xs))
def tLst (t : TA) : TE := fun σ H Q => t σ H fun xs H1 => xs.length ≤ sizeLine ∧ ∀ p, H1 p = none → Q (.ref p) (upd H1 p (.lst xs))
theorem pe_tup {x1} (h : PA X es t) : PE X (.Tuple es x1 pos) (tTup t) := by
  intro pins s σ H Q I hq
  refine wpAny_Tuple_spliced (thn (h pos pins s σ H _ I hq) fun us s1 ⟨xs, H1, I1, r, z, q⟩ => ⟨by rw [← r.length]; exact z, ?_⟩)
  have hf : H1 s1.heap.objs.size = none := I1.hok.fresh (Nat.le_refl _)
  refine ⟨.ref s1.heap.objs.size, upd H1 s1.heap.objs.size (.tup xs), I1.laid (t' := s1.toks) (fun b u e => Heap.get?_push_of_some _ e) (Nat.le_refl _) ?_, rfl, q _ hf⟩
  exact ⟨z, us, r, ⟨_, Heap.get?_push_size _ rfl, rfl, _, rfl⟩⟩
theorem pe_lst (h : PA X es t) : PE X (.List es pos) (tLst t) := by
  intro pins s σ H Q I hq
  refine wpAny_List_spliced (thn (h pos pins s σ H _ I hq) fun us s1 ⟨xs, H1, I1, r, z, q⟩ => ⟨by rw [← r.length]; exact z, ?_⟩)
  have hf : H1 s1.heap.objs.size = none := I1.hok.fresh (Nat.le_refl _)
  refine ⟨.ref s1.heap.objs.size, upd H1 s1.heap.objs.size (.lst xs), I1.laid (t' := s1.toks) (fun b u e => Heap.get?_push_of_some _ e) (Nat.le_refl _) ?_, rfl, q _ hf⟩
  exact ⟨z, us, 0, r, Heap.get?_push_size _ rfl⟩
end
abbrev Sp := List V → Hp → VK → XK → Prop
abbrev CXT := List Env → Hp → Shared → XK → Value → Shared → Prop
structure Env0 (P : Program) (w : World) (K : PySem.W.Frag) (mg : Str → Option Value) (base : Heap) (A : Around) (outer : List Env) (s : Shared) (H : Hp) : Prop where
  frames : A.frames = some outer
  mod : Mod K mg base
  bs : ∀ b o, base.get? b = some o → s.heap.get? b = some o ∧ H b = none
  bsz : base.objs.size ≤ s.heap.objs.size
  funs : s.heap.FunFrames base outer
  frf : ∀ b ∈ frs outer, H b = none
  hok : HOk P w H s.heap
  bare : AllBare s.gens
def CE (outer : List Env) (P : Program) (w : World) (H : Hp) (s : Shared) (Q : VK) (u : Value) (s' : Shared) : Prop :=
  ∃ v H', s'.os = s.os ∧ AllBare s'.gens ∧ Un (frs outer) [] H H' s.heap s'.heap ∧ HOk P w H' s'.heap ∧ RelV v u ∧ Q v H'
def CR (CX : CXT) (outer : List Env) (P : Program) (w : World) (H : Hp) (s : Shared) (Q : VK) (E : XK) (r : Result) (s' : Shared) : Prop :=
  match r with
  | .ok (.ret u) => CE outer P w H s Q u s'
  | .ok _ => False
  | .error e => CX outer H s E e s'
structure FnOk (P : Program) (w : World) (K : PySem.W.Frag) (mg : Str → Option Value) (base : Heap) (CX : CXT) (k : Nat) (f : Addr) (fd : FuncData) (ps : List Str) (sp : Sp) : Prop where
  len : ∀ vs H Q E, sp vs H Q E → vs.length = ps.length
  run : ∀ (A : Around) (outer : List Env) (s : Shared) (H : Hp) (args : Args) (us : List Value) (vs : List V) (Q : VK) (E : XK), Room k A → Env0 P w K mg base A outer s H → BindsTo s fd args (ps.zip us) → Vals vs us → sp vs H Q E →
    codeAny (model P w) A (.call (.ref f) args) (CR CX outer P w H s Q E) s
theorem Env0.make {P : Program} {w : World} {K : PySem.W.Frag} {mg : Str → Option Value} {base : Heap} {A : Around} {outer : List Env} {s : Shared} {H : Hp} (e : Env0 P w K mg base A outer s H) (C : Addr) (us : List Value) (kw : List (Str × Value)) :
    Env0 P w K mg base (A.under (.builtin "type.__call__" ⟨.ref C :: us, kw⟩)) outer s H := ⟨by first | exact e.frames | (simpa [Around.under, Code.envs, Code.isFrame, pushEnvs] using e.frames), e.mod, e.bs, e.bsz, e.funs, e.frf, e.hok, e.bare⟩
theorem Env0.in1 {P : Program} {w : World} {K : PySem.W.Frag} {mg : Str → Option Value} {base : Heap} {A : Around} {outer : List Env} {s : Shared} {H : Hp} (e : Env0 P w K mg base A outer s H) :
    Env0 P w K mg base A.in1 outer s H := ⟨e.frames, e.mod, e.bs, e.bsz, e.funs, e.frf, e.hok, e.bare⟩
section
variable {X : Cx} {pins : List (Addr × Obj)} {σ : St} {H : Hp} {s s' : Shared}
theorem Inv.env0 (I : Inv X pins σ H s) : Env0 X.prog X.w X.K X.mg X.base X.A X.stack s H :=
  ⟨I.ok.frames, I.ok.mod, I.bs, Nat.le_trans I.ok.bsz I.sz, I.stack, I.stkFree, I.hok, I.bare⟩
theorem Inv.after {Q : VK} {u : Value} (I : Inv X pins σ H s) (h : CE X.stack X.prog X.w H s Q u s') : EP X pins σ Q u s' := by
  obtain ⟨v, H', os, bare, un, hok, r, q⟩ := h
  obtain ⟨hh, g, d, t, os'⟩ := s'
  obtain rfl : os' = s.os := os
  exact ⟨v, H', I.call (h' := hh) (g' := g) (d' := d) (t' := t) (ch := []) un hok bare (fun b z => absurd z (by simp)), r, q⟩
end
def tCall (sp : Sp) (dvs : List V) (E : XK) (t : TA) : TE := fun σ H Q => t σ H fun vs H1 => sp (vs ++ dvs) H1 Q E
def tMeth (C : Addr) (m : Str) (sp : Sp) (dvs : List V) (E : XK) (ta : TE) (t : TA) : TE := fun σ H Q => ta σ H fun x H1 => ∃ a dx fs, x = .ref a ∧ H1 a = some (.ins C dx fs) ∧ fs.lookup m = none ∧
  t σ H1 fun vs H2 => sp (x :: (vs ++ dvs)) H2 Q E
def tMake (C : Addr) (sp : Sp) (dvs : List V) (E : XK) (t : TA) : TE := fun σ H Q => t σ H fun vs H1 => ∀ x dx, H1 x = none → H1 dx = none → dx ≠ x →
  sp (.ref x :: (vs ++ dvs)) (upd (upd H1 dx (.own x)) x (.ins C dx [])) (fun v H2 => v = .non ∧ Q (.ref x) H2) E
def Binds (K : PySem.W.Frag) (fd : FuncData) (ps : List Str) (ds : List Value) : Prop :=
  ∀ (s : Shared) (us : List Value), K.In s.heap → (us ++ ds).length = ps.length → BindsTo s fd ⟨us, []⟩ (ps.zip (us ++ ds))
theorem Binds.all {K : PySem.W.Frag} {fd : FuncData} {ps : List Str} (h : ∀ us : List Value, us.length = ps.length → bindArgs fd ⟨us, []⟩ = pure (ps.zip us)) : Binds K fd ps [] := fun s us _ hl => by
  rw [List.append_nil] at hl ⊢
  exact .of_eq (h us hl)
def Passes (CX : CXT) (X : Cx) (E : XK) : Prop := ∀ (pins : List (Addr × Obj)) (σ : St) (H : Hp) (s : Shared) (e : Value) (s' : Shared), Inv X pins σ H s → CX X.stack H s E e s' → X.xe e s'
section
variable {X : Cx} {CX : CXT} {k : Nat} {f C : Addr} {fd : FuncData} {ps : List Str} {sp : Sp} {dvs : List V} {ds : List Value} {E : XK} {x m : Str} {p pos apos : Pos} {e o : Expr} {es : List Expr} {ta : TE} {t : TA}
theorem run_fn {pins : List (Addr × Obj)} {σ : St} {H : Hp} {s : Shared} {Q : VK} {us : List Value} {vs : List V} (F : FnOk X.prog X.w X.K X.mg X.base CX k f fd ps sp) (hr : Room k X.A) (hb : Binds X.K fd ps ds) (hd : Vals dvs ds) (hx : Passes CX X E)
    (I : Inv X pins σ H s) (r : Vals vs us) (h : sp (vs ++ dvs) H Q E) : wpAny (model X.prog X.w) X.A (call (.ref f) us) (EP X pins σ Q) X.xe s := by
  have r2 : Vals (vs ++ dvs) (us ++ ds) := r.append hd
  have hl : (us ++ ds).length = ps.length := by rw [← r2.length]; exact F.len _ _ _ _ h
  refine wpAny_call (codeAny_mono (F.run X.A X.stack s H ⟨us, []⟩ (us ++ ds) (vs ++ dvs) Q E hr I.env0 (hb s us I.kIn hl) r2 h) fun r s' hq => ?_)
  cases r with
  | error e => exact hx pins σ H s e s' I hq
  | ok fl =>
    cases fl with
    | ret u => exact I.after hq
    | next => exact False.elim hq
    | brk => exact False.elim hq
    | cont => exact False.elim hq
theorem pe_call (F : FnOk X.prog X.w X.K X.mg X.base CX k f fd ps sp) (hr : Room k X.A) (hg : Gl X x) (hm : X.mg x = some (.ref f)) (hk : PySem.W.keepIn X.K (.ref f) = true) (hb : Binds X.K fd ps ds) (hd : Vals dvs ds) (hx : Passes CX X E)
    (ha : PA X (e :: es) t) (hdb : (x == ("__debug__" : Str)) = false := by decide) (he : starEach (e :: es) X.env = (false, eval e X.env) :: starEach es X.env := by rfl) (hpl : (backTo pos (starEach es X.env)).any (·.1) = false := by rfl) :
    PE X (.Call (.Name x p) (e :: es) [] pos) (tCall sp dvs E t) := by
  intro pins s σ H Q I h
  refine wpAny_Call_Name_kw (ld_glob I hg hm ?_ hdb)
  refine PySem.W.callWith_K (h₀ := X.base) I.ok.mod.kin hk (thn (ha pos pins s σ H _ I h) fun us s1 ⟨vs, H1, I1, r, q⟩ => ⟨I1.kIn, ?_⟩) he hpl
  exact run_fn F hr hb hd hx I1 r q
theorem pe_meth {pl : Sem Bool} (he : PE X o ta) (c : Cls X.K C) (hm : Meth X.K C m f) (F : FnOk X.prog X.w X.K X.mg X.base CX k f fd ps sp) (hr : Room k X.A) (hb : Binds X.K fd ps ds) (hd : Vals dvs ds) (hx : Passes CX X E) (ha : PA X (e :: es) t)
    (hst : starEach (e :: es) X.env = (false, eval e X.env) :: starEach es X.env := by rfl) (hpl : (backTo pos (starEach es X.env)).any (·.1) = false := by rfl)
    (ht : eval (.Call (.Attribute o m apos) (e :: es) [] pos) X.env = (do
      let ov ← eval o X.env
      standAt apos.atName
      let (f, first) ← holding [ov] (getMethod ov m pl)
      callWith pos f first (backTo pos (starEach (e :: es) X.env)) (backToKw pos (keywordEach [] X.env))) := by rfl) :
    PE X (.Call (.Attribute o m apos) (e :: es) [] pos) (tMeth C m sp dvs E ta t) := by
  intro pins s σ H Q I h
  refine PySem.W.methodCall_KW (pl := pl) (thn (he pins s σ H _ I h) fun u s1 ⟨x, H1, I1, rx, a, dx, fs, ex, ea, l, q⟩ => ?_) ht
  subst ex
  obtain rfl : u = Value.ref a := rx
  refine getmeth_ok I1 ea c hm l ?_
  refine PySem.W.callWith_K (first := [.ref a]) (h₀ := X.base) I.ok.mod.kin hm.kp (thn (ha pos pins s1 σ H1 _ I1 q) fun us s2 ⟨vs, H2, I2, r, q2⟩ => ⟨I2.kIn, ?_⟩) hst hpl
  exact run_fn (us := .ref a :: us) (vs := .ref a :: vs) F hr hb hd hx I2 (.cons rfl r) q2
theorem pe_meth0 {pl : Sem Bool} (he : PE X o ta) (c : Cls X.K C) (hm : Meth X.K C m f) (F : FnOk X.prog X.w X.K X.mg X.base CX k f fd ps sp) (hr : Room k X.A) (hb : Binds X.K fd ps ds) (hd : Vals dvs ds) (hx : Passes CX X E)
    (ht : eval (.Call (.Attribute o m apos) [] [] pos) X.env = (do
      let ov ← eval o X.env
      standAt apos.atName
      let (f, first) ← holding [ov] (getMethod ov m pl)
      callWith pos f first (backTo pos (starEach [] X.env)) (backToKw pos (keywordEach [] X.env))) := by rfl) :
    PE X (.Call (.Attribute o m apos) [] [] pos) (tMeth C m sp dvs E ta tNil) := by
  intro pins s σ H Q I h
  refine PySem.W.methodCall_KW (pl := pl) (thn (he pins s σ H _ I h) fun u s1 ⟨x, H1, I1, rx, a, dx, fs, ex, ea, l, q⟩ => ?_) ht
  subst ex
  obtain rfl : u = Value.ref a := rx
  refine getmeth_ok I1 ea c hm l ?_
  exact PySem.W.callWith_K0 (first := [.ref a]) I1.kIn hm.kp (run_fn (us := [.ref a]) (vs := [.ref a]) F hr hb hd hx I1 (.cons rfl .nil) q)
structure Mk (K : PySem.W.Frag) (C f : Addr) : Prop where
  makes : PySem.W.makesIn K C = true
  init : PySem.W.findIn K (.ref C) "__init__" = some (some (.ref f))
  fn : PySem.W.isFn K (.ref f) = true
  kp : PySem.W.keepIn K (.ref C) = true
theorem run_make {pins : List (Addr × Obj)} {σ : St} {H : Hp} {s : Shared} {Q : VK} {us : List Value} {vs : List V} (M : Mk X.K C f) (F : FnOk X.prog X.w X.K X.mg X.base CX k f fd ps sp) (hr : Room (k + 1) X.A) (hb : Binds X.K fd ps ds) (hd : Vals dvs ds)
    (hx : Passes CX X E) (I : Inv X pins σ H s) (r : Vals vs us)
    (h : ∀ x dx, H x = none → H dx = none → dx ≠ x → sp (.ref x :: (vs ++ dvs)) (upd (upd H dx (.own x)) x (.ins C dx [])) (fun v H2 => v = .non ∧ Q (.ref x) H2) E) :
    wpAny (model X.prog X.w) X.A (call (.ref C) us) (EP X pins σ Q) X.xe s := by
  have hq := h (s.heap.objs.size + 1) s.heap.objs.size (I.hok.fresh (Nat.le_succ _)) (I.hok.fresh (Nat.le_refl _)) (Nat.ne_of_lt (Nat.lt_succ_self _))
  have I2 := Inv.made (C := C) I
  have r2 : Vals (V.ref (s.heap.objs.size + 1) :: (vs ++ dvs)) (Value.ref (s.heap.objs.size + 1) :: (us ++ ds)) := .cons rfl (r.append hd)
  have hl : (Value.ref (s.heap.objs.size + 1) :: us ++ ds).length = ps.length := by
    have e := r2.length
    rw [F.len _ _ _ _ hq] at e
    exact e.symm
  refine wpAny_call (make_map (f := f) I.kIn M.makes M.init (beq_iff_eq.mp M.fn) (codeAny_mono (F.run _ X.stack _ _ ⟨Value.ref (s.heap.objs.size + 1) :: us, []⟩ (Value.ref (s.heap.objs.size + 1) :: (us ++ ds)) _ _ E (hr.make C us [])
    (I2.env0.make C us []) (hb _ (Value.ref (s.heap.objs.size + 1) :: us) I2.kIn hl) r2 hq) fun r s' hq' => ?_))
  cases r with
  | error e => exact hx pins σ _ _ e s' I2 hq'
  | ok fl =>
    cases fl with
    | ret u =>
      obtain ⟨v, H', I3, rv, ev, q3⟩ := I2.after hq'
      subst ev
      exact ⟨rv, ⟨V.ref (s.heap.objs.size + 1), H', I3, rfl, q3⟩⟩
    | next => exact False.elim hq'
    | brk => exact False.elim hq'
    | cont => exact False.elim hq'
theorem pe_make0 (M : Mk X.K C f) (F : FnOk X.prog X.w X.K X.mg X.base CX k f fd ps sp) (hr : Room (k + 1) X.A) (hg : Gl X x) (hm : X.mg x = some (.ref C)) (hb : Binds X.K fd ps ds) (hd : Vals dvs ds) (hx : Passes CX X E)
    (hdb : (x == ("__debug__" : Str)) = false := by decide) : PE X (.Call (.Name x p) [] [] pos) (tMake C sp dvs E tNil) := by
  intro pins s σ H Q I h
  refine wpAny_Call_Name_kw (ld_glob I hg hm ?_ hdb)
  exact PySem.W.callWith_K0 I.kIn M.kp (run_make (us := []) M F hr hb hd hx I .nil h)
end
section
variable {X : Cx} {CX : CXT} {k : Nat} {f C : Addr} {fd : FuncData} {ps ks : List Str} {sp : Sp} {E : XK} {x m : Str} {p pos apos kpos : Pos} {e o : Expr} {es : List Expr} {kws : List Keyword} {te ta : TE} {t tk : TA} {nm : Option Str}
structure KBinds (K : PySem.W.Frag) (fd : FuncData) (ps ks : List Str) (g : List Value → List Value → List Value) (gV : List V → List V → List V) : Prop where
  to : ∀ (s : Shared) (us ws : List Value), K.In s.heap → (g us ws).length = ps.length → BindsTo s fd ⟨us, ks.zip ws⟩ (ps.zip (g us ws))
  rel : ∀ {vs : List V} {us : List Value} {zs : List V} {ws : List Value}, Vals vs us → Vals zs ws → Vals (gV vs zs) (g us ws)
variable {g : List Value → List Value → List Value} {gV : List V → List V → List V}
end
structure FnScope (N P : List Str) (sc : Scope) : Prop where
  kind : sc.kind = .function
  co : sc.isCoroutine = false
  gen : sc.isGenerator = false
  nd : N.Nodup
  pre : N.take P.length = P
  par : ∀ x ∈ P, sc.names.lookup x = some .local ∨ sc.names.lookup x = some .cell
  nofree : ∀ y ∈ sc.names, y.2 ≠ .free
theorem bindL_out {kindOf : Str → Option NameKind} {x : Str} : ∀ {binds : List (Str × Value)} {m : Str → Option Value}, (∀ v, (x, v) ∉ binds) → bindL kindOf binds m x = m x
  | [], _, _ => rfl
  | (n, v) :: r, m, h => by
    unfold bindL
    rw [bindL_out fun w hw => h w (List.mem_cons_of_mem _ hw)]
    split
    · have : x ≠ n := by rintro rfl; exact h v List.mem_cons_self
      simp [this]
    · rfl
theorem bindC_out {kindOf : Str → Option NameKind} {x : Str} : ∀ {binds : List (Str × Value)} {m : Str → Option Value}, (∀ v, (x, v) ∉ binds) → bindC kindOf binds m x = m x
  | [], _, _ => rfl
  | (n, v) :: r, m, h => by
    unfold bindC
    rw [bindC_out fun w hw => h w (List.mem_cons_of_mem _ hw)]
    split
    · rfl
    · have : x ≠ n := by rintro rfl; exact h v List.mem_cons_self
      simp [this]
theorem bindL_get {kindOf : Str → Option NameKind} {x : Str} {v : Value} : ∀ {P : List Str} {vs : List Value} {i : Nat} {m : Str → Option Value}, P.Nodup → P[i]? = some x → vs[i]? = some v → kindOf x = some .local →
    bindL kindOf (P.zip vs) m x = some v
  | [], _, _, _, _, h, _, _ => by simp at h
  | _ :: _, [], _, _, _, _, h, _ => by simp at h
  | p :: P, w :: vs, 0, m, nd, h1, h2, hk => by
    simp at h1 h2; subst h1; subst h2
    show bindL kindOf ((p, w) :: P.zip vs) m p = _
    unfold bindL
    rw [bindL_out fun v hv => (List.nodup_cons.mp nd).1 (List.of_mem_zip hv).1, if_pos hk]
    simp
  | p :: P, w :: vs, i + 1, m, nd, h1, h2, hk => by
    show bindL kindOf ((p, w) :: P.zip vs) m x = _
    unfold bindL
    exact bindL_get (i := i) (List.nodup_cons.mp nd).2 (by simpa using h1) (by simpa using h2) hk
theorem bindC_get {kindOf : Str → Option NameKind} {x : Str} {v : Value} : ∀ {P : List Str} {vs : List Value} {i : Nat} {m : Str → Option Value}, P.Nodup → P[i]? = some x → vs[i]? = some v → kindOf x ≠ some .local →
    bindC kindOf (P.zip vs) m x = some v
  | [], _, _, _, _, h, _, _ => by simp at h
  | _ :: _, [], _, _, _, _, h, _ => by simp at h
  | p :: P, w :: vs, 0, m, nd, h1, h2, hk => by
    simp at h1 h2; subst h1; subst h2
    show bindC kindOf ((p, w) :: P.zip vs) m p = _
    unfold bindC
    rw [bindC_out fun v hv => (List.nodup_cons.mp nd).1 (List.of_mem_zip hv).1, if_neg hk]
    simp
  | p :: P, w :: vs, i + 1, m, nd, h1, h2, hk => by
    show bindC kindOf ((p, w) :: P.zip vs) m x = _
    unfold bindC
    exact bindC_get (i := i) (List.nodup_cons.mp nd).2 (by simpa using h1) (by simpa using h2) hk
def start (N : List Str) (vs : List V) : St := vs.map some ++ List.replicate (N.length - vs.length) none
def cxOf (CX : CXT) (P : Program) (w : World) (K : PySem.W.Frag) (mg : Str → Option Value) (base : Heap) (N : List Str) (qual : Str) (scope : Scope) (f : Addr) (cd : Value) (A : Around) (outer : List Env) (s : Shared) (H : Hp) (E : XK) : Cx where
  prog := P
  w := w
  K := K
  mg := mg
  base := base
  A := A.deeper (envOfC qual scope s.heap.objs.size f cd)
  N := N
  s_0 := s
  H_0 := H
  env := envOfC qual scope s.heap.objs.size f cd
  outer := outer
  stack := envOfC qual scope s.heap.objs.size f cd :: outer
  ex := []
  calm := true
  fn := fun _ => true
  pn := []
  xe := fun e s' => wpAny (model P w) (A.deeper (envOfC qual scope s.heap.objs.size f cd)) (leaving (envOfC qual scope s.heap.objs.size f cd) e) (fun _ s'' => CX outer H s E e s'') (fun e' s'' => CX outer H s E e' s'') s'
theorem cell_has {sc : Scope} {n : Nat} {x : Str} (h : sc.names.lookup x = some .cell) : ∃ c, (cellsFrom n sc.names []).lookup x = some c := by
  have q := PySem.W.cellsFrom_some sc.names n [] (.inl h)
  exact Option.isSome_iff_exists.mp q
theorem inv_start {CX : CXT} {P : Program} {w : World} {K : PySem.W.Frag} {mg : Str → Option Value} {base : Heap} {N ps : List Str} {qual : Str} {scope : Scope} {f : Addr} {cd : Value} {A : Around} {outer : List Env} {s s1 : Shared} {H : Hp} {E : XK} {us : List Value} {vs : List V}
    (S : FnScope N ps scope) (hd : A.handled = none) (e0 : Env0 P w K mg base A outer s H) (hl : vs.length = ps.length) (r : Vals vs us)
    (x : InCallC s s.heap.objs.size (bindL (envOfC qual scope s.heap.objs.size f cd).kindOf (ps.zip us) fun _ => none) (cellsFrom (s.heap.objs.size + 1) scope.names []) (bindC (envOfC qual scope s.heap.objs.size f cd).kindOf (ps.zip us) fun _ => none) s1) :
    Inv (cxOf CX P w K mg base N qual scope f cd A outer s H E) [] (start N vs) H s1 := by
  have hpl : ps.length ≤ N.length := by have := congrArg List.length S.pre; rw [List.length_take] at this; omega
  obtain ⟨h1, tk, rfl, hk⟩ := x.done
  have noA : ∀ b : Addr, b ∉ (cxOf CX P w K mg base N qual scope f cd A outer s H E).ex := fun b z => absurd (show b ∈ ([] : List Addr) from z) (by simp)
  refine ⟨⟨e0.mod, S.kind, rfl, rfl, Nat.le_refl _, fun y z c h1 h2 => ?_, fun y hy => ?_, fun y c _ h => ?_, fun _ => hd, Around.frames_deeper e0.frames, .inr ⟨rfl, rfl⟩, fun b z => absurd z (noA b), e0.bs, e0.bsz, fun b _ _ => noA b, fun b z => absurd z (noA b), e0.funs, e0.frf⟩,
    rfl, e0.bare, Un.kept hk, ⟨_, x.toInCall.ns, fun i y v h1 h2 h3 => ?_⟩, fun y c h => ⟨_, x.cell y c h⟩, e0.hok.fresh (Nat.le_refl _), fun y c h => ?_, fun p hp => absurd (show p ∈ ([] : List (Addr × Obj)) from hp) (by simp), e0.hok.kept hk, ?_⟩
  · exact name_of_addr x.apart (PySem.mem_of_lookup h1) (PySem.mem_of_lookup h2)
  · have hy : scope.names.lookup y = some .cell ∨ scope.names.lookup y = some .free := hy
    rcases hy with hy | hy
    · exact cell_has hy
    · exact absurd rfl (S.nofree _ (PySem.mem_of_lookup hy))
  · exact Nat.le_of_lt (x.above y c (PySem.mem_of_lookup h))
  · have hi : i < vs.length := by
      unfold start at h2
      by_cases hi : i < vs.length
      · exact hi
      · rw [List.getElem?_append_right (by simpa using hi)] at h2
        rw [List.getElem?_replicate] at h2
        split at h2 <;> cases h2
    have ha : vs[i]? = some v := by
      unfold start at h2
      rw [List.getElem?_append_left (by simpa using hi), List.getElem?_map] at h2
      cases e : vs[i]? with
      | none => rw [e] at h2; cases h2
      | some a => rw [e] at h2; cases h2; rfl
    obtain ⟨u, hu, rv⟩ := r.get ha
    have hp : ps[i]? = some y := by
      rw [← S.pre, List.getElem?_take_of_lt (by omega)]; exact h1
    have ndP : ps.Nodup := by rw [← S.pre]; exact S.nd.sublist (List.take_sublist _ _)
    refine ⟨u, rv, ?_⟩
    rcases S.par y (List.mem_of_getElem? hp) with k | k
    · exact .inl ⟨k, bindL_get ndP hp hu k⟩
    · obtain ⟨c, e⟩ := cell_has (n := s.heap.objs.size + 1) k
      refine .inr ⟨.inl k, c, e, ?_⟩
      have q := x.cell y c e
      rw [bindC_get ndP hp hu (by show scope.names.lookup y ≠ _; rw [k]; decide)] at q
      exact q
  · exact e0.hok.fresh (Nat.le_of_lt (x.above y c (PySem.mem_of_lookup h)))
  · unfold start
    show _ = N.length
    rw [List.length_append, List.length_map, List.length_replicate]
    omega
theorem fn_of {CX : CXT} {P : Program} {w : World} {K : PySem.W.Frag} {mg : Str → Option Value} {base : Heap} {k : Nat} {f : Addr} {name qual : Str} {params : Arguments} {body : List Stmt} {scope : Scope} {dV kV doc pm cdv ct oc : Value} {an od : Option Addr}
    {osl : Array (Option Value)} {N ps : List Str} {sp : Sp} (lk : K.lookup f = some ⟨oc, od, .func (PySem.W.fnOf name qual params body scope dV kV doc pm an cdv ct), osl⟩) (hcd : PySem.W.codeIn K cdv qual = true) (S : FnScope N ps scope)
    (len : ∀ vs H Q E, sp vs H Q E → vs.length = ps.length)
    (hbody : ∀ (A : Around) (outer : List Env) (s : Shared) (H : Hp) (vs : List V) (Q : VK) (E : XK), Room k (A.deeper (envOfC qual scope s.heap.objs.size f cdv)) → sp vs H Q E →
      ∃ t, PSs (cxOf CX P w K mg base N qual scope f cdv A outer s H E) body t ∧ t { nx := fun _ H' => Q .non H', rt := Q } (start N vs) H) :
    FnOk P w K mg base CX (k + 1) f (PySem.W.fnOf name qual params body scope dV kV doc pm an cdv ct) ps sp := by
  refine ⟨len, fun A outer s H args us vs Q E hr e0 hb r hsp => ?_⟩
  have hl := len _ _ _ _ hsp
  have KX : K.In s.heap := e0.mod.kin.keeps fun b o e => (e0.bs b o e).1
  have lim : s.heap.NoLimit := e0.mod.nolimit.keeps fun b o e => (e0.bs b o e).1
  have hkind : ∀ y ∈ ps.zip us, scope.names.lookup y.1 = some .local ∨ (scope.names.lookup y.1 = some .cell ∧ ((cellsFrom (s.heap.objs.size + 1) scope.names []).lookup y.1).isSome = true) := fun ⟨n, v⟩ hy => by
    rcases S.par n (List.of_mem_zip hy).1 with q | q
    · exact .inl q
    · exact .inr ⟨q, PySem.W.cellsFrom_some _ _ _ (.inl q)⟩
  refine codeAny_call_function hr.depth (KX _ _ lk) rfl S.co S.gen rfl (PySem.W.codeRec_of KX hcd) (hb _ _ _ _ ?_)
  refine wpAny_newFunctionEnv_cells S.kind hkind fun env he s1 x => ?_
  subst he
  refine ⟨lim.keeps x.toInCall.keep, codeAny_func ?_⟩
  obtain ⟨t, ht, hq⟩ := hbody A outer s H vs Q E (hr.deeper _) hsp
  have I : Inv (cxOf CX P w K mg base N qual scope f cdv A outer s H E) [] (start N vs) H s1 := inv_start S hr.hd e0 hl r x
  refine wpAny_mono (ht [] s1 (start N vs) H _ I hq) (fun fl s' hs => ?_) fun e s' hs => hs
  have fin : ∀ {σ' : St} {H' : Hp} {v : V} {u : Value}, Inv (cxOf CX P w K mg base N qual scope f cdv A outer s H E) [] σ' H' s' → RelV v u → Q v H' → CE outer P w H s Q u s' :=
    fun {σ' H' v u} J rv q => ⟨v, H', J.os, J.bare, J.base, J.hok, rv, q⟩
  cases fl with
  | ret u =>
    obtain ⟨v, σ', H', J, rv, q⟩ := hs
    exact fin J rv q
  | next =>
    obtain ⟨σ', H', J, q⟩ := hs
    exact fin (v := V.non) (u := Value.none) J rfl q
  | brk =>
    obtain ⟨_, _, _, q⟩ := hs
    exact False.elim q
  | cont =>
    obtain ⟨_, _, _, q⟩ := hs
    exact False.elim q
end L2
namespace L2
open PySem PySem.Spec PyProof.Rows
section
variable {X : Cx} {x : Str} {p pos : Pos} {e : Expr} {es : List Expr} {t : TA} {id T : String} {r : List V → Hp → VK → Prop}
def tCB (r : List V → Hp → VK → Prop) (t : TA) : TE := fun σ H Q => t σ H fun vs H1 => r vs H1 Q
theorem pe_callB (hc : CallR X (.builtin id) r) (hg : Gl X x) (hm : X.mg x = none) (hv : bootBuiltins x = some (.builtin id)) (ha : PA X (e :: es) t) (hn : x ≠ "__name__" := by decide) (hdb : (x == ("__debug__" : Str)) = false := by decide)
    (he : starEach (e :: es) X.env = (false, eval e X.env) :: starEach es X.env := by rfl) (hpl : (backTo pos (starEach es X.env)).any (·.1) = false := by rfl) : PE X (.Call (.Name x p) (e :: es) [] pos) (tCB r t) := by
  intro pins s σ H Q I h
  refine wpAny_Call_Name_kw (ld_blt I hg hm hv ?_ hn hdb)
  exact PyProof.Rows.callWith_builtin1 (thn (ha pos pins s σ H _ I h) fun us s1 ⟨vs, H1, I1, r1, q1⟩ => hc pins s1 σ H1 vs us Q I1 r1 q1) he hpl
end
end L2
namespace HT
open PySem PyProof.Rows
section
open PySem.SeqAt
open PySem.AutoSeq1 (wpAny_loadPart')
open PySem.MeetsSeq PySem.MeetsSeq2 PySem.MeetsSeq3
end
section
variable {prog : Program} {w : World} {A : Around} {E : Value → Shared → Prop} {s : Shared}
def sIx (n d : Nat) : Option Int → Nat
  | none => d
  | some v => if v < 0 then (v + (n : Int)).toNat else min v.toNat n
theorem sIx_nat (n d k : Nat) : sIx n d (some (k : Int)) = min k n := by
  show (if (k : Int) < 0 then ((k : Int) + (n : Int)).toNat else min (k : Int).toNat n) = min k n
  rw [if_neg (by omega), Int.toNat_natCast]
end
end HT
namespace L2
open PySem PySem.Spec PyProof.Rows
abbrev TO := St → Hp → (Option Int → Hp → Prop) → Prop
def PO (X : Cx) (e : Option Expr) (t : TO) : Prop :=
  ∀ (pins : List (Addr × Obj)) (s : Shared) (σ : St) (H : Hp) (Q : Option Int → Hp → Prop), Inv X pins σ H s → t σ H Q →
    wpAny (model X.prog X.w) X.A (evalPart e X.env) (fun u s' => ∃ o H', Inv X pins σ H' s' ∧ IsPart u o ∧ Q o H') X.xe s
def tPart (t : TE) : TO := fun σ H Q => t σ H fun x H1 => ∃ i, x = .int i ∧ Q (some i) H1
section
variable {X : Cx} {e : Expr} {te : TE} {lo hi : Option Expr} {tl th : TO} {pos p2 : Pos}
theorem po_some (h : PE X e te) : PO X (some e) (tPart te) := by
  intro pins s σ H Q I hw
  rw [evalPart_some]
  refine thn (h pins s σ H _ I hw) fun u s1 ⟨x, H1, I1, r1, q1⟩ => ?_
  obtain ⟨i, rfl, q⟩ := q1
  obtain ⟨t, rfl⟩ := r1
  exact ⟨some i, H1, I1, .int i t, q⟩
def SlR (X : Cx) (r : V → Option Int → Option Int → Hp → VK → Prop) : Prop :=
  ∀ (pins : List (Addr × Obj)) (s : Shared) (σ : St) (H : Hp) (x : V) (v vl vu : Value) (lo hi : Option Int) (sl : Addr) (Q : VK), Inv X pins σ H s → RelV x v → s.heap.IsSliceOf sl vl vu .none → IsPart vl lo → IsPart vu hi → r x lo hi H Q →
    ∃ T id, typeLookup (.type T) "__getitem__" = pure (some (.builtin id)) ∧ s.TypeIs v T ∧ wpAny (model X.prog X.w) X.A (getItem v (.ref sl)) (EP X pins σ Q) X.xe s
def tSl (r : V → Option Int → Option Int → Hp → VK → Prop) (te : TE) (tl th : TO) : TE := fun σ H Q => te σ H fun x H1 => tl σ H1 fun l H2 => th σ H2 fun u H3 => r x l u H3 Q
theorem pe_slice {r : V → Option Int → Option Int → Hp → VK → Prop} (hr : SlR X r) (he : PE X e te) (hl : PO X lo tl) (hu : PO X hi th) : PE X (.Subscript e (.Slice lo hi none p2) pos) (tSl r te tl th) := by
  intro pins s σ H Q I h
  refine Subscript_ (thn (he pins s σ H _ I h) fun v s1 ⟨x, H1, I1, r1, q1⟩ => ?_)
  refine wpAny_Slice (thn (hl pins s1 σ H1 _ I1 q1) fun vl s2 ⟨l, H2, I2, pl, q2⟩ => thn (hu pins s2 σ H2 _ I2 q2) fun vu s3 ⟨u, H3, I3, pu, q3⟩ => ?_)
  rw [evalPart_none]
  refine wpAny_pure ?_
  have I4 : Inv X pins σ H3 { s3 with heap := s3.heap.push { cls := .type "slice", data := .fields #[vl, vu, .none] } } := I3.kept (t' := s3.toks) fun b ob q => Heap.get?_push_of_some _ q
  obtain ⟨T, id, hT, ht, hg⟩ := hr pins { s3 with heap := s3.heap.push { cls := .type "slice", data := .fields #[vl, vu, .none] } } σ H3 x v vl vu l u s3.heap.objs.size Q I4 r1 (Heap.IsSliceOf.new ..) pl pu q3
  show wpAny (model X.prog X.w) X.A (subscriptTail e (.Slice lo hi none p2) v (.ref s3.heap.objs.size)) (EP X pins σ Q) X.xe { s3 with heap := s3.heap.push { cls := .type "slice", data := .fields #[vl, vu, .none] } }
  exact tail_any (ops := [.ref s3.heap.objs.size, v]) ht hT hg (by with_unfolding_all rfl)
def cutV (xs : List V) (lo hi : Option Int) : List V := (xs.drop (HT.sIx xs.length 0 lo)).take (HT.sIx xs.length xs.length hi - HT.sIx xs.length 0 lo)
theorem cutV_length (xs : List V) (lo hi : Option Int) : (cutV xs lo hi).length ≤ xs.length := by
  unfold cutV
  rw [List.length_take, List.length_drop]
  omega
end
end L2
namespace L2
open PySem PySem.Spec PyProof.Rows
def ixN (n : Nat) (i : Int) : Option Nat := if 0 ≤ i then (if i < n then some i.toNat else none) else if -(n : Int) ≤ i then some (i + n).toNat else none
def atI {α : Type} (xs : List α) (i : Int) : Option α := (ixN xs.length i).bind fun j => xs[j]?
theorem ixN_seq {n : Nat} {i : Int} {j : Nat} (h : ixN n i = some j) : seqIndex? i n = some j ∧ j < n ∧ -(n : Int) ≤ i ∧ i < n := by
  unfold ixN at h
  by_cases h0 : 0 ≤ i
  · rw [if_pos h0] at h
    by_cases h1 : i < n
    · rw [if_pos h1] at h
      have e : i.toNat = j := Option.some.inj h
      exact ⟨by rw [seqIndex_of h0 h1, e], by omega, by omega, h1⟩
    · rw [if_neg h1] at h; cases h
  · rw [if_neg h0] at h
    by_cases h1 : -(n : Int) ≤ i
    · rw [if_pos h1] at h
      have e : (i + n).toNat = j := Option.some.inj h
      exact ⟨by rw [seqIndex_neg (by omega) h1, e], by omega, h1, by omega⟩
    · rw [if_neg h1] at h; cases h
theorem atI_get {α : Type} {xs : List α} {i : Int} {v : α} (h : atI xs i = some v) : ∃ j, seqIndex? i xs.length = some j ∧ xs[j]? = some v ∧ j < xs.length ∧ -(xs.length : Int) ≤ i ∧ i < xs.length := by
  unfold atI at h
  cases e : ixN xs.length i with
  | none => rw [e] at h; cases h
  | some j =>
    rw [e] at h
    obtain ⟨h1, h2, h3, h4⟩ := ixN_seq e
    exact ⟨j, h1, h, h2, h3, h4⟩
theorem atI_nat {α : Type} {xs : List α} {j : Nat} {v : α} (h : xs[j]? = some v) : atI xs (j : Int) = some v := by
  have hj : j < xs.length := (List.getElem?_eq_some_iff.mp h).1
  have e : ixN xs.length (j : Int) = some j := by
    unfold ixN
    rw [if_pos (by omega), if_pos (by omega)]; simp
  unfold atI; rw [e]; exact h
def PlainIx (b : Expr) : Prop := ∀ o i, subscripted b false o i = operate [o, i] (getItem o i)
def IxR (X : Cx) (r : R2) : Prop :=
  ∀ (value slice : Expr) (pins : List (Addr × Obj)) (s : Shared) (σ : St) (H : Hp) (x y : V) (v u : Value) (Q : VK), Inv X pins σ H s → RelV x v → RelV y u → r x y H Q →
    subscripted slice false v u = operate [v, u] (getItem v u) → wpAny (model X.prog X.w) X.A (subscriptTail value slice v u) (EP X pins σ Q) X.xe s
def MtR (X : Cx) (id : String) (r : V → List V → Hp → VK → Prop) : Prop :=
  ∀ (pins : List (Addr × Obj)) (s : Shared) (σ : St) (H : Hp) (x : V) (xs : List V) (v : Value) (us : List Value) (Q : VK), Inv X pins σ H s → RelV x v → Vals xs us → r x xs H Q →
    wpAny (model X.prog X.w) X.A (call (.builtin id) (v :: us)) (EP X pins σ Q) X.xe s
section
variable {X : Cx} {a b : Expr} {ta tb : TE} {pos : Pos}
theorem pe_ix {r : R2} (hr : IxR X r) (ha : PE X a ta) (hb : PE X b tb) (hs : PlainIx b) : PE X (.Subscript a b pos) (tOp r ta tb) := by
  intro pins s σ H Q I h
  exact Subscript_ (binT ha hb I h fun v u s2 x y H2 I2 rx ry q => hr a b pins s2 σ H2 x y v u Q I2 rx ry q (hs _ _))
def rIxL (K : PySem.W.Frag) : R2 := fun x y H Q => ∃ p xs i v, x = .ref p ∧ y = .int i ∧ SqL K H p xs ∧ atI xs i = some v ∧ Q v H
theorem ix_list : IxR X (rIxL X.K) := by
  intro value slice pins s σ H x y v u Q I rx ry h hs
  obtain ⟨p, xs, i, z, rfl, rfl, hq, he, q⟩ := h
  cases rx
  obtain ⟨t, rfl⟩ := ry
  obtain ⟨its, r, pl, hz⟩ := I.list hq
  obtain ⟨j, h1, h2, h3, h4, h5⟩ := atI_get he
  obtain ⟨w, ew, rw'⟩ := r.get h2
  have hl := r.length
  have hn := line63
  have fin : EP X pins σ Q w s := ⟨z, H, I, rw', q⟩
  by_cases h0 : 0 ≤ i
  · have hj : i.toNat = j := by
      rw [seqIndex_of h0 h5] at h1
      exact Option.some.inj h1
    exact item_listR pl.isList h0 (by omega) (by rw [hj]; simpa using ew) fin hs
  · have hj : (i + (its.toArray.size : Int)).toNat = j := by
      rw [seqIndex_neg (by omega) h4] at h1
      rw [List.size_toArray, ← hl]
      exact Option.some.inj h1
    exact subscriptTail_builtinR (x := w) pl.isList.typeIs slot_list_getitem.lookup
      (wpAny_getItem_list_neg (Q := fun r s' => r = w ∧ EP X pins σ Q r s') pl.isList (by omega) (by rw [List.size_toArray] <;> omega) (by omega) (by rw [hj]; simpa using ew) ⟨rfl, fin⟩) hs
theorem mapSeq_set (its : List Value) (n j : Nat) (u : Value) : Obj.mapSeq (·.setIfInBounds j u) { cls := .type "list", data := .seq its.toArray n } = { cls := .type "list", data := .seq (its.set j u).toArray n } := by
  simp [Obj.mapSeq]
theorem Inv.lst {pins : List (Addr × Obj)} {σ : St} {H : Hp} {s : Shared} {p : Addr} {xs : List V} (I : Inv X pins σ H s) (h : H p = some (.lst xs)) :
    ∃ (its : List Value) (n : Nat), Vals xs its ∧ s.heap.get? p = some { cls := .type "list", data := .seq its.toArray n } ∧ xs.length ≤ sizeLine := by
  obtain ⟨z, its, n, r, e⟩ := I.hok p _ h
  exact ⟨its, n, r, e, z⟩
theorem Inv.lstUpd {pins : List (Addr × Obj)} {σ : St} {H : Hp} {s : Shared} {p : Addr} {xs ys : List V} {its its' : List Value} {n n' : Nat} {f : Obj → Obj} (I : Inv X pins σ H s) (h : H p = some (.lst xs))
    (ho : s.heap.get? p = some { cls := .type "list", data := .seq its.toArray n }) (hf : f { cls := .type "list", data := .seq its.toArray n } = { cls := .type "list", data := .seq its'.toArray n' }) (r : Vals ys its') (hz : ys.length ≤ sizeLine) (t : Nat) :
    Inv X pins σ (upd H p (.lst ys)) { s with heap := s.heap.update p f, toks := t } := by
  have e : (s.heap.update p f).get? p = some { cls := .type "list", data := .seq its'.toArray n' } := by
    rw [Heap.get?_update_self f ho (by rw [hf] <;> rfl), hf]
  refine I.write (x := p) (e := p) (by rw [h]; trivial) (.inl rfl) (fun b u hb q => (Heap.get?_update_other _ _ (Ne.symm hb)).trans q) ⟨_, e⟩ ?_
  exact ⟨hz, its', n', r, e⟩
def rSetL : V → V → V → Hp → (Hp → Prop) → Prop := fun o i v H Q => ∃ p xs k j, o = .ref p ∧ i = .int k ∧ H p = some (.lst xs) ∧ ixN xs.length k = some j ∧ Q (upd H p (.lst (xs.set j v)))
theorem set_list : PSet X rSetL := by
  intro pins s σ H o i v ov iv u Q I ro ri rv h
  obtain ⟨p, xs, k, j, rfl, rfl, hp, hj, q⟩ := h
  cases ro
  obtain ⟨t, rfl⟩ := ri
  obtain ⟨its, n, r, ho, hz⟩ := I.lst hp
  obtain ⟨h1, h2, h3, h4⟩ := ixN_seq hj
  have hl := r.length
  have hn := line63
  have I' : Inv X pins σ (upd H p (.lst (xs.set j v))) { s with heap := s.heap.update p (Obj.mapSeq (·.setIfInBounds j u)) } :=
    I.lstUpd hp ho (mapSeq_set its n j u) (r.set rv j) (by rw [List.length_set]; exact hz) s.toks
  by_cases h0 : 0 ≤ k
  · have hk : k.toNat = j := by
      rw [seqIndex_of h0 h4] at h1
      exact Option.some.inj h1
    exact PySem.W.ki_setAt ho h0 (by omega) (by rw [List.size_toArray, ← hl]; exact h4) (by rw [hk]; exact ⟨_, I', q⟩)
  · have hk : (k + (its.toArray.size : Int)).toNat = j := by
      rw [seqIndex_neg (by omega) h3] at h1
      rw [List.size_toArray, ← hl]
      exact Option.some.inj h1
    exact PySem.W.ki_setBack ho (by omega) (by rw [List.size_toArray, ← hl]; exact h3) (by omega) (by rw [hk]; exact ⟨_, I', q⟩)
theorem slice_bounds (lo hi : Option Int) (n : Nat) : (sliceBounds lo hi none n).1 = ((HT.sIx n 0 lo : Nat) : Int) ∧ (sliceBounds lo hi none n).2.1 = ((HT.sIx n n hi : Nat) : Int) ∧ (sliceBounds lo hi none n).2.2 = 1 := by
  refine ⟨?_, ?_, rfl⟩
  · cases lo with
    | none => simp [sliceBounds, HT.sIx]
    | some i =>
      simp only [sliceBounds, HT.sIx, Option.getD_none, show (1 : Int) > 0 by decide, if_true]
      by_cases h : i < 0
      · simp only [h, if_true] <;> omega
      · simp only [h, if_false] <;> omega
  · cases hi with
    | none => simp [sliceBounds, HT.sIx]
    | some i =>
      simp only [sliceBounds, HT.sIx, Option.getD_none, show (1 : Int) > 0 by decide, if_true]
      by_cases h : i < 0
      · simp only [h, if_true] <;> omega
      · simp only [h, if_false] <;> omega
theorem slicePick_cut (its : List Value) (lo hi : Option Int) : slicePick its.toArray lo hi none = ((its.drop (HT.sIx its.length 0 lo)).take (HT.sIx its.length its.length hi - HT.sIx its.length 0 lo)).toArray := by
  obtain ⟨h1, h2, h3⟩ := slice_bounds lo hi its.toArray.size
  unfold slicePick
  rw [h1, h2, h3]
  simp only [sliceRange_one, pick_run, List.size_toArray] <;> rfl
def rSlL (K : PySem.W.Frag) : V → Option Int → Option Int → Hp → VK → Prop := fun x lo hi H Q => ∃ a xs, x = .ref a ∧ SqL K H a xs ∧ ∀ p, H p = none → Q (.ref p) (upd H p (.lst (cutV xs lo hi)))
theorem sl_list : SlR X (rSlL X.K) := by
  intro pins s σ H x v vl vu lo hi sl Q I rx hs pl pu h
  obtain ⟨a, xs, rfl, hx, q⟩ := h
  cases rx
  obtain ⟨its, r, ht, hz⟩ := I.list hx
  have hlen := r.length
  refine ⟨"list", _, slot_list_getitem.lookup, ht.isList.typeIs, ?_⟩
  refine wpAny_getItem_list_slice ht.isList hs pl pu .none (by simp) ?_ (by rw [List.size_toArray] <;> omega)
  rw [slicePick_cut, ← hlen]
  refine ⟨.ref s.heap.objs.size, _, I.laid (t' := s.toks) (o := .lst (cutV xs lo hi)) (fun b ob q => Heap.get?_push_of_some _ q) (Nat.le_refl _) ?_, rfl, q _ (I.hok.fresh (Nat.le_refl _))⟩
  exact ⟨Nat.le_trans (cutV_length xs lo hi) hz, _, 0, (r.drop (HT.sIx xs.length 0 lo)).take (HT.sIx xs.length xs.length hi - HT.sIx xs.length 0 lo), Heap.get?_push_size _ rfl⟩
def flatV : V → Bool
  | .non => true
  | .bl _ => true
  | .int _ => true
  | .str _ => true
  | _ => false
def eqV : V → V → Bool
  | .non, .non => true
  | .bl a, .bl b => a == b
  | .bl a, .int b => (if a then 1 else 0) == b
  | .int a, .bl b => a == (if b then 1 else 0)
  | .int a, .int b => a == b
  | .str a, .str b => a == b
  | _, _ => false
theorem eqAt_V {A : Around} {s : Shared} {y x : V} {u v : Value} (ry : RelV y u) (rx : RelV x v) (fy : flatV y = true) (fx : flatV x = true) : SeqAt.EqAt A s u v (eqV y x) := by
  cases y with
  | non =>
    cases ry
    cases x with
    | non => cases rx; exact SeqAt.EqAt.same _
    | bl b => cases rx; exact SeqAt.EqAt.none_bool b
    | int b => obtain ⟨t, rfl⟩ := rx; exact SeqAt.EqAt.none_int b t
    | str b => obtain ⟨t, rfl⟩ := rx; exact SeqAt.EqAt.none_str b t
    | _ => exact absurd (show false = true from fx) Bool.false_ne_true
  | bl a =>
    cases ry
    cases x with
    | non => cases rx; exact SeqAt.EqAt.bool_none a
    | bl b => cases rx; exact SeqAt.EqAt.bool_bool a b
    | int b => obtain ⟨t, rfl⟩ := rx; exact SeqAt.EqAt.bool_int a b t
    | str b => obtain ⟨t, rfl⟩ := rx; exact SeqAt.EqAt.bool_str a b t
    | _ => exact absurd (show false = true from fx) Bool.false_ne_true
  | int a =>
    obtain ⟨t', rfl⟩ := ry
    cases x with
    | non => cases rx; exact SeqAt.EqAt.int_none a t'
    | bl b => cases rx; exact SeqAt.EqAt.int_bool a t' b
    | int b => obtain ⟨t, rfl⟩ := rx; exact SeqAt.EqAt.int_int a t' b t
    | str b => obtain ⟨t, rfl⟩ := rx; exact SeqAt.EqAt.int_str a t' b t
    | _ => exact absurd (show false = true from fx) Bool.false_ne_true
  | str a =>
    obtain ⟨t', rfl⟩ := ry
    cases x with
    | non => cases rx; exact SeqAt.EqAt.str_none a t'
    | bl b => cases rx; exact SeqAt.EqAt.str_bool a t' b
    | int b => obtain ⟨t, rfl⟩ := rx; exact SeqAt.EqAt.str_int a t' b t
    | str b => obtain ⟨t, rfl⟩ := rx; exact SeqAt.EqAt.str_str a t' b t
    | _ => exact absurd (show false = true from fx) Bool.false_ne_true
  | _ => exact absurd (show false = true from fy) Bool.false_ne_true
def eqU (x : V) (u : Value) : Bool := match u with
  | .none => eqV .non x
  | .bool b => eqV (.bl b) x
  | .int i _ => eqV (.int i) x
  | .str z _ => eqV (.str z) x
  | _ => false
theorem eqU_of {x y : V} {u : Value} (r : RelV y u) (f : flatV y = true) : eqU x u = eqV y x := by
  cases y with
  | non => cases r; rfl
  | bl b => cases r; rfl
  | int i => obtain ⟨t, rfl⟩ := r; rfl
  | str z => obtain ⟨t, rfl⟩ := r; rfl
  | _ => exact absurd (show false = true from f) Bool.false_ne_true
theorem any_eqU {x : V} : ∀ {xs : List V} {us : List Value}, Vals xs us → xs.all flatV = true → us.any (eqU x) = xs.any fun y => eqV y x
  | _, _, .nil, _ => rfl
  | y :: xs, u :: us, .cons r t, f => by
    rw [List.all_cons, Bool.and_eq_true] at f
    rw [List.any_cons, List.any_cons, eqU_of r f.1, any_eqU t f.2]
theorem mem_eqAt {A : Around} {s : Shared} {x : V} {v : Value} (rx : RelV x v) (fx : flatV x = true) : ∀ {xs : List V} {us : List Value}, Vals xs us → xs.all flatV = true → ∀ u ∈ us, SeqAt.EqAt A s u v (eqU x u)
  | _, _, .nil, _ => fun u hu => by cases hu
  | y :: xs, u :: us, .cons r t, f => fun u' hu => by
    rw [List.all_cons, Bool.and_eq_true] at f
    rcases List.mem_cons.mp hu with rfl | hu
    · rw [eqU_of r f.1]; exact eqAt_V r rx f.1 fx
    · exact mem_eqAt rx fx t f.2 u' hu
def inV (x : V) (xs : List V) : Bool := xs.any fun y => eqV y x
def rIn (K : PySem.W.Frag) (neg : Bool) : R2 := fun x y H Q => ∃ p xs, y = .ref p ∧ (SqL K H p xs ∨ SqT K H p xs) ∧ flatV x = true ∧ xs.all flatV = true ∧ Q (.bl (if neg then !inV x xs else inV x xs)) H
theorem op_notIn_seq : OpR X (compareOp .NotIn) (rIn X.K true) := by
  intro pins s σ H x y v u Q I rx ry h
  obtain ⟨p, xs, rfl, hq, fx, fs, q⟩ := h
  cases ry
  rcases hq with hq | hq
  · obtain ⟨its, r, pl, hz⟩ := I.list hq
    refine SeqAt.notIn_listAt (eqU x) pl.isList (fun w hw => mem_eqAt rx fx r fs w (by simpa using hw)) ⟨.bl _, H, I, rfl, ?_⟩
    rw [show its.toArray.any (eqU x) = its.any (eqU x) by simp, any_eqU r fs]
    exact q
  · obtain ⟨its, r, pl, hz⟩ := I.tuple hq
    refine SeqAt.notIn_tupleAt (eqU x) pl (fun w hw => mem_eqAt rx fx r fs w (by simpa using hw)) ⟨.bl _, H, I, rfl, ?_⟩
    rw [show its.toArray.any (eqU x) = its.any (eqU x) by simp, any_eqU r fs]
    exact q
theorem call_len_seq : CallR X (.builtin "len") (fun xs H Q => ∃ p ys, xs = [.ref p] ∧ (SqL X.K H p ys ∨ SqT X.K H p ys) ∧ Q (.int ys.length) H) := by
  intro pins s σ H xs us Q I r h
  obtain ⟨p, ys, rfl, hq, q⟩ := h
  obtain ⟨u, rfl, rx⟩ := vals1 r
  cases rx
  have hn := line63
  rcases hq with hq | hq
  · obtain ⟨its, r', pl, hz⟩ := I.list hq
    have hlen := r'.length
    exact Calls.call_len_list pl.isList (by simp only [List.size_toArray] <;> omega) ⟨.int ys.length, H, I.tok _, ⟨s.toks + 1, by rw [List.size_toArray, hlen]⟩, q⟩
  · obtain ⟨its, r', pl, hz⟩ := I.tuple hq
    have hlen := r'.length
    exact len_tuple pl (by simp only [List.size_toArray] <;> omega) ⟨.int ys.length, H, I.tok _, ⟨s.toks + 1, by rw [List.size_toArray, hlen]⟩, q⟩
def tyV (K : PySem.W.Frag) (T : String) (x : V) (H : Hp) : Prop := match x with
  | .str _ => T = "str"
  | .int _ => T = "int"
  | .ref p => (T = "list" ∧ ∃ xs, SqL K H p xs) ∨ (T = "tuple" ∧ ∃ o, K.lookup p = some o ∧ o.cls = .type "tuple" ∧ o.dict = none) ∨
      (T = "dict" ∧ ((∃ kvs, H p = some (.dK kvs)) ∨ ∃ kvs, H p = some (.dT kvs))) ∨ (T = "set" ∧ ∃ S n, H p = some (.set S n))
  | _ => False
theorem tyV_is {pins : List (Addr × Obj)} {σ : St} {H : Hp} {s : Shared} {T : String} {x : V} {v : Value} (I : Inv X pins σ H s) (r : RelV x v) (ty : tyV X.K T x H) :
    s.TypeIs v T ∧ ∀ a, v = .ref a → ∃ ob, s.heap.get? a = some ob ∧ ob.dict = none := by
  cases x with
  | str z =>
    obtain ⟨t, rfl⟩ := r
    cases (show T = "str" from ty)
    exact ⟨typeIs_str s z t, fun _ e => nomatch e⟩
  | int i =>
    obtain ⟨t, rfl⟩ := r
    cases (show T = "int" from ty)
    exact ⟨typeIs_int s i t, fun _ e => nomatch e⟩
  | ref p =>
    cases r
    rcases ty with ⟨rfl, xs, hq⟩ | ⟨rfl, o, hk, hc, hd⟩ | ⟨rfl, hk⟩ | ⟨rfl, S, n, hk⟩
    · obtain ⟨its, _, pl, _⟩ := I.list hq
      refine ⟨pl.isList.typeIs, fun a e => ?_⟩
      cases e
      obtain ⟨o, n, e, c, hd, _⟩ := pl
      exact ⟨o, e, hd⟩
    · refine ⟨⟨o, I.kIn p o hk, hc⟩, fun a e => ?_⟩
      cases e
      exact ⟨o, I.kIn _ o hk, hd⟩
    · have z : ∃ o, s.heap.get? p = some o ∧ o.ExactDict := by
        rcases hk with ⟨kvs, hk⟩ | ⟨kvs, hk⟩
        · obtain ⟨_, _, _, _, o, _, _, e, ex, _⟩ := I.hok p _ hk
          exact ⟨o, e, ex⟩
        · obtain ⟨_, _, _, _, o, _, _, e, ex, _⟩ := I.hok p _ hk
          exact ⟨o, e, ex⟩
      obtain ⟨o, e, ex⟩ := z
      refine ⟨⟨o, e, ex.1⟩, fun a e2 => ?_⟩
      cases e2
      exact ⟨o, e, ex.2.1⟩
    · obtain ⟨o, _, _, _, e, ex, _⟩ := I.hok p _ hk
      refine ⟨⟨o, e, ex.1⟩, fun a e2 => ?_⟩
      cases e2
      exact ⟨o, e, ex.2.1⟩
  | _ => exact False.elim ty
def tBM (K : PySem.W.Frag) (T : String) (r : V → List V → Hp → VK → Prop) (to : TE) (t : TA) : TE := fun σ H Q => to σ H fun x H1 => tyV K T x H1 ∧ t σ H1 fun xs H2 => r x xs H2 Q
variable {o e : Expr} {es : List Expr} {to : TE} {t : TA} {name : Str} {apos cpos : Pos} {T id : String} {r : V → List V → Hp → VK → Prop}
theorem pe_bm (pa : PlainAttrs T) (slot : Slot T name id) (hty : typeOf (.builtin id) = pure (.type "method_descriptor")) (hm : MtR X id r) (ho : PE X o to) (ha : PA X (e :: es) t)
    (hbase : attributeBase o name X.env (eval o X.env) = eval o X.env := by rfl)
    (hfew : ((backTo cpos (starEach (e :: es) X.env)).all (fun x => !x.1) && (backToKw cpos (keywordEach [] X.env)).all (fun x => x.1.isSome)
      && decide ((e :: es).length + ([] : List Keyword).length + (if ([] : List Keyword).isEmpty then 0 else 1) < 30)) = true := by rfl)
    (hline : (apos.endLine == cpos.line) = true := by rfl) (hs : starEach (e :: es) X.env = (false, eval e X.env) :: starEach es X.env := by rfl) (hplain : (backTo cpos (starEach es X.env)).any (·.1) = false := by rfl) :
    PE X (.Call (.Attribute o name apos) (e :: es) [] cpos) (tBM X.K T r to t) := by
  intro pins s σ H Q I h
  refine wpAny_Call_method_late hbase hfew hline rfl (thn (ho pins s σ H _ I h) fun v s1 ⟨x, H1, I1, r1, ty, q1⟩ => ?_)
  obtain ⟨h1, h2⟩ := tyV_is I1 r1 ty
  refine ⟨T, id, pa, slot, hty, h1, h2, ?_⟩
  have hA := ha cpos pins s1 σ H1 _ I1 q1
  rw [hs] at hA ⊢
  refine Calls.callWith_builtin (by show (false || (backTo cpos (starEach es X.env)).any (·.1)) = false; rw [hplain] <;> rfl) (Calls.evalArgs_plain ?_)
  exact thn hA fun us s2 ⟨vs, H2, I2, r2, q2⟩ => hm pins s2 σ H2 x vs v us Q I2 r1 r2 q2
end
end L2
namespace L2
open PySem PySem.Spec PyProof.Rows
def MtM (X : Cx) (id : String) (r : V → List V → Hp → VK → Prop) : Prop :=
  ∀ (pins : List (Addr × Obj)) (s : Shared) (σ : St) (H : Hp) (x : V) (xs : List V) (v : Value) (us : List Value) (Q : VK), Inv X pins σ H s → RelV x v → Vals xs us → r x xs H Q →
    wpAny (model X.prog X.w) X.A (call (.builtin id) (v :: us)) (EP X pins σ Q) X.xe s
theorem Vals.one : ∀ {x : V} {us : List Value}, Vals [x] us → ∃ u, us = [u] ∧ RelV x u
  | _, _, .cons r .nil => ⟨_, rfl, r⟩
theorem Vals.rep {xs : List V} {us : List Value} (h : Vals xs us) : ∀ k : Nat, Vals (List.replicate k xs).flatten (List.replicate k us).flatten
  | 0 => .nil
  | k + 1 => by
    rw [List.replicate_succ, List.replicate_succ, List.flatten_cons, List.flatten_cons]
    exact Vals.append h (Vals.rep h k)
theorem foldl_rep (its : List Value) : ∀ (k : Nat) (acc : List Value),
    List.foldl (fun x1 x2 => x1 ++ x2) acc.toArray (List.replicate k its.toArray) = (acc ++ (List.replicate k its).flatten).toArray
  | 0, acc => by simp
  | k + 1, acc => by
    have e : acc.toArray ++ its.toArray = (acc ++ its).toArray := by simp
    have e2 : (acc ++ its) ++ (List.replicate k its).flatten = acc ++ (List.replicate (k + 1) its).flatten := by
      rw [List.replicate_succ, List.flatten_cons, List.append_assoc]
    rw [← e2, ← foldl_rep its k (acc ++ its), ← e, List.replicate_succ, List.foldl_cons]
section
variable {X : Cx} {pins : List (Addr × Obj)} {σ : St} {H : Hp} {s : Shared} {l b : Addr} {xs ys zs : List V}
theorem Inv.lset {its its' : List Value} {n : Nat} {f : Array Value → Array Value} {t' : Nat} (I : Inv X pins σ H s) (hH : H l = some (.lst xs))
    (e : s.heap.get? l = some { cls := .type "list", data := .seq its.toArray n }) (hf : f its.toArray = its'.toArray) (hv : Vals ys its') (hz : ys.length ≤ sizeLine) :
    Inv X pins σ (upd H l (.lst ys)) { s with heap := s.heap.update l (Obj.mapSeq f), toks := t' } := by
  have q := PySem.IsL.update e f
  rw [hf] at q
  refine I.write (x := l) (e := l) (by rw [hH]; exact trivial) (.inl rfl) (fun b' u hb hu => (Heap.get?_update_other s.heap (Obj.mapSeq f) (Ne.symm hb)).trans hu) ⟨_, q⟩ ?_
  exact ⟨hz, its', _, hv, q⟩
theorem Inv.lnew {its : List Value} {t' : Nat} (I : Inv X pins σ H s) (hv : Vals ys its) (hz : ys.length ≤ sizeLine) :
    Inv X pins σ (upd H s.heap.objs.size (.lst ys)) { s with heap := s.heap.push { cls := .type "list", data := .seq its.toArray }, toks := t' } :=
  I.laid (fun _ _ q => Heap.get?_push_of_some _ q) (Nat.le_refl _) ⟨hz, its, 0, hv, Heap.get?_push_size _ rfl⟩
theorem Inv.fresh (I : Inv X pins σ H s) : H s.heap.objs.size = none := I.hok.fresh (Nat.le_refl _)
theorem Inv.lstM (I : Inv X pins σ H s) (hH : H l = some (.lst xs)) : xs.length ≤ sizeLine ∧ ∃ (its : List Value) (n : Nat), Vals xs its ∧ xs.length = its.length ∧ s.heap.get? l = some { cls := .type "list", data := .seq its.toArray n } := by
  obtain ⟨z, its, n, r, e⟩ := I.hok l _ hH
  exact ⟨z, its, n, r, r.length, e⟩
theorem notLongL {n : Nat} (h : n ≤ sizeLine) : Builtin.List.listTooLong n = false := by
  unfold Builtin.List.listTooLong
  exact decide_eq_false (by omega)
end
section
variable {X : Cx}
def rAppend : V → List V → Hp → VK → Prop := fun x vs H Q => ∃ l xs y, x = .ref l ∧ vs = [y] ∧ H l = some (.lst xs) ∧ xs.length < sizeLine ∧ Q .non (upd H l (.lst (xs ++ [y])))
theorem mt_append : MtM X "list.append" rAppend := by
  intro pins s σ H x vs v us Q I rx rv h
  obtain ⟨l, xs, y, rfl, rfl, hH, hz, q⟩ := h
  cases rx
  obtain ⟨u, rfl, ru⟩ := rv.one
  obtain ⟨z, its, n, r, hl, e⟩ := I.lstM hH
  refine call_meets F.slot_list_append ⟨_, e, rfl⟩ F.entry_list_append (F.args_list_append_2 _ _) (PySem.list_append l its.toArray n u (by rw [List.size_toArray]; omega)) ⟨e, ?_⟩
  refine ⟨.non, _, I.lset (its' := its ++ [u]) hH e (by simp) (r.append (.cons ru .nil)) ?_, rfl, q⟩
  rw [List.length_append, List.length_singleton]
  omega
def rExtend : V → List V → Hp → VK → Prop := fun x vs H Q => ∃ l b xs zs, x = .ref l ∧ vs = [.ref b] ∧ H l = some (.lst xs) ∧ H b = some (.lst zs) ∧ xs.length + zs.length ≤ sizeLine ∧ Q .non (upd H l (.lst (xs ++ zs)))
theorem mt_extend : MtM X "list.extend" rExtend := by
  intro pins s σ H x vs v us Q I rx rv h
  obtain ⟨l, b, xs, zs, rfl, rfl, hH, hB, hz, q⟩ := h
  cases rx
  obtain ⟨u, rfl, ru⟩ := rv.one
  cases ru
  obtain ⟨z, its, n, r, hl, e⟩ := I.lstM hH
  obtain ⟨z2, its2, n2, r2, hl2, e2⟩ := I.lstM hB
  have hsz : its.toArray.size + its2.toArray.size ≤ sizeLine := by rw [List.size_toArray, List.size_toArray]; omega
  have hlong : ¬ (!its.toArray.isEmpty && Builtin.List.listTooLong (its.toArray.size + its2.toArray.size)) = true := by
    rw [notLongL hsz, Bool.and_false]
    exact Bool.false_ne_true
  refine call_meets F.slot_list_extend ⟨_, e, rfl⟩ F.entry_list_extend (F.args_list_extend_2 _ _)
    (AutoSeq1.list_extend_list_list_0 l its.toArray n b its2.toArray n2 hlong (by rw [List.size_toArray]; omega) (by omega)) ⟨e, e2, ?_⟩
  refine ⟨.non, _, I.lset (its' := its ++ its2) hH e (by simp) (r.append r2) ?_, rfl, q⟩
  rw [List.length_append]
  omega
def rCat : R2 := fun x y H Q => ∃ l b xs zs, x = .ref l ∧ y = .ref b ∧ H l = some (.lst xs) ∧ H b = some (.lst zs) ∧ xs.length + zs.length ≤ sizeLine ∧ ∀ p, H p = none → Q (.ref p) (upd H p (.lst (xs ++ zs)))
theorem op_cat : OpR X (binaryOp .Add) rCat := by
  intro pins s σ H x y v u Q I rx ry h
  obtain ⟨l, b, xs, zs, rfl, rfl, hH, hB, hz, q⟩ := h
  cases rx
  cases ry
  obtain ⟨z, its, n, r, hl, e⟩ := I.lstM hH
  obtain ⟨z2, its2, n2, r2, hl2, e2⟩ := I.lstM hB
  refine PySem.P.add_list e e2 ?_ (by rw [List.size_toArray, List.size_toArray]; omega)
  have ea : its.toArray ++ its2.toArray = (its ++ its2).toArray := by simp
  rw [ea]
  exact ⟨.ref _, _, I.lnew (t' := s.toks) (r.append r2) (by rw [List.length_append]; omega), rfl, q _ I.fresh⟩
def rRep : R2 := fun x y H Q => ∃ l k xs, x = .ref l ∧ y = .int k ∧ H l = some (.lst xs) ∧ -(2 ^ 63) ≤ k ∧ k < 2 ^ 63 ∧ xs.length * k.toNat ≤ sizeLine ∧
  ∀ p, H p = none → Q (.ref p) (upd H p (.lst (List.replicate k.toNat xs).flatten))
theorem len_rep {α : Type} (xs : List α) (k : Nat) : (List.replicate k xs).flatten.length = k * xs.length := by
  induction k with
  | zero => simp
  | succ k ih => rw [List.replicate_succ, List.flatten_cons, List.length_append, ih, Nat.succ_mul, Nat.add_comm]
theorem op_rep : OpR X (binaryOp .Mult) rRep := by
  intro pins s σ H x y v u Q I rx ry h
  obtain ⟨l, k, xs, rfl, rfl, hH, h1, h2, hz, q⟩ := h
  cases rx
  obtain ⟨t, rfl⟩ := ry
  obtain ⟨z, its, n, r, hl, e⟩ := I.lstM hH
  have hlen : its.toArray.size * k.toNat ≤ sizeLine := by rw [List.size_toArray, ← hl]; exact hz
  have hcap : ¬ its.toArray.size * k.toNat > (2 ^ 63 - 1) / 8 := by
    have : (sizeLine : Nat) ≤ (2 ^ 63 - 1) / 8 := by decide
    omega
  have hfit : ¬ (!Builtin.List.listFitsIndex k) = true := by
    rw [fitsIndex_both h1 h2]
    exact Bool.false_ne_true
  have hlong : ¬ Builtin.List.listTooLong (its.toArray.size * k.toNat) = true := by
    rw [notLongL hlen]
    exact Bool.false_ne_true
  have hnew : List.foldl (fun x1 x2 => x1 ++ x2) #[] (List.replicate (if its.toArray.isEmpty = true then 0 else k.toNat) its.toArray) = (List.replicate k.toNat its).flatten.toArray := by
    have f0 : ∀ m : Nat, List.foldl (fun x1 x2 => x1 ++ x2) #[] (List.replicate m its.toArray) = (List.replicate m its).flatten.toArray := fun m => by
      have := foldl_rep its m []
      rw [List.nil_append] at this
      exact this
    rw [f0]
    cases its with
    | nil => simp
    | cons a r' => rw [if_neg (by simp)]
  refine wpAny_binaryOp_repeat_ref (T := "list") (U := "int") (by decide) ⟨_, e, rfl⟩ (fun s' => typeIs_int s' k t) noFill_list_mul F.fills_int_mul F.slot_int_rmul repeat_list F.slot_int_index.lookup
    (call_meets F.slot_int_rmul (typeIs_int s k t) F.entry_int_rmul (F.args_int_rmul_2 _ _) (int___rmul___int_list k t l its.toArray n)
      ⟨e, rfl, ⟨_, e, rfl⟩, call_meets F.slot_list_mul ⟨_, e, rfl⟩ F.entry_list_mul (F.args_list_mul_2 _ _) (AutoListH.list___mul___list_int_3 l its.toArray n k t hfit hcap hlong) ⟨e, ?_⟩⟩)
  rw [hnew]
  exact ⟨.ref _, _, I.lnew (t' := s.toks) (r.rep k.toNat) (by rw [len_rep, Nat.mul_comm]; exact hz), rfl, q _ I.fresh⟩
end
section
variable {prog : Program} {w : World} {A : Around} {E : Value → Shared → Prop} {s : Shared}
set_option maxRecDepth 100000 in
end
section
variable {X : Cx}
end
end L2
namespace L2
open PySem PySem.Spec PyProof.Rows
theorem Vals.ints : ∀ {ns : List Int} {us : List Value}, Vals (ns.map V.int) us → IntsAre us ns
  | [], us, h => by
    rw [List.map_nil] at h
    cases h
    exact IntsAre.nil
  | n :: ns, us, h => by
    rw [List.map_cons] at h
    cases h with
    | cons r t =>
      obtain ⟨k, rfl⟩ := r
      exact IntsAre.cons n k (Vals.ints t)
theorem vals_of_ints : ∀ {us : List Value} {ns : List Int}, IntsAre us ns → Vals (ns.map V.int) us
  | _, _, .nil => by rw [List.map_nil]; exact Paired.nil
  | _, _, .cons n t h => by rw [List.map_cons]; exact Paired.cons (show RelV (V.int n) (Value.int n t) from ⟨t, rfl⟩) (vals_of_ints h)
theorem Vals.bls : ∀ {bs : List Bool} {us : List Value}, Vals (bs.map V.bl) us → us = bs.map Value.bool
  | [], us, h => by
    rw [List.map_nil] at h
    cases h
    rfl
  | b :: bs, us, h => by
    rw [List.map_cons] at h
    cases h with
    | cons r t =>
      cases r
      rw [Vals.bls t, List.map_cons]
theorem Vals.ref1 {a : Addr} {us : List Value} (r : Vals [V.ref a] us) : us = [Value.ref a] := by
  cases r with
  | cons r t =>
    cases t
    cases r
    rfl
theorem Vals.int2 {i j : Int} {us : List Value} (r : Vals [V.int i, V.int j] us) : ∃ t u, us = [Value.int i t, Value.int j u] := by
  cases r with
  | cons r t =>
    cases t with
    | cons r2 t2 =>
      cases t2
      obtain ⟨t, rfl⟩ := r
      obtain ⟨u, rfl⟩ := r2
      exact ⟨t, u, rfl⟩
section
variable {prog : Program} {w : World} {A : Around} {E : Value → Shared → Prop} {s : Shared} {l : Addr} {its : List Value} {ns : List Int} {Q : Value → Shared → Prop}
theorem sum_raw (hh : A.handled = none) (hl : s.heap.IsList l its.toArray) (hi : IntsAre its ns)
    (h : ∀ h' tk t', (∀ b o, s.heap.get? b = some o → h'.get? b = some o) → Q (.int ns.sum t') { s with heap := h', toks := tk }) : wpAny (model prog w) A (call (.builtin "sum") [.ref l]) Q E s := by
  obtain ⟨xs, e⟩ := hi.allInts.items
  have hn : numsOf (intItems xs).toList = ns := by rw [← e]; exact hi.numsOf
  rw [nums_intItems] at hn
  rw [e] at hl
  refine PySem.sum_intListG hh hl fun h' tk t' hk => ?_
  have := h h' tk t' hk
  rw [preSum_eq, List.take_of_length_le (by simp), hn]; exact this
end
section
variable {X : Cx}
def rSum (K : PySem.W.Frag) : List V → Hp → VK → Prop := fun vs H Q => ∃ (a : Addr) (ns : List Int), vs = [V.ref a] ∧ SqL K H a (ns.map V.int) ∧ Q (.int ns.sum) H
theorem cr_sum (hc : X.calm = true) : CallR X (.builtin "sum") (rSum X.K) := by
  intro pins s σ H vs us Q I r h
  obtain ⟨a, ns, rfl, hs, q⟩ := h
  obtain ⟨its, rv, hl, _⟩ := I.list hs
  rw [Vals.ref1 r]
  exact sum_raw (I.ok.hd hc) hl.isList rv.ints fun h' tk t' hk => ⟨.int _, H, I.kept hk, ⟨_, rfl⟩, q⟩
end
section
variable {X : Cx}
end
section
variable {X : Cx}
end
theorem iter_any {prog : Program} {w : World} {A : Around} {E : Value → Shared → Prop} {s : Shared} {l : Addr} {items : Array Value} {Q : Value → Shared → Prop} (hl : s.heap.IsList l items)
    (h : ∀ s₂ : Shared, s₂ = { s with heap := s.heap.push { cls := .type "list_iterator", data := .fields #[.ref l, .int 0 0] } } →
      (s₂.heap.IsListIter s.heap.objs.size l 0 ∧ s₂.heap.IsList l items) → l ≠ s.heap.objs.size → Q (.ref s.heap.objs.size) s₂) : wpAny (model prog w) A (pyIter (.ref l)) Q E s := by
  have hlt : l < s.heap.objs.size := by obtain ⟨_, e, _⟩ := hl; exact Heap.lt_size e
  exact wpAny_pyIter_list hl (h _ rfl ⟨⟨_, Heap.get?_push_size _ rfl, rfl, rfl⟩, hl.push _⟩ (Nat.ne_of_lt hlt))
theorem truth_bools {prog : Program} {w : World} {A : Around} {bs : List Bool} {its : List Value} (e : its = bs.map Value.bool) :
    TruthOf prog w A (fun i v => its.toArray[i]? = some v) (fun i => bs.getD i false) := fun i v s Q E hv hq => by
  have hv' : its[i]? = some v := by simpa using hv
  rw [e, List.getElem?_map] at hv'
  obtain ⟨b, hb, rfl⟩ := Option.map_eq_some_iff.mp hv'
  have hg : bs.getD i false = b := by rw [List.getD_eq_getElem?_getD, hb] <;> rfl
  have hq' : Q (bs.getD i false) s := hq
  rw [hg] at hq'
  exact wpAny_truthy_bool hq'
theorem all_range : ∀ bs : List Bool, (List.range bs.length).all (fun i => bs.getD i false) = bs.all id
  | [] => rfl
  | b :: bs => by
    rw [List.length_cons, List.range_succ_eq_map, List.all_cons, List.all_map, List.all_cons, ← all_range bs]
    all_goals rfl
section
variable {X : Cx}
def rAll (K : PySem.W.Frag) : List V → Hp → VK → Prop := fun vs H Q => ∃ (a : Addr) (bs : List Bool), vs = [V.ref a] ∧ SqL K H a (bs.map V.bl) ∧ Q (.bl (bs.all id)) H
theorem cr_all (hc : X.calm = true) : CallR X (.builtin "all") (rAll X.K) := by
  intro pins s σ H vs us Q I r h
  obtain ⟨a, bs, rfl, hs, q⟩ := h
  obtain ⟨its, rv, hl, _⟩ := I.list hs
  rw [Vals.ref1 r]
  have hb := rv.bls
  refine call_all_walk (iter_any hl.isList fun s₂ e2 st hne => ?_)
  subst e2
  refine ⟨_, _, _, _, _, _, _, rfl, Walks.list (A := X.A.in1) (I.ok.hd hc) _ a hne its.toArray, st, truth_bools hb, fun h' tk hk => ?_⟩
  refine ⟨.bl _, H, I.kept fun b o eo => hk b o (fun hmem => ?_) (Heap.get?_push_of_some _ eo), ?_, q⟩
  · rcases List.mem_cons.mp hmem with e1 | hmem
    · exact absurd (e1 ▸ Heap.lt_size eo) (Nat.lt_irrefl _)
    · cases hmem
  · show Value.bool _ = Value.bool _
    rw [← all_range, hb, List.size_toArray, List.length_map]
end
mutual
inductive Dp (K : PySem.W.Frag) (H : Hp) : V → PyData → Prop
  | non : Dp K H .non .none
  | bl (b : Bool) : Dp K H (.bl b) (.bool b)
  | int (i : Int) : Dp K H (.int i) (.int i)
  | str (x : Str) : Dp K H (.str x) (.str x)
  | lst {a : Addr} {xs : List V} {ds : List PyData} : SqL K H a xs → DpAll K H xs ds → Dp K H (.ref a) (.list ds)
  | tup {a : Addr} {xs : List V} {ds : List PyData} : SqT K H a xs → DpAll K H xs ds → Dp K H (.ref a) (.tuple ds)
inductive DpAll (K : PySem.W.Frag) (H : Hp) : List V → List PyData → Prop
  | nil : DpAll K H [] []
  | cons {v : V} {vs : List V} {d : PyData} {ds : List PyData} : Dp K H v d → DpAll K H vs ds → DpAll K H (v :: vs) (d :: ds)
end
section
variable {X : Cx} {pins : List (Addr × Obj)} {σ : St} {H : Hp} {s : Shared}
mutual
theorem Dp.reads (I : Inv X pins σ H s) : ∀ (d : PyData) (v : V) (u : Value), Dp X.K H v d → RelV v u → ∃ as, Reads s.heap u d as
  | .none, _, _, h, r => by
    cases h
    cases r
    exact ⟨_, Reads.none⟩
  | .bool b, _, _, h, r => by
    cases h
    cases r
    exact ⟨_, Reads.bool b⟩
  | .int i, _, _, h, r => by
    cases h
    obtain ⟨t, rfl⟩ := r
    exact ⟨_, Reads.int i t⟩
  | .str x, _, _, h, r => by
    cases h
    obtain ⟨t, rfl⟩ := r
    exact ⟨_, Reads.str x t⟩
  | .list ds, _, _, h, r => by
    cases h with
    | lst hs ha =>
      cases r
      obtain ⟨its, rv, ⟨o, n, ho, hc, _, hd⟩, _⟩ := I.list hs
      obtain ⟨as, hr⟩ := Dp.readsAll I ds _ its ha rv
      exact ⟨_, Reads.list ho hc hd hr⟩
  | .tuple ds, _, _, h, r => by
    cases h with
    | tup hs ha =>
      cases r
      obtain ⟨its, rv, ⟨o, ho, hc, n, hd⟩, _⟩ := I.tuple hs
      obtain ⟨as, hr⟩ := Dp.readsAll I ds _ its ha rv
      exact ⟨_, Reads.tuple ho hc hd hr⟩
  | .dict _, _, _, h, _ => by cases h
theorem Dp.readsAll (I : Inv X pins σ H s) : ∀ (ds : List PyData) (vs : List V) (us : List Value), DpAll X.K H vs ds → Vals vs us → ∃ as, ReadsAll s.heap us ds as
  | [], _, _, h, r => by
    cases h
    cases r
    exact ⟨_, ReadsAll.nil⟩
  | d :: ds, _, _, h, r => by
    cases h with
    | cons h1 h2 =>
      cases r with
      | cons r1 r2 =>
        obtain ⟨as, q1⟩ := Dp.reads I d _ _ h1 r1
        obtain ⟨bs, q2⟩ := Dp.readsAll I ds _ _ h2 r2
        exact ⟨_, ReadsAll.cons q1 q2⟩
end
end
section
variable {X : Cx}
end
end L2
namespace L2
open PySem PySem.Spec PyProof.Rows
abbrev CellAt (h : Heap) (c : Addr) (v : Option Value) : Prop := h.IsCell c v
def relS (scope sc : Scope) : Scope :=
  { scope with names := scope.names.map fun (n, k) => if (k == .free && sc.kind == .function && sc.names.lookup n == some .cell) then (n, .cell) else (n, k) }
def cloFrom (cells : List (Str × Addr)) : List (Str × NameKind) → List (Str × Addr) → List (Str × Addr)
  | [], acc => acc
  | (n, k) :: r, acc => if k == .free then cloFrom cells r ((n, (cells.lookup n).getD 0) :: acc) else cloFrom cells r acc
theorem closure_loop (env : Env) (f : Str × NameKind → List (Str × Addr) → Sem (ForInStep (List (Str × Addr))))
    (hf : ∀ n k c, f (n, k) c = if k == .free then (do let a ← cellOf env n; pure (.yield ((n, a) :: c))) else pure (.yield c)) :
    ∀ (names : List (Str × NameKind)) (acc : List (Str × Addr)), (∀ y ∈ names, y.2 = .free → ∃ c, env.cells.lookup y.1 = some c) → forIn names acc f = pure (cloFrom env.cells names acc)
  | [], acc, _ => by rw [List.forIn_nil]; rfl
  | (n, k) :: r, acc, h => by
    rw [List.forIn_cons, hf]
    have ih := fun acc => closure_loop env f hf r acc fun y hy => h y (List.mem_cons_of_mem _ hy)
    unfold cloFrom
    by_cases hk : (k == NameKind.free) = true
    · rw [if_pos hk, if_pos hk]
      obtain ⟨c, hc⟩ := h (n, k) List.mem_cons_self (by simpa using hk)
      have e : cellOf env n = pure c := by unfold cellOf; rw [hc]
      rw [e]
      have e2 : (env.cells.lookup n).getD 0 = c := by rw [hc]; rfl
      rw [e2]
      exact ih _
    · rw [if_neg hk, if_neg hk]
      exact ih _
theorem closure_ok {scope : Scope} {env : Env} (h : ∀ y ∈ scope.names, y.2 = .free → ∃ c, env.cells.lookup y.1 = some c) : closureFor scope env = pure (cloFrom env.cells scope.names []) := by
  simp only [closureFor]
  rw [closure_loop env _ (fun n k c => rfl) scope.names [] h]
  rfl
theorem mem_lookup {α : Type} : ∀ {l : List (Str × α)} {n : Str} {c : α}, (n, c) ∈ l → ∃ c', l.lookup n = some c'
  | (k, v) :: r, n, c, h => by
    rw [List.lookup_cons]
    cases hb : n == k with
    | true => exact ⟨_, rfl⟩
    | false =>
      rcases List.mem_cons.mp h with e | h
      · cases e; simp at hb
      · exact mem_lookup h
theorem cloFrom_mem {cells : List (Str × Addr)} : ∀ {names : List (Str × NameKind)} {acc : List (Str × Addr)} {n : Str} {c : Addr}, (n, c) ∈ cloFrom cells names acc → (n, c) ∈ acc ∨ ((n, .free) ∈ names ∧ c = (cells.lookup n).getD 0)
  | [], _, _, _, h => .inl h
  | (m, k) :: r, acc, n, c, h => by
    unfold cloFrom at h
    split at h
    · rename_i hk
      have hk : k = .free := by simpa using hk
      rcases cloFrom_mem h with h | ⟨h1, h2⟩
      · rcases List.mem_cons.mp h with e | h
        · cases e; exact .inr ⟨hk ▸ List.mem_cons_self, rfl⟩
        · exact .inl h
      · exact .inr ⟨List.mem_cons_of_mem _ h1, h2⟩
    · rcases cloFrom_mem h with h | ⟨h1, h2⟩
      · exact .inl h
      · exact .inr ⟨List.mem_cons_of_mem _ h1, h2⟩
theorem cloFrom_acc {cells : List (Str × Addr)} : ∀ {names : List (Str × NameKind)} {acc : List (Str × Addr)} {p : Str × Addr}, p ∈ acc → p ∈ cloFrom cells names acc
  | [], _, _, h => h
  | (m, k) :: r, acc, p, h => by
    unfold cloFrom
    split
    · exact cloFrom_acc (List.mem_cons_of_mem _ h)
    · exact cloFrom_acc h
theorem cloFrom_has {cells : List (Str × Addr)} : ∀ {names : List (Str × NameKind)} {acc : List (Str × Addr)} {n : Str}, (n, .free) ∈ names → (n, (cells.lookup n).getD 0) ∈ cloFrom cells names acc
  | (m, k) :: r, acc, n, h => by
    unfold cloFrom
    rcases List.mem_cons.mp h with e | h
    · cases e
      exact cloFrom_acc List.mem_cons_self
    · split
      · exact cloFrom_has h
      · exact cloFrom_has h
theorem cells_mem : ∀ {names : List (Str × NameKind)} {h : Heap} {acc : List (Str × Addr)} {x : Str} {c : Addr}, (x, c) ∈ cellsFrom h.objs.size names acc →
    (x, c) ∈ acc ∨ ((x, .cell) ∈ names ∧ h.objs.size ≤ c ∧ CellAt (pushCells h names) c none)
  | [], _, _, _, _, h => .inl h
  | (n, k) :: r, h, acc, x, c, hm => by
    unfold cellsFrom at hm
    unfold pushCells
    split at hm
    · rename_i hk
      rw [if_pos hk]
      have hk : k = .cell := by simpa using hk
      rw [← Heap.size_push h { cls := .type "cell", data := .cell none }] at hm
      rcases cells_mem hm with hm | ⟨h1, h2, h3⟩
      · rcases List.mem_cons.mp hm with e | hm
        · cases e
          exact .inr ⟨hk ▸ List.mem_cons_self, Nat.le_refl _, _, pushCells_keeps r _ _ _ (Heap.get?_push_size _ rfl), rfl⟩
        · exact .inl hm
      · rw [Heap.size_push] at h2
        exact .inr ⟨List.mem_cons_of_mem _ h1, Nat.le_of_succ_le h2, h3⟩
    · rename_i hk
      rw [if_neg hk]
      rcases cells_mem hm with hm | ⟨h1, h2, h3⟩
      · exact .inl hm
      · exact .inr ⟨List.mem_cons_of_mem _ h1, h2, h3⟩
theorem cells_acc : ∀ {names : List (Str × NameKind)} {n : Nat} {acc : List (Str × Addr)} {p : Str × Addr}, p ∈ acc → p ∈ cellsFrom n names acc
  | [], _, _, _, h => h
  | (m, k) :: r, n, acc, p, h => by
    unfold cellsFrom
    split
    · exact cells_acc (List.mem_cons_of_mem _ h)
    · exact cells_acc h
theorem cells_has : ∀ {names : List (Str × NameKind)} {n : Nat} {acc : List (Str × Addr)} {x : Str}, (x, .cell) ∈ names → ∃ c, (x, c) ∈ cellsFrom n names acc
  | (m, k) :: r, n, acc, x, h => by
    unfold cellsFrom
    rcases List.mem_cons.mp h with e | h
    · cases e
      exact ⟨n, cells_acc List.mem_cons_self⟩
    · split
      · exact cells_has h
      · exact cells_has h
theorem cells_inj : ∀ {names : List (Str × NameKind)} {h : Heap} {acc : List (Str × Addr)} {x y : Str} {c : Addr}, (∀ p ∈ acc, p.2 < h.objs.size) → (∀ x y c, (x, c) ∈ acc → (y, c) ∈ acc → x = y) →
    (x, c) ∈ cellsFrom h.objs.size names acc → (y, c) ∈ cellsFrom h.objs.size names acc → x = y
  | [], _, _, _, _, _, _, hi, h1, h2 => hi _ _ _ h1 h2
  | (n, k) :: r, h, acc, x, y, c, hl, hi, h1, h2 => by
    unfold cellsFrom at h1 h2
    split at h1
    · rename_i hk
      rw [if_pos hk] at h2
      rw [← Heap.size_push h { cls := .type "cell", data := .cell none }] at h1 h2
      refine cells_inj (h := h.push _) (fun p hp => ?_) (fun x y c a b => ?_) h1 h2
      · rw [Heap.size_push]
        rcases List.mem_cons.mp hp with rfl | hp
        · exact Nat.lt_succ_self _
        · exact Nat.lt_succ_of_lt (hl p hp)
      · rcases List.mem_cons.mp a with e | a <;> rcases List.mem_cons.mp b with e' | b
        · cases e; cases e'; rfl
        · cases e; exact absurd (hl _ b) (Nat.lt_irrefl _)
        · cases e'; exact absurd (hl _ a) (Nat.lt_irrefl _)
        · exact hi _ _ _ a b
    · rename_i hk
      rw [if_neg hk] at h2
      exact cells_inj hl hi h1 h2
theorem newEnv_comp {M : Model} {A : Around} {E : Value → Shared → Prop} {s : Shared} {scope : Scope} {globals : Addr} {closure : List (Str × Addr)} {qual : Str} {func : Option Addr} {code : Value} {around : Env} {builtins : Addr} {Q : Env → Shared → Prop}
    (h : Q (newEnv scope s.heap.objs.size globals (cellsFrom (s.heap.objs.size + 1) scope.names closure) qual func code (some around) builtins)
      { s with heap := pushCells (s.heap.push { cls := .type "dict", data := .dict #[] }) scope.names }) :
    wpAny M A (newFunctionEnv scope globals closure [] qual func code (some around) builtins) Q E s := by
  simp only [newFunctionEnv, Option.isSome_some, if_true]
  refine wpAny_bind (wpAny_alloc ?_)
  refine wpAny_bind (wpAny_layCells _ (fun n k c => rfl) scope.names closure _ _ ?_)
  rw [show ({ s with heap := s.heap.push { cls := .type "dict", data := .dict #[] } } : Shared).heap.objs.size = s.heap.objs.size + 1 from Heap.size_push ..]
  rw [List.forIn_nil]
  exact wpAny_bind (wpAny_pure (wpAny_pure h))
theorem lookup_relS {sc : Scope} : ∀ {names : List (Str × NameKind)} {x : Str} {k : NameKind},
    (names.map fun (n, k) => if (k == NameKind.free && sc.kind == .function && sc.names.lookup n == some .cell) then (n, NameKind.cell) else (n, k)).lookup x = some k →
    ∃ k', names.lookup x = some k' ∧ (k = k' ∨ (k' = .free ∧ k = .cell))
  | [], _, _, h => by simp at h
  | (n, k₀) :: r, x, k, h => by
    have ih := @lookup_relS sc r x k
    have h' : List.lookup x ((if (k₀ == NameKind.free && sc.kind == .function && sc.names.lookup n == some .cell) = true then (n, NameKind.cell) else (n, k₀)) :: (r.map _)) = some k := h
    cases hx : x == n with
    | true =>
      simp only [List.lookup_cons, hx]
      by_cases hc : (k₀ == NameKind.free && sc.kind == .function && sc.names.lookup n == some .cell) = true
      · rw [if_pos hc] at h'
        simp only [List.lookup_cons, hx] at h'
        cases h'
        simp only [Bool.and_eq_true, beq_iff_eq] at hc
        exact ⟨k₀, rfl, .inr ⟨hc.1.1, rfl⟩⟩
      · rw [if_neg hc] at h'
        simp only [List.lookup_cons, hx] at h'
        cases h'
        exact ⟨_, rfl, .inl rfl⟩
    | false =>
      simp only [List.lookup_cons, hx]
      by_cases hc : (k₀ == NameKind.free && sc.kind == .function && sc.names.lookup n == some .cell) = true
      · rw [if_pos hc] at h'
        simp only [List.lookup_cons, hx] at h'
        exact ih h'
      · rw [if_neg hc] at h'
        simp only [List.lookup_cons, hx] at h'
        exact ih h'
structure BlkOk (N : List Str) (sc scope : Scope) (own : List (Str × Nat)) : Prop where
  kind : scope.kind = .function
  uniq : ∀ y ∈ scope.names, scope.names.lookup y.1 = some y.2
  ix : ∀ p ∈ own, N[p.2]? = some p.1
  free : ∀ y ∈ scope.names, y.2 = .free → sc.names.lookup y.1 = some .cell ∨ sc.names.lookup y.1 = some .free
  own : ∀ y ∈ scope.names, y.2 = .local ∨ y.2 = .cell → y.1 ∈ own.map (·.1) ∨ y.1 ∉ N
def wipe (σ : St) : List Nat → St
  | [] => σ
  | v :: vs => (wipe σ vs).set v none
theorem wipe_length (σ : St) : ∀ vs : List Nat, (wipe σ vs).length = σ.length
  | [] => rfl
  | v :: vs => by unfold wipe; rw [List.length_set, wipe_length σ vs]
theorem wipe_some {σ : St} {i : Nat} {x : V} : ∀ {vs : List Nat}, (wipe σ vs)[i]? = some (some x) → σ[i]? = some (some x) ∧ i ∉ vs
  | [], h => ⟨h, by simp⟩
  | v :: vs, h => by
    unfold wipe at h
    by_cases hi : v = i
    · subst hi
      by_cases hv : v < (wipe σ vs).length
      · rw [List.getElem?_set_self hv] at h; cases h
      · rw [List.getElem?_eq_none (by simpa using hv)] at h; cases h
    · rw [List.getElem?_set_ne hi] at h
      obtain ⟨h1, h2⟩ := wipe_some h
      exact ⟨h1, by simp only [List.mem_cons, not_or]; exact ⟨fun e => hi e.symm, h2⟩⟩
abbrev Cx.blk (X : Cx) (s : Shared) (H : Hp) (scope : Scope) (cenv : Env) (fp : List Addr) : Cx := { X with s_0 := s, H_0 := H, env := cenv, outer := X.stack, ex := fp, fn := fun x => scope.names.lookup x == some .cell, pn := [], xe := fun _ _ => False }
section
variable {X : Cx} {pins : List (Addr × Obj)} {σ : St} {H : Hp} {s : Shared}
theorem block_start {scope : Scope} {own : List (Str × Nat)} {fp : List Addr} (I : Inv X pins σ H s) (ok : BlkOk X.N X.env.scope scope own) (hN : X.N.Nodup) (hfp : ∀ b ∈ fp, FpOk X pins H b ∧ b < s.heap.objs.size) :
    Inv (X.blk s H scope (compEnvC scope (cellsFrom (s.heap.objs.size + 1) scope.names (cloFrom X.env.cells scope.names [])) s.heap.objs.size X.env) fp) [] (wipe σ (own.map (·.2))) H { s with heap := pushCells (s.heap.push { cls := .type "dict", data := .dict #[] }) scope.names } := by
  have hfree : ∀ y ∈ scope.names, y.2 = .free → ∃ c, X.env.cells.lookup y.1 = some c := fun y hy e => by
    rcases ok.free y hy e with k | k
    · exact I.ok.has _ (.inl k)
    · exact I.ok.has _ (.inr k)
  generalize hcenv : compEnvC scope (cellsFrom (s.heap.objs.size + 1) scope.names (cloFrom X.env.cells scope.names [])) s.heap.objs.size X.env = cenv
  have kp : ∀ b o, s.heap.get? b = some o → (pushCells (s.heap.push { cls := .type "dict", data := .dict #[] }) scope.names).get? b = some o := fun b o e => pushCells_keeps _ _ _ _ (Heap.get?_push_of_some _ e)
  have hL : cenv.locals = s.heap.objs.size := by rw [← hcenv]; rfl
  have hcl : cenv.cells = cellsFrom (s.heap.objs.size + 1) scope.names (cloFrom X.env.cells scope.names []) := by rw [← hcenv]; rfl
  have hsc : cenv.scope = relS scope X.env.scope := by rw [← hcenv]; rfl
  rw [← Heap.size_push s.heap { cls := .type "dict", data := .dict #[] }] at hcl
  have cm : ∀ {y c}, (y, c) ∈ cloFrom X.env.cells scope.names [] → X.env.cells.lookup y = some c ∧ c < s.heap.objs.size := fun {y c} hm => by
    rcases cloFrom_mem hm with hm | ⟨h1, rfl⟩
    · cases hm
    · obtain ⟨c, hc⟩ := hfree _ h1 rfl
      rw [hc]
      obtain ⟨w, z⟩ := I.cell _ _ hc
      exact ⟨rfl, z.lt⟩
  have mem : ∀ {y c}, cenv.cells.lookup y = some c → (X.env.cells.lookup y = some c ∧ c < s.heap.objs.size) ∨ (s.heap.objs.size + 1 ≤ c ∧ CellAt (pushCells (s.heap.push { cls := .type "dict", data := .dict #[] }) scope.names) c none) := fun {y c} e => by
    rw [hcl] at e
    rcases cells_mem (PySem.mem_of_lookup e) with hm | ⟨_, h2, h3⟩
    · exact .inl (cm hm)
    · rw [Heap.size_push] at h2; exact .inr ⟨h2, h3⟩
  have look : ∀ {y}, scope.names.lookup y = some .free → ∃ c, cenv.cells.lookup y = some c ∧ X.env.cells.lookup y = some c := fun {y} hl => by
    have hy : (y, NameKind.free) ∈ scope.names := PySem.mem_of_lookup hl
    obtain ⟨c', e'⟩ := mem_lookup (cells_acc (names := scope.names) (n := (s.heap.push { cls := .type "dict", data := .dict #[] }).objs.size) (cloFrom_has (cells := X.env.cells) (acc := []) hy))
    rw [← hcl] at e'
    refine ⟨c', e', ?_⟩
    rw [hcl] at e'
    rcases cells_mem (PySem.mem_of_lookup e') with hm | ⟨h1, _, _⟩
    · exact (cm hm).1
    · have := ok.uniq _ h1
      rw [hl] at this; cases this
  have okB : (X.blk s H scope cenv fp).Ok := by
    refine ⟨I.ok.mod, by show cenv.scope.kind = _; rw [hsc]; exact ok.kind, by show cenv.globals = _; rw [← hcenv]; exact I.ok.glob, by show cenv.builtins = _; rw [← hcenv]; exact I.ok.blt, by show s.heap.objs.size ≤ cenv.locals; rw [hL]; exact Nat.le_refl _,
      fun y z c e1 e2 => ?_, fun y hy => ?_, fun y c z e => ?_, I.ok.hd, I.ok.frames, .inl rfl, fun b hb => ⟨?_, fun y c e z => ?_⟩, I.bs, Nat.le_trans I.ok.bsz I.sz, fun b o e hb => ?_, fun b hb z => ?_, I.stack, I.stkFree⟩
    · have e1 : cenv.cells.lookup y = some c := e1
      have e2 : cenv.cells.lookup z = some c := e2
      rw [hcl] at e1 e2
      refine cells_inj (fun p hp => ?_) (fun y z c a b => I.ok.inj y z c (cm a).1 (cm b).1) (PySem.mem_of_lookup e1) (PySem.mem_of_lookup e2)
      rw [Heap.size_push]
      exact Nat.lt_succ_of_lt (cm (y := p.1) (c := p.2) hp).2
    · show ∃ c, cenv.cells.lookup y = some c
      have key : ∀ k, cenv.kindOf y = some k → (k = .cell ∨ k = .free) → ∃ c, cenv.cells.lookup y = some c := fun k hk hk' => by
        unfold Env.kindOf at hk
        rw [hsc] at hk
        obtain ⟨k', e, r⟩ := lookup_relS hk
        have : k' = .cell ∨ k' = .free := by
          rcases r with rfl | ⟨rfl, _⟩
          · exact hk'
          · exact .inr rfl
        rcases this with rfl | rfl
        · obtain ⟨c, hm⟩ := cells_has (n := (s.heap.push { cls := .type "dict", data := .dict #[] }).objs.size) (acc := cloFrom X.env.cells scope.names []) (PySem.mem_of_lookup e)
          obtain ⟨c', e'⟩ := mem_lookup hm
          exact ⟨c', by rw [hcl]; exact e'⟩
        · obtain ⟨c, h1, _⟩ := look e
          exact ⟨c, h1⟩
      rcases hy with hy | hy
      · exact key _ hy (.inl rfl)
      · exact key _ hy (.inr rfl)
    · have z : (scope.names.lookup y == some NameKind.cell) = true := z
      have z : scope.names.lookup y = some .cell := by simpa using z
      have e : cenv.cells.lookup y = some c := e
      rw [hcl] at e
      rcases cells_mem (PySem.mem_of_lookup e) with hm | ⟨_, h2, _⟩
      · rcases cloFrom_mem hm with hm | ⟨h1, _⟩
        · cases hm
        · have q := ok.uniq _ h1
          rw [z] at q; cases q
      · rw [Heap.size_push] at h2
        exact Nat.le_of_succ_le h2
    · show b ≠ cenv.locals
      rw [hL]; exact Nat.ne_of_lt (hfp b hb).2
    · have e : cenv.cells.lookup y = some c := e
      rcases mem e with ⟨h1, _⟩ | ⟨h1, _⟩
      · exact (hfp b hb).1.2.2.2.2.1 y c h1 z
      · have h2 : s.heap.objs.size + 1 ≤ b := by rw [← z]; exact h1
        exact absurd (Nat.lt_of_lt_of_le (hfp b hb).2 (Nat.le_of_succ_le h2)) (Nat.lt_irrefl _)
    · rcases (hfp b hb).1.2.2.2.1 with z | z
      · exact I.ok.noex b o e z
      · exact absurd (Nat.lt_of_lt_of_le (Heap.lt_size e) (Nat.le_trans I.ok.bsz z)) (Nat.lt_irrefl _)
    · rcases List.mem_cons.mp (I.stkSub b z) with z | z
      · exact (hfp b hb).1.2.1 z
      · exact (hfp b hb).1.2.2.1 z
  refine ⟨okB, rfl, I.bare, Un.kept kp, ⟨fun _ => none, ?_, fun i y av e1 e2 e3 => ?_⟩, fun y c e => ?_, ?_, fun y c e => ?_, fun p hp => ?_, I.hok.kept kp, by rw [wipe_length]; exact I.len⟩
  · show Heap.Ns _ cenv.locals _
    rw [hL]
    exact Heap.Ns.keeps (Heap.Ns.new ..) fun b o e => pushCells_keeps _ _ _ _ e
  · obtain ⟨e2, hne⟩ := wipe_some e2
    have hfr : scope.names.lookup y = some .free ∧ (cenv.kindOf y = some .cell ∨ cenv.kindOf y = some .free) := by
      have key : ∀ k, cenv.scope.names.lookup y = some k → k = .local ∨ k = .cell ∨ k = .free → scope.names.lookup y = some .free ∧ (cenv.kindOf y = some .cell ∨ cenv.kindOf y = some .free) := fun k hk hk' => by
        have hk0 := hk
        rw [hsc] at hk
        obtain ⟨k', e, r⟩ := lookup_relS hk
        have no : ¬ (k' = .local ∨ k' = .cell) := fun hh => by
          rcases ok.own _ (PySem.mem_of_lookup e) hh with e' | e'
          · obtain ⟨p, hp, hpy⟩ := List.mem_map.mp e'
            have e3 := ok.ix p hp
            have : p.1 = y := hpy
            rw [this] at e3
            exact hne (List.mem_map.mpr ⟨p, hp, nodup_ix hN e3 e1⟩)
          · exact e' (List.mem_of_getElem? e1)
        rcases r with rfl | ⟨rfl, rfl⟩
        · rcases hk' with rfl | rfl | rfl
          · exact absurd (.inl rfl) no
          · exact absurd (.inr rfl) no
          · exact ⟨e, .inr hk0⟩
        · exact ⟨e, .inl hk0⟩
      have e3 : Vis cenv.scope y := e3
      rcases e3 with e3 | e3 | e3
      · exact key _ e3 (.inl rfl)
      · exact key _ e3 (.inr (.inl rfl))
      · exact key _ e3 (.inr (.inr rfl))
    obtain ⟨m, hn, hl⟩ := I.loc
    have hvis : Vis X.env.scope y := (ok.free _ (PySem.mem_of_lookup hfr.1) rfl).elim (fun k => .inr (.inl k)) (fun k => .inr (.inr k))
    obtain ⟨w, r, q⟩ := hl i y av e1 e2 hvis
    refine ⟨w, r, .inr ⟨hfr.2, ?_⟩⟩
    obtain ⟨c, h1, h2⟩ := look hfr.1
    rcases q with ⟨k, _⟩ | ⟨_, c', e', z⟩
    · have k : X.env.scope.names.lookup y = some .local := k
      rcases ok.free _ (PySem.mem_of_lookup hfr.1) rfl with k' | k' <;> rw [show X.env.scope.names.lookup y = _ from k'] at k <;> cases k
    · rw [h2] at e'; cases e'
      exact ⟨c, h1, z.keeps kp⟩
  · have e : cenv.cells.lookup y = some c := e
    rcases mem e with ⟨h1, _⟩ | ⟨_, z⟩
    · obtain ⟨w, z⟩ := I.cell y c h1
      exact ⟨w, z.keeps kp⟩
    · exact ⟨_, z⟩
  · show H cenv.locals = none
    rw [hL]; exact I.hok.fresh (Nat.le_refl _)
  · have e : cenv.cells.lookup y = some c := e
    rcases mem e with ⟨h1, _⟩ | ⟨h1, _⟩
    · exact I.freeC y c h1
    · exact I.hok.fresh (Nat.le_of_succ_le h1)
  · exact absurd (show p ∈ ([] : List (Addr × Obj)) ++ [] from hp) (by simp)
theorem app_ok {E : Value → Shared → Prop} {D : Addr} {xs : List V} {y : V} {v : Value} {Q : Value → Shared → Prop} (I : Inv X pins σ H s) (hD : H D = some (.lst xs)) (hz : xs.length < sizeLine) (r : RelV y v)
    (h : ∀ s', Inv X pins σ (upd H D (.lst (xs ++ [y]))) s' → Q .none s') : wpAny (model X.prog X.w) X.A (call (.builtin "list.append") [.ref D, v]) Q E s := by
  obtain ⟨hz', its, n, ri, e⟩ := I.hok D _ hD
  have hl := ri.length
  refine append_at (hsz := by rw [List.size_toArray]; omega) e fun h' sb ho' => ?_
  refine h { s with heap := h' } (I.write (t' := s.toks) (by rw [hD]; trivial) (.inl rfl) (fun b u hb q => (sb.2 b hb).trans q) ⟨_, ho'⟩ ⟨by rw [List.length_append]; exact hz, its ++ [v], n + 1, ri.append (.cons r .nil), ?_⟩)
  rw [ho']
  simp
def PTs (X : Cx) (ifs : List Expr) (t : TT) : Prop :=
  ∀ (pins : List (Addr × Obj)) (s : Shared) (σ : St) (H : Hp) (Q : Bool → Hp → Prop), Inv X pins σ H s → t σ H Q →
    wpAny (model X.prog X.w) X.A (forIn ifs true fun c r => if r = true then do let ok ← isTrue c X.env (eval c X.env); pure (ForInStep.yield ok) else pure (ForInStep.yield r)) (TP X pins σ Q) X.xe s
def tYes : TT := fun _ H Q => Q true H
theorem pts_nil : PTs X [] tYes := fun _ _ _ H _ I h => wpAny_tests_nil ⟨H, I, h⟩
end
theorem thnF {α : Type} {t : Sem α} {Q Q' : α → Shared → Prop} {M : Model} {A : Around} {E : Value → Shared → Prop} {s : Shared} (h : wpAny M A t Q (fun _ _ => False) s) (hQ : ∀ a s, Q a s → Q' a s) : wpAny M A t Q' E s := wpAny_mono h hQ fun _ _ z => False.elim z
theorem compLoop_any {prog : Program} {w : World} {A : Around} {R : Result → Shared → Prop} {s : Shared} {elt target iter : Expr} {ifs : List Expr} {scope : Scope} {pos : Pos} {it acc : Value} {env : Env} (I : Nat → Shared → Prop)
    (turn : ∀ n s, I n s → wpAny (model prog w) A (pyNext it) (fun r s₁ => match r with
      | none => R (.ok .next) s₁
      | some v => wpAny (model prog w) A (letOwnedTupleGo target it v) (fun _ s₁' => wpAny (model prog w) A (assign target env v) (fun _ s₂ =>
          wpAny (model prog w) A (forIn ifs true fun c r => if r = true then do let ok ← isTrue c env (eval c env); pure (ForInStep.yield ok) else pure (ForInStep.yield r)) (fun ok s₃ =>
            if ok = true then wpAny (model prog w) A (eval elt env) (fun x s₄ =>
              wpAny (model prog w) A (call (.builtin "list.append") [acc, x]) (fun _ s₅ => ∃ m, m < n ∧ I m s₅) (notedBy (model prog w) A env fun e s' => R (.error e) s') s₄) (notedBy (model prog w) A env fun e s' => R (.error e) s') s₃
            else ∃ m, m < n ∧ I m s₃) (notedBy (model prog w) A env fun e s' => R (.error e) s') s₂) (notedBy (model prog w) A env fun e s' => R (.error e) s') s₁') (notedBy (model prog w) A env fun e s' => R (.error e) s') s₁) (notedBy (model prog w) A env fun e s' => R (.error e) s') s)
    (n : Nat) (h : I n s) :
    codeAny (model prog w) A (.compLoop (.ListComp elt [⟨target, iter, ifs, 0⟩] scope pos) 0 it acc env) R s := by
  refine codeAny_loop rfl I (fun n s hI => ?_) n h
  show wpAny _ A ((compTurn (.ListComp elt [⟨target, iter, ifs, 0⟩] scope pos) 0 it acc env).onRaise (fun x => do noteFrame x env; theTreesLotGoes x)) _ _ s
  refine wpAny_noted ?_
  rw [compTurn_list]
  refine wpAny_bind (wpAny_standAt (wpAny_bind (wpAny_mono (turn n s hI) (fun r s₁ h₁ => ?_) fun _ _ h' => h')))
  cases r with
  | none => exact wpAny_pure h₁
  | some v =>
    refine wpAny_bind (wpAny_mono h₁ (fun _ s₁' h₁' => ?_) fun _ _ h' => h')
    refine wpAny_bind (wpAny_mono h₁' (fun _ s₂ h₂ => wpAny_bind (wpAny_mono h₂ (fun ok s₃ h₃ => ?_) fun _ _ h' => h')) fun _ _ h' => h')
    cases ok with
    | false => exact wpAny_pure ⟨rfl, h₃⟩
    | true =>
      exact wpAny_bind (wpAny_bind (wpAny_mono h₃ (fun x s₄ h₄ => wpAny_bind (wpAny_mono h₄ (fun _ s₅ h₅ => wpAny_pure (wpAny_pure ⟨rfl, h₅⟩)) fun _ _ h' => h')) fun _ _ h' => h'))
section
variable {X : Cx}
def tLc (wi : TI) (g : TG) (tt : TT) (te : TE) (vs : List Nat) : TE := fun σ H Q => wi σ H fun J H1 => ∀ D, H1 D = none → ∃ W : Nat → Nat → Hp → Prop, (∃ m, W 0 m (upd H1 D (.lst []))) ∧ ∀ i m H, W i m H →
  (J.stop i H ∧ Q (.ref D) H) ∨ (J.go i H ∧ ∃ Nx : Hp → Prop, (∀ H', Nx H' → ∃ m', m' < m ∧ W (i + 1) m' H') ∧ ∀ x H', J.yld i H x H' → g x (wipe σ vs) H' fun σ2 H2 => wipe σ2 vs = wipe σ vs ∧ tt σ2 H2 fun b H3 =>
    if b = true then te σ2 H3 fun y H4 => ∃ acc, H4 D = some (.lst acc) ∧ acc.length < sizeLine ∧ Nx (upd H4 D (.lst (acc ++ [y]))) else Nx H3)
theorem lc_core {pins : List (Addr × Obj)} {s : Shared} {σ : St} {H : Hp} {Q : VK} {elt tg iter : Expr} {ifs : List Expr} {scope : Scope} {own : List (Str × Nat)} {pos pos' : Pos} {wi : TI} {g : TG} {tt : TT} {te : TE} {use : Option (Value → Sem Unit)} {Qf : Value → Shared → Prop}
    (hc : X.calm = true) (hN : X.N.Nodup) (I : Inv X pins σ H s) (hi : PI X tg iter wi) (ok : BlkOk X.N X.env.scope scope own)
    (hg : ∀ (s : Shared) (H : Hp) (C : Addr) (cl : List (Str × Addr)) (fp : List Addr), PG (X.blk s H scope (compEnvC scope cl C X.env) fp) tg g) (ht : ∀ (s : Shared) (H : Hp) (C : Addr) (cl : List (Str × Addr)) (fp : List Addr), PTs (X.blk s H scope (compEnvC scope cl C X.env) fp) ifs tt)
    (he : ∀ (s : Shared) (H : Hp) (C : Addr) (cl : List (Str × Addr)) (fp : List Addr), PE (X.blk s H scope (compEnvC scope cl C X.env) fp) elt te) (hs : ∀ x, foldedSetIterable iter X.env x = pure x)
    (h : tLc wi g tt te (own.map (·.2)) σ H Q)
    (hRR : ∀ D C s' m H', Inv X pins σ H' s' → Q (.ref D) H' → s'.heap.Ns C m → FpOk X pins H' C → compPost (model X.prog X.w) X.A X.xe use Qf (.ref D) C (.ok .next) s') :
    wpAny (model X.prog X.w) X.A (comprehension (.ListComp elt [⟨tg, iter, ifs, 0⟩] scope pos) scope X.env pos' (newList []) false (eval iter X.env) use) Qf X.xe s := by
  have hfree : ∀ y ∈ scope.names, y.2 = .free → ∃ c, X.env.cells.lookup y.1 = some c := fun y hy e => by
    rcases ok.free y hy e with k | k
    · exact I.ok.has _ (.inl k)
    · exact I.ok.has _ (.inr k)
  refine wpAny_comprehension_free (use := use) rfl hs (closure_ok hfree) ok.kind (fun y hy e => by rw [ok.uniq y hy, e])
    (thn (hi pins s σ H _ I h) fun xv s1 hx => thn hx fun itv s2 h2 => ?_)
  obtain ⟨it, fp, tn, J, H2, e, I2, T, st2, f2, q⟩ := h2
  subst e
  refine wpAny_newObj_type (newEnv_comp ?_) (by show 0 ≤ sizeLine; decide)
  generalize hD : s2.heap.objs.size = D
  have hDn : H2 D = none := I2.hok.fresh (Nat.le_of_eq hD)
  obtain ⟨W, ⟨m0, w0⟩, turn⟩ := q D hDn
  generalize hs3 : ({ s2 with heap := s2.heap.push { cls := .type "list", data := .seq ([] : List Value).toArray } } : Shared) = s3
  have I3 : Inv X pins σ (upd H2 D (.lst [])) s3 := by
    rw [← hs3]
    refine I2.laid (t' := s2.toks) (fun b o e => Heap.get?_push_of_some _ e) (Nat.le_of_eq hD) ⟨Nat.zero_le _, [], 0, .nil, ?_⟩
    rw [← hD]
    exact Heap.get?_push_size _ rfl
  have h3 : s3.heap = s2.heap.push { cls := .type "list", data := .seq ([] : List Value).toArray } := by rw [← hs3]
  have sz : ∀ b ∈ fp, b < s2.heap.objs.size := fun b hb => by
    obtain ⟨o, e, _⟩ := T.obj _ _ st2 b hb
    exact Heap.lt_size e
  have f3 : ∀ b ∈ fp, FpOk X pins (upd H2 D (.lst [])) b ∧ b < s3.heap.objs.size := fun b hb => by
    have hlt := sz b hb
    refine ⟨⟨?_, (f2 b hb).2⟩, by rw [h3, Heap.size_push]; exact Nat.lt_succ_of_lt hlt⟩
    rw [upd_ne (by rw [← hD]; exact Nat.ne_of_lt hlt)]
    exact (f2 b hb).1
  have st3 : tn 0 s3.heap := T.keep _ _ _ st2 fun b _ o e => by rw [h3]; exact Heap.get?_push_of_some _ e
  have I4 := block_start I3 ok hN f3
  have pg := hg s3 (upd H2 D (.lst [])) s3.heap.objs.size (cellsFrom (s3.heap.objs.size + 1) scope.names (cloFrom X.env.cells scope.names [])) fp
  have pt := ht s3 (upd H2 D (.lst [])) s3.heap.objs.size (cellsFrom (s3.heap.objs.size + 1) scope.names (cloFrom X.env.cells scope.names [])) fp
  have pe := he s3 (upd H2 D (.lst [])) s3.heap.objs.size (cellsFrom (s3.heap.objs.size + 1) scope.names (cloFrom X.env.cells scope.names [])) fp
  show codeAny _ _ (.compStart (.ListComp elt [⟨tg, iter, ifs, 0⟩] scope pos) 0 (.ref it) (.ref D) (compEnvC scope (cellsFrom (s3.heap.objs.size + 1) scope.names (cloFrom X.env.cells scope.names [])) s3.heap.objs.size X.env)) (compPost (model X.prog X.w) X.A X.xe use Qf (.ref D) s3.heap.objs.size) { s3 with heap := pushCells (s3.heap.push { cls := .type "dict", data := .dict #[] }) scope.names }
  have nfp : ∀ b ∈ fp, (upd H2 D (.lst [])) b = none := fun b hb => (f3 b hb).1.1
  generalize hce : compEnvC scope (cellsFrom (s3.heap.objs.size + 1) scope.names (cloFrom X.env.cells scope.names [])) s3.heap.objs.size X.env = ce at I4 pg pt pe ⊢
  have cL : ce.locals = s3.heap.objs.size := by subst hce; rfl
  generalize hH3 : upd H2 D (.lst []) = H3 at I3 I4 pg pt pe w0 nfp f3
  generalize hs4 : ({ s3 with heap := pushCells (s3.heap.push { cls := .type "dict", data := .dict #[] }) scope.names } : Shared) = s4 at I4 ⊢
  have st4 : tn 0 s4.heap := T.keep _ _ _ st3 fun b _ o e => by rw [← hs4]; exact pushCells_keeps _ _ _ _ (Heap.get?_push_of_some _ e)
  have stat : ∀ {σ' : St} {H' : Hp} {s' : Shared}, Inv (X.blk s3 H3 scope ce fp) [] σ' H' s' → (∀ b ∈ fp, H' b = none) → ∀ b ∈ fp, FpOk (X.blk s3 H3 scope ce fp) [] H' b := fun {σ' H' s'} I' hn b hb =>
    ⟨hn b hb, (I'.ok.exf b hb).1, I'.ok.exfs b hb, .inl hb, fun x c e => (I'.ok.exf b hb).2 x c e, fun p hp => absurd (show p ∈ ([] : List (Addr × Obj)) ++ [] from hp) (by simp)⟩
  have loop : codeAny (model X.prog X.w) X.A (.compLoop (.ListComp elt [⟨tg, iter, ifs, 0⟩] scope pos) 0 (.ref it) (.ref D) ce) (compPost (model X.prog X.w) X.A X.xe use Qf (.ref D) s3.heap.objs.size) s4 := by
    refine compLoop_any (fun n s' => ∃ i H', Inv (X.blk s3 H3 scope ce fp) [] (wipe σ (own.map (·.2))) H' s' ∧ tn i s'.heap ∧ (∀ b ∈ fp, H' b = none) ∧ W i n H') ?_ m0 ⟨0, H3, I4, st4, nfp, w0⟩
    rintro n s5 ⟨i, H5, I5, st5, n5, w5⟩
    rcases turn i n H5 w5 with ⟨stop, qq⟩ | ⟨go, Nx, hNx, step⟩
    · have td := T.done (X.blk s3 H3 scope ce fp) rfl rfl rfl hc i [] s5 _ H5 (fun _ _ => False) I5 (stat I5 n5) st5 stop
      refine thnF td fun r s6 ⟨hr, I6⟩ => ?_
      subst hr
      have I7 : Inv X pins σ H5 s6 := I3.call' (ch := fp) I6.os I6.base I6.hok I6.bare fun b hb => ⟨(f3 b hb).1.2.2.2.1, (f3 b hb).1.2.1, (f3 b hb).1.2.2.2.2.1, (f3 b hb).1.2.2.2.2.2⟩
      have nC : H5 s3.heap.objs.size = none := by
        have z : H5 ce.locals = none := I6.free
        rw [cL] at z
        exact z
      obtain ⟨m, hn, _⟩ := I6.loc
      have hn : s6.heap.Ns ce.locals m := hn
      rw [cL] at hn
      exact hRR D s3.heap.objs.size s6 m H5 I7 qq hn (I3.fpOk (Nat.le_refl _) nC)
    · have ti := T.item (X.blk s3 H3 scope ce fp) rfl rfl rfl hc i [] s5 _ H5 (fun _ _ => False) I5 (stat I5 n5) st5 go
      refine thnF ti fun r s6 ⟨u, hr, h6⟩ => ?_
      subst hr
      refine thnF h6 fun _ s7 ⟨x, H7, I7, r7, y7, st7, n7⟩ => ?_
      have I7' := I7.pinned (stat I7 n7) (T.obj _ _ st7)
      refine thnF (pg _ s7 _ H7 x u _ I7' r7 (step x H7 y7)) fun _ s8 ⟨σ8, H8, I8, hw8, q8⟩ => ?_
      refine thnF (pt _ s8 σ8 H8 _ I8 q8) fun b s9 ⟨H9, I9, q9⟩ => ?_
      have fin : ∀ {s' : Shared} {H' : Hp}, Inv (X.blk s3 H3 scope ce fp) ([] ++ pinsAt fp s7.heap) σ8 H' s' → Nx H' → ∃ m, m < n ∧ ∃ i H', Inv (X.blk s3 H3 scope ce fp) [] (wipe σ (own.map (·.2))) H' s' ∧ tn i s'.heap ∧ (∀ b ∈ fp, H' b = none) ∧ W i m H' := fun {s' H'} I' nx => by
        obtain ⟨m', hm, w'⟩ := hNx H' nx
        have pin' : ∀ b ∈ fp, ∀ o, s7.heap.get? b = some o → s'.heap.get? b = some o ∧ H' b = none := fun b hb o e =>
          let z := I'.pin (b, o) (List.mem_append_right _ (List.mem_append_right _ (mem_pinsAt hb e)))
          ⟨z.1, z.2.1⟩
        have hl : (wipe σ (own.map (·.2))).length = σ8.length := by rw [← hw8, wipe_length]
        refine ⟨m', hm, i + 1, H', (I'.unpinned (pins := [])).weak hl (fun j v e => ?_), T.keep _ _ _ st7 fun b hb o e => (pin' b hb o e).1, fun b hb => ?_, w'⟩
        · rw [← hw8] at e
          exact (wipe_some e).1
        · obtain ⟨o, e, _⟩ := T.obj _ _ st7 b hb
          exact (pin' b hb o e).2
      cases b with
      | false =>
        simp only [Bool.false_eq_true, if_false] at q9 ⊢
        exact fin I9 q9
      | true =>
        simp only [if_true] at q9 ⊢
        refine thnF (pe _ s9 σ8 H9 _ I9 q9) fun z s10 ⟨yv, H10, I10, r10, acc, hD10, hz10, nx⟩ => ?_
        exact app_ok (X := X.blk s3 H3 scope ce fp) I10 hD10 hz10 r10 fun s11 I11 => fin I11 nx
  exact codeAny_compStart_list loop (T.self X.A 0 _ _ _ st4 loop)
theorem pe_lc {elt tg iter : Expr} {ifs : List Expr} {scope : Scope} {own : List (Str × Nat)} {pos : Pos} {wi : TI} {g : TG} {tt : TT} {te : TE} (hc : X.calm = true) (hN : X.N.Nodup) (hi : PI X tg iter wi) (ok : BlkOk X.N X.env.scope scope own)
    (hg : ∀ (s : Shared) (H : Hp) (C : Addr) (cl : List (Str × Addr)) (fp : List Addr), PG (X.blk s H scope (compEnvC scope cl C X.env) fp) tg g) (ht : ∀ (s : Shared) (H : Hp) (C : Addr) (cl : List (Str × Addr)) (fp : List Addr), PTs (X.blk s H scope (compEnvC scope cl C X.env) fp) ifs tt)
    (he : ∀ (s : Shared) (H : Hp) (C : Addr) (cl : List (Str × Addr)) (fp : List Addr), PE (X.blk s H scope (compEnvC scope cl C X.env) fp) elt te) (hs : ∀ x, foldedSetIterable iter X.env x = pure x := by intro _; rfl) :
    PE X (.ListComp elt [⟨tg, iter, ifs, 0⟩] scope pos) (tLc wi g tt te (own.map (·.2))) := by
  intro pins s σ H Q I h
  rw [eval_ListComp]
  refine lc_core hc hN I hi ok hg ht he hs h fun D C s' m H' I' q hn f => ⟨m, hn, fun h'' sb => ?_⟩
  obtain ⟨f0, f1, f2, f3, f4, f5⟩ := f
  exact ⟨.ref D, H', I'.turned (t' := s'.toks) (fun b o hb e => (sb.2 b hb).trans e) f0 f1 f3 f4 f5, rfl, q⟩
end
end L2
namespace L2
open PySem PySem.Spec PyProof.Rows
section
variable {prog : Program} {w : World} {A : Around} {R : Result → Shared → Prop} {s : Shared} {elt t0 i0 t1 i1 : Expr} {ifs0 ifs1 : List Expr} {scope : Scope} {pos : Pos} {it acc : Value} {env : Env}
end
section
variable {X : Cx}
end
end L2
namespace L2
open PySem PySem.Spec PyProof.Rows
section
variable {κ : Type} [DecidableEq κ]
def valV (kvs : List (κ × V)) (k : κ) : Option V := (kvs.find? fun kv => decide (kv.1 = k)).map (·.2)
def putK (kvs : List (κ × V)) (k : κ) (v : V) : List (κ × V) :=
  if (kvs.any fun kv => decide (kv.1 = k)) = true then kvs.map (fun kv => if kv.1 = k then (kv.1, v) else kv) else kvs ++ [(k, v)]
def dropK (kvs : List (κ × V)) (k : κ) : List (κ × V) := kvs.filter fun kv => decide (kv.1 ≠ k)
theorem valV_pos {p : κ × V} {r : List (κ × V)} {k : κ} (e : p.1 = k) : valV (p :: r) k = some p.2 := by simp [valV, List.find?_cons, e]
theorem valV_neg {p : κ × V} {r : List (κ × V)} {k : κ} (e : ¬ p.1 = k) : valV (p :: r) k = valV r k := by simp [valV, List.find?_cons, e]
theorem valV_any (k : κ) : ∀ kvs : List (κ × V), (kvs.any fun kv => decide (kv.1 = k)) = (valV kvs k).isSome
  | [] => rfl
  | p :: r => by
    rw [List.any_cons]
    by_cases e : p.1 = k
    · simp only [valV_pos e, decide_eq_true e, Bool.true_or, Option.isSome_some]
    · rw [valV_neg e, decide_eq_false e, Bool.false_or]; exact valV_any k r
theorem length_putK (kvs : List (κ × V)) (k : κ) (v : V) : (putK kvs k v).length ≤ kvs.length + 1 := by
  unfold putK
  split
  · rw [List.length_map]; omega
  · rw [List.length_append, List.length_cons, List.length_nil]; omega
theorem putK_new {kvs : List (κ × V)} {k : κ} (v : V) (h : valV kvs k = none) : putK kvs k v = kvs ++ [(k, v)] := by
  unfold putK
  rw [valV_any, h]
  exact if_neg (by decide)
theorem RelO.isSome_eq {o : Option V} {u : Option Value} (r : RelO o u) : o.isSome = u.isSome := by
  cases o with
  | none => cases u with
    | none => rfl
    | some _ => exact (show False from r).elim
  | some _ => cases u with
    | none => exact (show False from r).elim
    | some _ => rfl
theorem KV.val {kvs : List (κ × V)} {vs : List (κ × Value)} (r : KV kvs vs) (k : κ) : RelO (valV kvs k) (valueAt vs k) := by
  unfold KV at r
  induction r with
  | nil => exact True.intro
  | @cons p q ps qs h t ih =>
    obtain ⟨h1, h2⟩ := h
    by_cases e : p.1 = k
    · have e' : q.1 = k := h1.symm.trans e
      have b : valueAt (q :: qs) k = some q.2 := by simp [valueAt, List.find?_cons, e']
      rw [valV_pos e, b]; exact h2
    · have e' : ¬ q.1 = k := fun z => e (h1.trans z)
      have b : valueAt (q :: qs) k = valueAt qs k := by simp [valueAt, List.find?_cons, e']
      rw [valV_neg e, b]; exact ih
theorem KV.any {kvs : List (κ × V)} {vs : List (κ × Value)} (r : KV kvs vs) (k : κ) : (kvs.any fun kv => decide (kv.1 = k)) = vs.any fun kv => decide (kv.1 = k) := by
  unfold KV at r
  induction r with
  | nil => rfl
  | cons h t ih => rw [List.any_cons, List.any_cons, ih, h.1]
theorem KV.repl {kvs : List (κ × V)} {vs : List (κ × Value)} (r : KV kvs vs) (k : κ) {y : V} {u : Value} (ry : RelV y u) :
    KV (kvs.map fun kv => if kv.1 = k then (kv.1, y) else kv) (vs.map fun kv => if kv.1 = k then (kv.1, u) else kv) := by
  unfold KV at r ⊢
  induction r with
  | nil => exact .nil
  | @cons p q ps qs h t ih =>
    rw [List.map_cons, List.map_cons]
    refine .cons ?_ ih
    obtain ⟨h1, h2⟩ := h
    by_cases e : p.1 = k
    · rw [if_pos e, if_pos (h1.symm.trans e)]; exact ⟨h1, ry⟩
    · rw [if_neg e, if_neg (fun z => e (h1.trans z))]; exact ⟨h1, h2⟩
theorem KV.put {kvs : List (κ × V)} {vs : List (κ × Value)} (r : KV kvs vs) (k : κ) {y : V} {u : Value} (ry : RelV y u) : KV (putK kvs k y) (stored vs k u) := by
  unfold putK stored
  rw [r.any k]
  by_cases e : (vs.any fun kv => decide (kv.1 = k)) = true
  · rw [if_pos e, if_pos e]; exact r.repl k ry
  · rw [if_neg e, if_neg e]; exact Paired.snoc r ⟨rfl, ry⟩
theorem KV.drop {kvs : List (κ × V)} {vs : List (κ × Value)} (r : KV kvs vs) (k : κ) : KV (dropK kvs k) (without vs k) := by
  unfold KV at r ⊢
  unfold dropK without
  induction r with
  | nil => exact .nil
  | @cons p q ps qs h t ih =>
    obtain ⟨h1, h2⟩ := h
    rw [List.filter_cons, List.filter_cons]
    by_cases e : p.1 = k
    · have a : ¬ decide (p.1 ≠ k) = true := by simp [e]
      have b : ¬ decide (q.1 ≠ k) = true := by simp [h1.symm.trans e]
      rw [if_neg a, if_neg b]; exact ih
    · have e' : ¬ q.1 = k := fun z => e (h1.trans z)
      have a : decide (p.1 ≠ k) = true := by simp [e]
      have b : decide (q.1 ≠ k) = true := by simp [e']
      rw [if_pos a, if_pos b]; exact .cons ⟨h1, h2⟩ ih
theorem KV.keys {kvs : List (κ × V)} {vs : List (κ × Value)} (r : KV kvs vs) : kvs.map (·.1) = vs.map (·.1) := by
  unfold KV at r
  induction r with
  | nil => rfl
  | cons h t ih => rw [List.map_cons, List.map_cons, ih, h.1]
theorem KV.length {kvs : List (κ × V)} {vs : List (κ × Value)} (r : KV kvs vs) : kvs.length = vs.length := Paired.length r
theorem dropK_le (kvs : List (κ × V)) (k : κ) : (dropK kvs k).length ≤ kvs.length := List.length_filter_le _ _
end
theorem kV_is {P : Program} {w : World} {k : Key} {u : Value} (r : RelV (kV k) u) : (mixKind P w).is k u = true := by
  cases k with
  | inl i => obtain ⟨t, e⟩ := (show ∃ t, u = Value.int i t from r); subst e; exact mixKind_int P w i t
  | inr x => obtain ⟨t, e⟩ := (show ∃ t, u = Value.str x t from r); subst e; exact mixKind_str P w x t
theorem items_are {P : Program} {w : World} : ∀ {ks : List Key} {us : List Value}, Vals (ks.map kV) us → ItemsAre (mixKind P w) ks us
  | [], _, r => by rw [List.map_nil] at r; cases r; exact .nil
  | k :: ks, _, r => by
    rw [List.map_cons] at r
    cases r with
    | cons h t => exact .cons (kV_is h) (items_are t)
abbrev KT (H : Hp) : List (List Key × V) → List (List Key × Addr × Value) → Prop := Paired fun p q => p.1 = q.1 ∧ H q.2.1 = some (.tup (p.1.map kV)) ∧ RelV p.2 q.2.2
theorem KT.val {H : Hp} {kvs : List (List Key × V)} {xs : List (List Key × Addr × Value)} (r : KT H kvs xs) (k : List Key) : RelO (valV kvs k) ((atKey xs k).map (·.2)) := by
  induction r with
  | nil => exact True.intro
  | @cons p q ps qs h t ih =>
    obtain ⟨h1, _, h2⟩ := h
    by_cases e : p.1 = k
    · have e' : q.1 = k := h1.symm.trans e
      have b : atKey (q :: qs) k = some q.2 := by simp [atKey, List.find?_cons, e']
      rw [valV_pos e, b]; exact h2
    · have e' : ¬ q.1 = k := fun z => e (h1.trans z)
      have b : atKey (q :: qs) k = atKey qs k := by simp [atKey, List.find?_cons, e']
      rw [valV_neg e, b]; exact ih
theorem KT.repl {H : Hp} {kvs : List (List Key × V)} {xs : List (List Key × Addr × Value)} (r : KT H kvs xs) (k : List Key) {y : V} {u : Value} (ry : RelV y u) :
    KT H (kvs.map fun kv => if kv.1 = k then (kv.1, y) else kv) (xs.map (putAt k u)) := by
  induction r with
  | nil => exact .nil
  | @cons p q ps qs h t ih =>
    rw [List.map_cons, List.map_cons]
    refine .cons ?_ ih
    obtain ⟨h1, h2, h3⟩ := h
    unfold putAt
    by_cases e : p.1 = k
    · rw [if_pos e, if_pos (h1.symm.trans e)]; exact ⟨h1, h2, ry⟩
    · rw [if_neg e, if_neg (fun z => e (h1.trans z))]; exact ⟨h1, h2, h3⟩
theorem KT.put {H : Hp} {kvs : List (List Key × V)} {xs : List (List Key × Addr × Value)} (r : KT H kvs xs) (k : List Key) {b : Addr} {y : V} {u : Value} (hb : H b = some (.tup (k.map kV))) (ry : RelV y u) :
    KT H (putK kvs k y) (storedH xs k b u) := by
  have e : (kvs.any fun kv => decide (kv.1 = k)) = (atKey xs k).isSome := by
    rw [valV_any, (r.val k).isSome_eq, Option.isSome_map]
  unfold putK storedH
  rw [e]
  by_cases q : (atKey xs k).isSome = true
  · rw [if_pos q, if_pos q]; exact r.repl k ry
  · rw [if_neg q, if_neg q]; exact Paired.snoc r ⟨rfl, hb, ry⟩
theorem KT.keeps {H H' : Hp} {kvs : List (List Key × V)} {xs : List (List Key × Addr × Value)} (r : KT H kvs xs) (ht : ∀ b ys, H b = some (.tup ys) → H' b = some (.tup ys)) : KT H' kvs xs :=
  Paired.mapP r fun _ _ z => ⟨z.1, ht _ _ z.2.1, z.2.2⟩
section
variable {P : Program} {w : World} {H : Hp} {h : Heap} {a : Addr}
theorem rd_of {u : HO} (ok : HOk P w H h) (e : Rd H a u) : ObjOk P w H h a u := e.ok ok
theorem dk_rd {kvs : List (Key × V)} (ok : HOk P w H h) (e : Rd H a (.dK kvs)) : kvs.length ≤ sizeLine ∧ (a == sysModules) = false ∧ ∃ vs, KV kvs vs ∧ h.DictOf (mixKind P w) a vs :=
  show ObjOk P w H h a (.dK kvs) from rd_of ok e
theorem dk_of {kvs : List (Key × V)} (ok : HOk P w H h) (e : H a = some (.dK kvs)) : kvs.length ≤ sizeLine ∧ (a == sysModules) = false ∧ ∃ vs, KV kvs vs ∧ h.DictOf (mixKind P w) a vs := dk_rd ok (.inl e)
theorem key_of {ks : List Key} (ok : HOk P w H h) (e : H a = some (.tup (ks.map kV))) : (tupleKind (mixKind P w)).is h ks a := by
  obtain ⟨_, its, r, o, h1, h2, n, h3⟩ := (show ObjOk P w H h a (.tup (ks.map kV)) from ok a _ e)
  exact ⟨o, its.toArray, n, h1, h2, h3, by simpa using items_are r⟩
theorem dt_rd {kvs : List (List Key × V)} (ok : HOk P w H h) (e : Rd H a (.dT kvs)) : kvs.length ≤ sizeLine ∧ (a == sysModules) = false ∧
    ∃ xs, KT H kvs xs ∧ h.DictOfH (tupleKind (mixKind P w)) a xs := by
  obtain ⟨z, y, xs, r, o, es, ep, h1, h2, h3, h4, h5⟩ := (show ObjOk P w H h a (.dT kvs) from rd_of ok e)
  refine ⟨z, y, xs, r, o, es, ep, h1, h2, h3, h4, fun x hx => ?_, h5⟩
  have all : ∀ {l : List (List Key × V)} {m : List (List Key × Addr × Value)}, KT H l m → ∀ x ∈ m, (tupleKind (mixKind P w)).is h x.1 x.2.1 := by
    intro l m q
    induction q with
    | nil => intro x hx; exact nomatch hx
    | @cons p q ps qs hq t ih =>
      intro x hx
      rcases List.mem_cons.mp hx with e | hx
      · subst e
        exact key_of ok (by rw [← hq.1]; exact hq.2.1)
      · exact ih x hx
  exact all r x hx
theorem dt_of {kvs : List (List Key × V)} (ok : HOk P w H h) (e : H a = some (.dT kvs)) : kvs.length ≤ sizeLine ∧ (a == sysModules) = false ∧
    ∃ xs, KT H kvs xs ∧ h.DictOfH (tupleKind (mixKind P w)) a xs := dt_rd ok (.inl e)
end
def DGet (H : Hp) (a : Addr) (y : V) (r : Option V) : Prop :=
  (∃ kvs k, Rd H a (.dK kvs) ∧ y = kV k ∧ r = valV kvs k) ∨ ∃ kvs k b, Rd H a (.dT kvs) ∧ y = .ref b ∧ H b = some (.tup (k.map kV)) ∧ r = valV kvs k
def DPut (H : Hp) (a : Addr) (y v : V) (H' : Hp) : Prop :=
  (∃ kvs k, H a = some (.dK kvs) ∧ y = kV k ∧ kvs.length < sizeLine ∧ H' = upd H a (.dK (putK kvs k v))) ∨
  ∃ kvs k b, H a = some (.dT kvs) ∧ y = .ref b ∧ H b = some (.tup (k.map kV)) ∧ kvs.length < sizeLine ∧ H' = upd H a (.dT (putK kvs k v))
theorem DGet.k {H : Hp} {a : Addr} {kvs : List (Key × V)} {k : Key} (e : H a = some (.dK kvs)) : DGet H a (kV k) (valV kvs k) := .inl ⟨kvs, k, .inl e, rfl, rfl⟩
theorem DPut.k {H : Hp} {a : Addr} {kvs : List (Key × V)} {k : Key} {v : V} (e : H a = some (.dK kvs)) (hl : kvs.length < sizeLine) : DPut H a (kV k) v (upd H a (.dK (putK kvs k v))) := .inl ⟨kvs, k, e, rfl, hl, rfl⟩
section
variable {X : Cx} {pins : List (Addr × Obj)} {σ : St} {H : Hp} {s : Shared} {a : Addr} {y v : V} {u r : Value} {o : Option V} {A : Around} {E : Value → Shared → Prop}
theorem Inv.big (I : Inv X pins σ H s) : sysModules < s.heap.objs.size := by
  have h : mainGlobals < s.heap.objs.size := (I.mod.glob.keeps I.bk).lt
  exact Nat.lt_trans (by decide) h
theorem d_getItem {Q : Value → Shared → Prop} (hu : A.units + 1 < cLine) (I : Inv X pins σ H s) (g : DGet H a y (some v)) (ry : RelV y u) (h : ∀ w' s', Inv X pins σ H s' → RelV v w' → Q w' s') :
    wpAny (model X.prog X.w) A (getItem (.ref a) u) Q E s := by
  rcases g with ⟨kvs, k, e, ey, l⟩ | ⟨kvs, k, b, e, ey, eb, l⟩
  · subst ey
    obtain ⟨z, hd, vs, rel, dd⟩ := dk_rd I.hok e
    obtain ⟨w', hw, rw'⟩ := RelO.some_of (v := v) (o := valueAt vs k) (by rw [l]; exact rel.val k)
    exact wpAny_getItem_of (kV_is ry) dd.mapOf hw (h w' _ (I.tok _) rw')
  · subst ey
    cases (show u = Value.ref b from ry)
    obtain ⟨z, hd, xs, rel, dd⟩ := dt_rd I.hok e
    obtain ⟨w', hw, rw'⟩ := RelO.some_of (v := v) (o := (atKey xs k).map (·.2)) (by rw [l]; exact rel.val k)
    obtain ⟨p, hp, hp2⟩ := Option.map_eq_some_iff.mp hw
    refine wpAny_getItem_heap (tupleKind_room_in1 hu) (key_of I.hok eb) dd hp ?_
    rw [hp2]
    exact h w' _ (I.tok _) rw'
theorem d_in {Q : Value → Shared → Prop} (hu : A.units + 1 < cLine) (I : Inv X pins σ H s) (g : DGet H a y o) (ry : RelV y u) (h : ∀ s', Inv X pins σ H s' → Q (.bool o.isSome) s') :
    wpAny (model X.prog X.w) A (compareOp .In u (.ref a)) Q E s := by
  rcases g with ⟨kvs, k, e, ey, l⟩ | ⟨kvs, k, b, e, ey, eb, l⟩
  · subst ey
    obtain ⟨z, hd, vs, rel, dd⟩ := dk_rd I.hok e
    refine wpAny_in_of (kV_is ry) hd dd.mapOf ?_
    rw [← (rel.val k).isSome_eq, ← l]
    exact h _ (I.tok _)
  · subst ey
    cases (show u = Value.ref b from ry)
    obtain ⟨z, hd, xs, rel, dd⟩ := dt_rd I.hok e
    refine wpAny_in_heap (tupleKind_room_in1 hu) (key_of I.hok eb) hd dd ?_
    have q := (rel.val k).isSome_eq
    rw [Option.isSome_map] at q
    rw [← q, ← l]
    exact h _ (I.tok _)
theorem d_notIn {Q : Value → Shared → Prop} (hu : A.units + 1 < cLine) (I : Inv X pins σ H s) (g : DGet H a y o) (ry : RelV y u) (h : ∀ s', Inv X pins σ H s' → Q (.bool (!o.isSome)) s') :
    wpAny (model X.prog X.w) A (compareOp .NotIn u (.ref a)) Q E s := by
  rcases g with ⟨kvs, k, e, ey, l⟩ | ⟨kvs, k, b, e, ey, eb, l⟩
  · subst ey
    obtain ⟨z, hd, vs, rel, dd⟩ := dk_rd I.hok e
    refine wpAny_notIn_of (kV_is ry) hd dd.mapOf ?_
    rw [← (rel.val k).isSome_eq, ← l]
    exact h _ (I.tok _)
  · subst ey
    cases (show u = Value.ref b from ry)
    obtain ⟨z, hd, xs, rel, dd⟩ := dt_rd I.hok e
    refine wpAny_notIn_heap (tupleKind_room_in1 hu) (key_of I.hok eb) hd dd ?_
    have q := (rel.val k).isSome_eq
    rw [Option.isSome_map] at q
    rw [← q, ← l]
    exact h _ (I.tok _)
theorem d_write {h' : Heap} {t' : Nat} {ob : HO} (I : Inv X pins σ H s) (mu : Mut (H a)) (hs : Heap.SameBut a s.heap h') (he : ∃ q, h'.get? a = some q) (new : ObjOk X.prog X.w (upd H a ob) h' a ob) :
    Inv X pins σ (upd H a ob) { s with heap := h', toks := t' } :=
  I.write (x := a) (e := a) mu (.inl rfl) (fun b q hb z => (hs.2 b hb).trans z) he new
theorem dk_new {P : Program} {w : World} {H' : Hp} {h' : Heap} {kvs : List (Key × V)} {vs : List (Key × Value)} (z : kvs.length ≤ sizeLine) (hd : (a == sysModules) = false) (rel : KV kvs vs) (dd : h'.DictOf (mixKind P w) a vs) :
    ObjOk P w H' h' a (.dK kvs) := ⟨z, hd, vs, rel, dd⟩
theorem d_setItem {H' : Hp} {Q : Unit → Shared → Prop} (hu : A.units + 1 < cLine) (I : Inv X pins σ H s) (g : DPut H a y v H') (ry : RelV y u) (rv : RelV v r) (h : ∀ s', Inv X pins σ H' s' → Q () s') :
    wpAny (model X.prog X.w) A (setItem (.ref a) u r) Q E s := by
  rcases g with ⟨kvs, k, e, ey, l, eH⟩ | ⟨kvs, k, b, e, ey, eb, l, eH⟩
  · subst ey eH
    obtain ⟨z, hd, vs, rel, dd⟩ := dk_of I.hok e
    have hz : vs.length ≤ sizeLine := by rw [← rel.length]; exact z
    have hl : (putK kvs k v).length ≤ sizeLine := by have := length_putK kvs k v; omega
    refine wpAny_setItem_pairs (hsz := hz) (kV_is ry) dd fun h' dd' hs => h _ ?_
    have he : ∃ q, h'.get? a = some q := let ⟨q, _, _, hq, _⟩ := dd'; ⟨q, hq⟩
    exact d_write I (by rw [e]; exact True.intro) hs he (dk_new hl hd (rel.put k rv) dd')
  · subst ey eH
    cases (show u = Value.ref b from ry)
    obtain ⟨z, hd, xs, rel, dd⟩ := dt_of I.hok e
    have hz : xs.length ≤ sizeLine := by rw [← Paired.length rel]; exact z
    have hl : (putK kvs k v).length ≤ sizeLine := by have := length_putK kvs k v; omega
    refine wpAny_setItem_heap (hsz := hz) (tupleKind_room_in1 hu) (key_of I.hok eb) dd fun h' dd' hs => h _ ?_
    obtain ⟨q, es, ep, hq, h2, h3, h4, _, h5⟩ := dd'
    refine d_write I (by rw [e]; exact True.intro) hs ⟨q, hq⟩ ⟨hl, hd, _, (rel.put k eb rv).keeps fun c ys ec => ?_, q, es, ep, hq, h2, h3, h4, h5⟩
    rw [upd_ne (ne_of ec e (fun z => nomatch z))]
    exact ec
end
section
variable {X : Cx} {pins : List (Addr × Obj)} {σ : St} {H : Hp} {s : Shared} {a : Addr} {kvs : List (Key × V)} {k : Key} {u : Value} {A : Around} {E : Value → Shared → Prop}
theorem d_pop {v : V} {more : List Value} {Q : Value → Shared → Prop} (I : Inv X pins σ H s) (e : H a = some (.dK kvs)) (ry : RelV (kV k) u) (l : valV kvs k = some v) (hm : more = [] ∨ ∃ x, more = [x])
    (h : ∀ w' s', Inv X pins σ (upd H a (.dK (dropK kvs k))) s' → RelV v w' → Q w' s') : wpAny (model X.prog X.w) A (call (.builtin "dict.pop") (.ref a :: u :: more)) Q E s := by
  obtain ⟨z, hd, vs, rel, dd⟩ := dk_of I.hok e
  obtain ⟨w', hw, rw'⟩ := RelO.some_of (v := v) (o := valueAt vs k) (by rw [← l]; exact rel.val k)
  have hp : (keyPart u).isSome = true := by
    cases k with
    | inl i => obtain ⟨t, q⟩ := (show ∃ t, u = Value.int i t from ry); subst q; rfl
    | inr x => obtain ⟨t, q⟩ := (show ∃ t, u = Value.str x t from ry); subst q; rfl
  have ha : argsOk "dict.pop" ⟨.ref a :: u :: more, []⟩ := by
    rcases hm with q | ⟨x, q⟩
    · subst q; exact PySem.F.args_dict_pop_2 _ _
    · subst q; exact PySem.F.args_dict_pop_3 _ _ _
  refine call_meetsIn PySem.F.slot_dict_pop dd.typeIs PySem.F.entry_dict_pop ha (meets_dict_pop_there (mixKind X.prog X.w) a (kV_is ry) more hm hp)
    ⟨vs, w', dd, by rw [← rel.length]; exact z, hw, fun h' dd' hs => h w' _ ?_ rw'⟩
  have he : ∃ q, h'.get? a = some q := let ⟨q, _, _, hq, _⟩ := dd'; ⟨q, hq⟩
  exact d_write I (by rw [e]; exact True.intro) hs he (dk_new (Nat.le_trans (dropK_le kvs k) z) hd (rel.drop k) dd')
theorem d_len {Q : Value → Shared → Prop} (I : Inv X pins σ H s) (e : Rd H a (.dK kvs)) (h : ∀ t s', Inv X pins σ H s' → Q (.int kvs.length t) s') : wpAny (model X.prog X.w) A (call (.builtin "len") [.ref a]) Q E s := by
  obtain ⟨z, hd, vs, rel, dd⟩ := dk_rd I.hok e
  refine call_len_dict hd dd (by rw [← rel.length]; rw [sizeLine_eq] at z; omega) ?_
  rw [← rel.length]
  exact h _ _ (I.tok _)
end
def NoSl (i : Expr) : Prop := ∀ ov iv, subscripted i false ov iv = operate [ov, iv] (getItem ov iv)
theorem subD_of {prog : Program} {w : World} {A : Around} {E : Value → Shared → Prop} {s : Shared} {env : Env} {value slice : Expr} {pos : Pos} {T id : String} {Q : Value → Shared → Prop}
    (hl : typeLookup (.type T) "__getitem__" = pure (some (.builtin id))) (hs : NoSl slice)
    (h : wpAny (model prog w) A (eval value env) (fun o s₁ => wpAny (model prog w) A (eval slice env) (fun i s₂ => s₂.TypeIs o T ∧ wpAny (model prog w) A (getItem o i) Q E s₂) E s₁) E s) :
    wpAny (model prog w) A (eval (.Subscript value slice pos) env) Q E s := by
  refine Subscript_ (wpAny_mono h (fun o s₁ h₁ => wpAny_mono h₁ (fun i s₂ h₂ => ?_) fun _ _ x => x) fun _ _ x => x)
  obtain ⟨hT, h₂⟩ := h₂
  unfold subscriptTail
  refine wpAny_bind ?_
  rw [getitemInPython_of_ne hT.not_modules]
  refine wpAny_bind (wpAny_specialOf hT hl ?_)
  have fin : wpAny (model prog w) A (subscripted slice false o i) (fun r s₃ => wpAny (model prog w) A (letTemporaryGo value o r >>= fun _ => pure r) Q E s₃) E s₂ := by
    rw [hs o i]
    exact wpAny_operating (wpAny_mono h₂ (fun r s₃ h₃ => wpAny_bind (wpAny_letTemporaryGo (wpAny_pure h₃))) fun _ _ x => x)
  first
    | exact wpAny_pure (wpAny_bind fin)
    | exact wpAny_bind (wpAny_pure (wpAny_bind fin))
    | exact wpAny_bind fin
theorem dict_typeIs {X : Cx} {pins : List (Addr × Obj)} {σ : St} {H : Hp} {s : Shared} {a : Addr} {y : V} {o : Option V} (I : Inv X pins σ H s) (g : DGet H a y o) : s.TypeIs (.ref a) "dict" := by
  rcases g with ⟨kvs, k, e, _, _⟩ | ⟨kvs, k, b, e, _, _, _⟩
  · obtain ⟨_, _, vs, _, dd⟩ := dk_rd I.hok e
    exact dd.typeIs
  · obtain ⟨_, _, xs, _, dd⟩ := dt_rd I.hok e
    exact dd.typeIs
def tDGet (td ty : TE) : TE := fun σ H Q => td σ H fun x H1 => ty σ H1 fun y H2 => ∃ a v, x = .ref a ∧ DGet H2 a y (some v) ∧ Q v H2
def tDIn (ty td : TE) : TE := fun σ H Q => ty σ H fun y H1 => td σ H1 fun x H2 => ∃ a o, x = .ref a ∧ DGet H2 a y o ∧ Q (.bl o.isSome) H2
def tDNotIn (ty td : TE) : TE := fun σ H Q => ty σ H fun y H1 => td σ H1 fun x H2 => ∃ a o, x = .ref a ∧ DGet H2 a y o ∧ Q (.bl (!o.isSome)) H2
def sDPut (td ty tv : TE) : TS := fun D σ H => tv σ H fun v H1 => td σ H1 fun x H2 => ty σ H2 fun y H3 => ∃ a H4, x = .ref a ∧ DPut H3 a y v H4 ∧ D.nx σ H4
section
variable {X : Cx} {o i e value : Expr} {pos pos' tpos : Pos} {td ty tv : TE}
theorem pe_dget (hu : X.A.units + 1 < cLine) (ho : PE X o td) (hi : PE X i ty) (hs : NoSl i) : PE X (.Subscript o i pos) (tDGet td ty) := by
  intro pins s σ H Q I h
  refine subD_of PySem.F.slot_dict_getitem.lookup hs (thn (ho pins s σ H _ I h) fun u s1 ⟨x, H1, I1, rx, q1⟩ => thn (hi pins s1 σ H1 _ I1 q1) fun iv s2 ⟨y, H2, I2, ry, a, v, ex, g, q2⟩ => ?_)
  subst ex
  obtain rfl : u = Value.ref a := rx
  exact ⟨dict_typeIs I2 g, d_getItem hu I2 g ry fun w' s3 I3 rw' => ⟨v, H2, I3, rw', q2⟩⟩
theorem pc_din (hu : X.A.units + 1 < cLine) (hi : PE X i ty) (ho : PE X o td) : PC X .In i o (tDIn ty td) := by
  intro pins s σ H Q I h
  refine thn (hi pins s σ H _ I h) fun iv s1 ⟨y, H1, I1, ry, q1⟩ => thn (ho pins s1 σ H1 _ I1 q1) fun u s2 ⟨x, H2, I2, rx, a, ov, ex, g, q2⟩ => ?_
  subst ex
  obtain rfl : u = Value.ref a := rx
  exact d_in hu I2 g ry fun s3 I3 => ⟨.bl ov.isSome, H2, I3, rfl, q2⟩
theorem pc_dnotin (hu : X.A.units + 1 < cLine) (hi : PE X i ty) (ho : PE X o td) : PC X .NotIn i o (tDNotIn ty td) := by
  intro pins s σ H Q I h
  refine thn (hi pins s σ H _ I h) fun iv s1 ⟨y, H1, I1, ry, q1⟩ => thn (ho pins s1 σ H1 _ I1 q1) fun u s2 ⟨x, H2, I2, rx, a, ov, ex, g, q2⟩ => ?_
  subst ex
  obtain rfl : u = Value.ref a := rx
  exact d_notIn hu I2 g ry fun s3 I3 => ⟨.bl (!ov.isSome), H2, I3, rfl, q2⟩
theorem ps_dput (hu : X.A.units + 1 < cLine) (ho : PE X o td) (hi : PE X i ty) (hv : PE X value tv) (hs : swapsWith value (some (.Subscript o i pos')) pos.line X.env = pure false) :
    PS X (.Assign [.Subscript o i pos'] value pos) (sDPut td ty tv) := by
  intro pins s σ H D I h
  refine wpAny_Assign_Subscript (thn (hv pins s σ H _ I h) fun r s1 ⟨v, H1, I1, rv, q1⟩ => thn (ho pins s1 σ H1 _ I1 q1) fun u s2 ⟨x, H2, I2, rx, q2⟩ => thn (hi pins s2 σ H2 _ I2 q2) fun iv s3 ⟨y, H3, I3, ry, a, H4, ex, g, q3⟩ => ?_) hs
  subst ex
  obtain rfl : u = Value.ref a := rx
  exact d_setItem hu I3 g ry rv fun s4 I4 => ⟨σ, H4, I4, q3⟩
end
theorem dk_empty {P : Program} {w : World} {H : Hp} (h : Heap) (hb : sysModules < h.objs.size) : ObjOk P w H (h.push { cls := .type "dict", data := .dict #[] }) h.objs.size (.dK []) :=
  ⟨Nat.zero_le _, beq_eq_false_iff_ne.mpr (Ne.symm (Nat.ne_of_lt hb)), [], .nil, Heap.DictOf.new h⟩
def tDNewK : TE := fun _ H Q => ∀ p, H p = none → Q (.ref p) (upd H p (.dK []))
section
variable {X : Cx} {pos : Pos}
theorem pe_dnewK : PE X (.Dict [] [] pos) tDNewK := fun pins s σ H Q I h =>
  wpAny_Dict_empty ⟨.ref s.heap.objs.size, _, I.laid (a := s.heap.objs.size) (o := .dK []) (t' := s.toks) (fun _ _ q => Heap.get?_push_of_some _ q) (Nat.le_refl _) (dk_empty s.heap I.big), rfl, h _ (I.hok.fresh (Nat.le_refl _))⟩
end
structure M1 (X : Cx) (o : Expr) (m : Str) (apos : Pos) (e : Expr) (cpos : Pos) : Prop where
  base : attributeBase o m X.env (eval o X.env) = eval o X.env
  few : ((backTo cpos (starEach [e] X.env)).all (fun x => !x.1) && (backToKw cpos (keywordEach [] X.env)).all (fun x => x.1.isSome)
    && decide (([e] : List Expr).length + ([] : List Keyword).length + (if ([] : List Keyword).isEmpty then 0 else 1) < 30)) = true
  line : (apos.endLine == cpos.line) = true
  trees : backTo cpos (starEach [e] X.env) = [(false, eval e X.env)]
structure M2 (X : Cx) (o : Expr) (m : Str) (apos : Pos) (e f : Expr) (cpos : Pos) : Prop where
  base : attributeBase o m X.env (eval o X.env) = eval o X.env
  few : ((backTo cpos (starEach [e, f] X.env)).all (fun x => !x.1) && (backToKw cpos (keywordEach [] X.env)).all (fun x => x.1.isSome)
    && decide (([e, f] : List Expr).length + ([] : List Keyword).length + (if ([] : List Keyword).isEmpty then 0 else 1) < 30)) = true
  line : (apos.endLine == cpos.line) = true
  trees : backTo cpos (starEach [e, f] X.env) = [(false, eval e X.env), (false, eval f X.env)]
def IsD (H : Hp) (a : Addr) : Prop := (∃ kvs, Rd H a (.dK kvs)) ∨ ∃ kvs, Rd H a (.dT kvs)
theorem isD_at {X : Cx} {pins : List (Addr × Obj)} {σ : St} {H : Hp} {s : Shared} {a : Addr} (I : Inv X pins σ H s) (d : IsD H a) :
    s.TypeIs (.ref a) "dict" ∧ (∀ b, Value.ref a = .ref b → ∃ ob, s.heap.get? b = some ob ∧ ob.dict = none) ∧ (a == sysModules) = false := by
  rcases d with ⟨kvs, e⟩ | ⟨kvs, e⟩
  · obtain ⟨_, hd, vs, _, dd⟩ := dk_rd I.hok e
    refine ⟨dd.typeIs, fun b q => ?_, hd⟩
    cases q
    obtain ⟨ob, _, _, h1, h2, _⟩ := dd
    exact ⟨ob, h1, h2.2.1⟩
  · obtain ⟨_, hd, xs, _, dd⟩ := dt_rd I.hok e
    refine ⟨dd.typeIs, fun b q => ?_, hd⟩
    cases q
    obtain ⟨ob, _, _, h1, h2, _⟩ := dd
    exact ⟨ob, h1, h2.2.1⟩
section
variable {X : Cx} {pins : List (Addr × Obj)} {σ : St} {H : Hp} {s : Shared} {a : Addr} {y d : V} {u r : Value} {o : Option V} {A : Around} {E : Value → Shared → Prop}
end
def tDPop1 (td ty : TE) : TE := fun σ H Q => td σ H fun x H1 => ∃ a, x = .ref a ∧ IsD H1 a ∧ ty σ H1 fun y H2 => ∃ kvs k v, H2 a = some (.dK kvs) ∧ y = kV k ∧ valV kvs k = some v ∧ Q v (upd H2 a (.dK (dropK kvs k)))
section
variable {X : Cx} {o e f : Expr} {apos cpos : Pos} {td ty tx : TE}
theorem pe_dpop1 (ho : PE X o td) (he : PE X e ty) (m : M1 X o "pop" apos e cpos) : PE X (.Call (.Attribute o "pop" apos) [e] [] cpos) (tDPop1 td ty) := by
  intro pins s σ H Q I h
  refine wpAny_Call_method m.base m.few m.line PySem.F.plainAttrs_dict PySem.F.slot_dict_pop PySem.F.type_dict_pop (thn (ho pins s σ H _ I h) fun u s1 ⟨x, H1, I1, rx, a, ex, d, q1⟩ => ?_)
  subst ex
  obtain rfl : u = Value.ref a := rx
  obtain ⟨t1, t2, _⟩ := isD_at I1 d
  refine ⟨t1, t2, ?_⟩
  rw [m.trees]
  refine Calls.callWith_builtin rfl (Calls.evalArgs_plain (Calls.spliced_cons (thn (he pins s1 σ H1 _ I1 q1) fun iv s2 ⟨y, H2, I2, ry, kvs, k, v, ea, ey, l, q2⟩ => Calls.spliced_nil ?_)))
  subst ey
  exact d_pop I2 ea ry l (.inl rfl) fun w' s3 I3 rw' => ⟨v, _, I3, rw', q2⟩
end
section
variable {X : Cx} {pins : List (Addr × Obj)} {σ : St} {H : Hp} {s : Shared} {a : Addr} {kvs : List (Key × V)} {A : Around} {E : Value → Shared → Prop}
end
section
variable {X : Cx} {pins : List (Addr × Obj)} {σ : St} {H : Hp} {s : Shared} {a : Addr} {y : V} {u : Value} {A : Around} {E : Value → Shared → Prop}
end
end L2
namespace L2
open PySem PySem.Spec PyProof.Rows
section
variable {prog : Program} {w : World} {A : Around} {E : Value → Shared → Prop}
end
section
variable {X : Cx}
end
end L2
namespace L2
open PySem PySem.Spec PyProof.Rows
section
variable {X : Cx} {pins : List (Addr × Obj)} {σ : St} {H : Hp} {s : Shared} {h' : Heap}
theorem Inv.turnedNew {t' : Nat} {ch : List Addr} {T : Addr} {ob : HO} (I : Inv X pins σ H s) (k : ∀ b o, b ∉ ch → s.heap.get? b = some o → h'.get? b = some o) (hf : ∀ b ∈ ch, FpOk X pins H b) (hT : s.heap.objs.size ≤ T)
    (new : ObjOk X.prog X.w (upd H T ob) h' T ob) : Inv X pins σ (upd H T ob) { s with heap := h', toks := t' } := by
  have hn : H T = none := I.hok.fresh hT
  have nit : ∀ b u, H b = some u → b ∉ ch := fun b u e z => by
    have q := (hf b z).1
    rw [q] at e; cases e
  refine I.step (g' := s.gens) (d' := s.drawn) (ch := ch) (fun b hb => ⟨(hf b hb).2.2.2.1, (hf b hb).2.1, (hf b hb).2.2.2.2.1, (hf b hb).2.2.2.2.2⟩) (fun b o _ _ hc e _ => k b o hc e) (fun b o _ _ hc e _ => ⟨o.slots, k b o hc e⟩)
    (fun b o _ e n => ?_) (fun b o hc e => ⟨o, k b o hc e⟩) (fun b xs e => ?_) (fun b o u e => ?_) (fun b ps e => ⟨#[], ?_⟩) (fun m hm => ?_) (fun b u e => ?_) I.bare
  · rw [upd_ne (Nat.ne_of_lt (Nat.lt_of_lt_of_le (Heap.lt_size e) hT))]; exact n
  · rw [upd_ne (ne_of_none e hn)]; exact e
  · rw [upd_ne (ne_of_none e hn)]; exact e
  · rw [upd_ne (ne_of_none e hn), e]; simp
  · obtain ⟨o, es, ep, ho, r⟩ := hm
    exact ⟨o, es, ep, k _ o (fun z => (hf _ z).2.1 rfl) ho, r⟩
  · by_cases hb : b = T
    · subst hb
      rw [upd_same] at e
      cases e
      exact new
    · rw [upd_ne hb] at e
      refine (I.hok b u e).stay (fun c v hc q => k c v ?_ q) (fun c q => by rw [upd_ne (ne_of_none q hn)]; exact q) fun c xs q => by rw [upd_ne (ne_of_none q hn)]; exact q
      rcases hc with z | z
      · rw [z]; exact nit b u e
      · exact nit c _ z
theorem Inv.lock {d : Addr} {u : HO} (I : Inv X pins σ H s) (h : H d = some u) (mu : Mut (some u)) : ∃ od, Inv X pins σ (upd H d (.frz od u)) s := by
  have x := I.hok d u h
  have ex : ∃ od, s.heap.get? d = some od := by
    cases u with
    | lst xs => obtain ⟨_, _, _, _, e⟩ := x; exact ⟨_, e⟩
    | dK kvs => obtain ⟨_, _, _, _, o, _, _, e, _⟩ := x; exact ⟨o, e⟩
    | dT kvs => obtain ⟨_, _, _, _, o, _, _, e, _⟩ := x; exact ⟨o, e⟩
    | set S n => obtain ⟨o, _, _, _, e, _⟩ := x; exact ⟨o, e⟩
    | ins C dx fs => obtain ⟨_, _, _, e, _⟩ := x; exact ⟨_, e⟩
    | ext φ => obtain ⟨_, ⟨_, e⟩, _⟩ := x; exact ⟨_, e⟩
    | _ => exact False.elim mu
  obtain ⟨od, e⟩ := ex
  have new : ObjOk X.prog X.w (upd H d (.frz od u)) s.heap d (.frz od u) := by
    refine ⟨e, x.stay (fun b v _ q => q) (fun b q => ?_) fun b xs q => ?_⟩
    · rw [upd_ne (fun z => by rw [z, h] at q; cases q; exact mu)]; exact q
    · rw [upd_ne (fun z => by rw [z, h] at q; cases q; exact mu)]; exact q
  exact ⟨od, I.write (x := d) (e := d) (t' := s.toks) (h' := s.heap) (by rw [h]; exact mu) (.inl rfl) (fun b v _ q => q) ⟨od, e⟩ new⟩
theorem Inv.nofrz {d : Addr} {u : HO} (I : Inv X pins σ H s) (h : H d = some u) (mu : Mut (some u)) : ∀ o' u', X.H_0 d ≠ some (.frz o' u') := fun o' u' e => by
  have q := I.base.frzs d o' u' e
  rw [h] at q
  cases q
  exact mu
theorem Inv.unlock {d : Addr} {od : Obj} {u : HO} (I : Inv X pins σ H s) (h : H d = some (.frz od u)) (hn : ∀ o' u', X.H_0 d ≠ some (.frz o' u')) : Inv X pins σ (upd H d u) s := by
  have neH : ∀ b o, H b = some o → (∀ o' u', o ≠ .frz o' u') → b ≠ d := fun b o e hne z => by
    rw [z, h] at e
    cases e
    exact hne _ _ rfl
  have neN : ∀ b, H b = none → b ≠ d := fun b e z => by rw [z, h] at e; cases e
  refine ⟨I.ok, I.os, I.bare, ⟨I.base.keep, I.base.slot, fun b o e n hx => ?_, I.base.there, fun b xs e => ?_, fun b o x e => ?_, fun b ps e => ?_⟩, I.loc, I.cell, ?_, fun x c e => ?_, fun p hp => ?_, fun b o e => ?_, I.len⟩
  · rw [upd_ne (neN b (I.base.free b o e n hx))]; exact I.base.free b o e n hx
  · have q := I.base.tups b xs e
    rw [upd_ne (neH b _ q (fun _ _ z => nomatch z))]; exact q
  · have q := I.base.frzs b o x e
    rw [upd_ne (fun z => by rw [z] at e; exact hn _ _ e)]; exact q
  · obtain ⟨m, q⟩ := I.base.tbls b ps e
    exact ⟨m, by rw [upd_ne (neH b _ q (fun _ _ z => nomatch z))]; exact q⟩
  · rw [upd_ne (neN _ I.free)]; exact I.free
  · rw [upd_ne (neN c (I.freeC x c e))]; exact I.freeC x c e
  · obtain ⟨e, n, r⟩ := I.pin p hp
    exact ⟨e, by rw [upd_ne (neN _ n)]; exact n, r⟩
  · by_cases hb : b = d
    · rw [hb, upd_same] at e
      cases e
      rw [hb]
      obtain ⟨_, x⟩ := I.hok d _ h
      exact x.stay (fun c v _ q => q) (fun c q => by rw [upd_ne (neH c _ q (fun _ _ z => nomatch z))]; exact q) fun c xs q => by rw [upd_ne (neH c _ q (fun _ _ z => nomatch z))]; exact q
    · rw [upd_ne hb] at e
      exact (I.hok b o e).stay (fun c v _ q => q) (fun c q => by rw [upd_ne (neH c _ q (fun _ _ z => nomatch z))]; exact q) fun c xs q => by rw [upd_ne (neH c _ q (fun _ _ z => nomatch z))]; exact q
end
def tLock (t : TS) : TS := fun D σ H => ∃ d u, H d = some u ∧ Mut (some u) ∧ ∀ od, t ⟨fun σ' H' => H' d = some (.frz od u) ∧ D.nx σ' (upd H' d u), fun v H' => H' d = some (.frz od u) ∧ D.rt v (upd H' d u), fun σ' H' => H' d = some (.frz od u) ∧ D.bk σ' (upd H' d u), fun σ' H' => H' d = some (.frz od u) ∧ D.ct σ' (upd H' d u)⟩ σ (upd H d (.frz od u))
section
variable {X : Cx}
theorem ps_lock {st : Stmt} {t : TS} (h : PS X st t) : PS X st (tLock t) := by
  intro pins s σ H D I hw
  obtain ⟨d, u, hd, mu, hw⟩ := hw
  obtain ⟨od, I1⟩ := I.lock hd mu
  refine thn (h pins s σ _ _ I1 (hw od)) fun f s1 q => ?_
  cases f with
  | next => obtain ⟨σ', H', I2, e, q⟩ := q; exact ⟨σ', _, I2.unlock e (I.nofrz hd mu), q⟩
  | brk => obtain ⟨σ', H', I2, e, q⟩ := q; exact ⟨σ', _, I2.unlock e (I.nofrz hd mu), q⟩
  | cont => obtain ⟨σ', H', I2, e, q⟩ := q; exact ⟨σ', _, I2.unlock e (I.nofrz hd mu), q⟩
  | ret v => obtain ⟨x, σ', H', I2, r, e, q⟩ := q; exact ⟨x, σ', _, I2.unlock e (I.nofrz hd mu), r, q⟩
theorem pi_one {tg : Expr} {pins : List (Addr × Obj)} {σ : St} {H : Hp} {s : Shared} {R : It → Hp → Prop} {J : It} {tn : Nat → Heap → Prop} {tk : Nat} (I : Inv X pins σ H s) (o : Obj)
    (T : Turn X.prog X.w X.K tg J [s.heap.objs.size] s.heap.objs.size tn) (st : tn 0 (s.heap.push o)) (q : R J H) : PIE X pins σ tg R (.ref s.heap.objs.size) { s with heap := s.heap.push o, toks := tk } := by
  refine ⟨s.heap.objs.size, [s.heap.objs.size], tn, J, H, rfl, I.kept fun b ob e => Heap.get?_push_of_some _ e, T, st, fun b hb => ?_, q⟩
  have e : b = s.heap.objs.size := by simpa using hb
  subst e
  exact I.fpOk (Nat.le_refl _) (I.hok.fresh (Nat.le_refl _))
end
def Itc (lo c : Int) (n : Nat) : It := ⟨fun i _ => i < n, fun i H x H' => H' = H ∧ x = .int (lo + (i : Nat) * c), fun i _ => n ≤ i⟩
theorem turn_rangeC {P : Program} {w : World} {K : PySem.W.Frag} {tg : Expr} (it : Addr) (lo c : Int) (n : Nat) : Turn P w K tg (Itc lo c n) [it] it (fun i h => IsRangeIter h it (lo + (i : Nat) * c) ((n : Int) - (i : Nat)) c) where
  mem := by simp
  obj := fun i h st b hb => by
    have e : b = it := by simpa using hb
    subst e
    exact ⟨_, st, fun v z => nomatch z⟩
  keep := fun i h h' st k => k it (by simp) _ st
  item := by
    intro X hP hw hK hc i pins s σ H E I hf st hg
    subst hP hw hK
    obtain ⟨f0, f1, f2, f3, f4, f5⟩ := hf it (by simp)
    have W := Walks.range (prog := X.prog) (w := X.w) (I.ok.hd hc) it lo c n
    refine W.item i s _ _ hg st fun v h' tk hv st' kk => ?_
    obtain ⟨t, rfl⟩ := hv
    have I1 : Inv X pins σ H { s with heap := h', toks := tk } := I.turned (fun b o hb e => kk b o (by simpa using hb) e) f0 f1 f3 f4 f5
    exact ⟨_, rfl, go_of (s := { s with heap := h', toks := tk }) (n := "range_iterator") st' rfl rfl (by decide) ⟨.int (lo + (i : Nat) * c), H, I1, ⟨t, rfl⟩, ⟨rfl, rfl⟩, st', fun b hb => (hf b hb).1⟩⟩
  done := by
    intro X hP hw hK hc i pins s σ H E I hf st hg
    subst hP hw hK
    obtain ⟨f0, f1, f2, f3, f4, f5⟩ := hf it (by simp)
    exact wpAny_pyNext_range_end (I.ok.hd hc) st (by have : n ≤ i := hg; omega) fun h' eb => ⟨rfl, I.turned (t' := s.toks) (fun b o hb e => eb b o hb e) f0 f1 f3 f4 f5⟩
  self := fun A i s Q E st h => wpAny_pyIter_rangeiter st h
def RgC (i j c : Int) (n : Nat) : Prop := c ≠ 0 ∧ c.natAbs < 1073741824 ∧ Builtin.Range.small i j c = true ∧ Builtin.Range.rangeSize i j c = n
def iRng3 (ta : TA) : TI := fun σ H R => ta σ H fun vs H1 => ∃ (i j c : Int) (n : Nat), vs = [.int i, .int j, .int c] ∧ RgC i j c n ∧ R (Itc i c n) H1
section
variable {X : Cx} {tg : Expr}
theorem pi_range3 {a b c : Expr} {ta : TA} {p pos : Pos} (hg : Gl X "range") (hm : X.mg "range" = none) (ha : PA X [a, b, c] ta)
    (hs : starEach [a, b, c] X.env = (false, eval a X.env) :: starEach [b, c] X.env := by rfl) (hpl : (backTo pos (starEach [b, c] X.env)).any (·.1) = false := by rfl) :
    PI X tg (.Call (.Name "range" p) [a, b, c] [] pos) (iRng3 ta) := by
  intro pins s σ H R I h
  refine Call_ (ld_blt I hg hm boot_range (PyProof.Rows.callWith_type1 (thn (ha pos pins s σ H _ I h) fun us s1 ⟨vs, H1, I1, r1, q1⟩ => ?_) hs hpl))
  obtain ⟨i, j, k, n, e, ⟨c0, c1, c2, c3⟩, q⟩ := q1
  subst e
  cases r1 with
  | cons r rr =>
    cases rr with
    | cons r' rr =>
      cases rr with
      | cons r'' rr =>
        cases rr
        obtain ⟨t, rfl⟩ := r
        obtain ⟨t', rfl⟩ := r'
        obtain ⟨t'', rfl⟩ := r''
        refine call_range_3 c0 ?_ (.inl (PyProof.noPylong_small c1))
        refine wpAny_pyIter_range (IsRange.new ..) c2 ?_
        have I2 : Inv X pins σ H1 { s1 with heap := s1.heap.push { cls := .type "range", data := .fields #[.int i t, .int j t', .int k t''] } } := I1.kept (t' := s1.toks) fun b o e => Heap.get?_push_of_some _ e
        refine pi_one (tk := s1.toks) I2 _ (turn_rangeC _ i k n) ?_ q
        have e1 : i + ((0 : Nat) : Int) * k = i := by simp
        have e2 : (n : Int) - ((0 : Nat) : Int) = Builtin.Range.rangeSize i j k := by rw [c3]; simp
        show IsRangeIter _ _ (i + ((0 : Nat) : Int) * k) ((n : Int) - ((0 : Nat) : Int)) k
        rw [e1, e2]
        exact Heap.get?_push_size _ rfl
end
section
variable {X : Cx} {tg : Expr}
end
section
variable {prog : Program} {w : World} {A : Around} {E : Value → Shared → Prop} {s : Shared}
theorem iter_keys {d : Addr} {o : Obj} {es : Array DictEntry} {ep : Nat} {Q : Value → Shared → Prop} (hd : (d == sysModules) = false) (ho : s.heap.get? d = some o) (hc : o.ExactDict) (hdat : o.data = .dict es ep)
    (hQ : Q (.ref s.heap.objs.size) { s with heap := s.heap.push { cls := .type "dict_keyiterator", data := .fields #[.ref d, .int 0 0, .int es.size 0, .int ep 0] } }) :
    wpAny (model prog w) A (pyIter (.ref d)) Q E s := by
  have hT : s.TypeIs (.ref d) "dict" := ⟨o, ho, hc.1⟩
  refine wpAny_pyIter_slot hT F.slot_dict_iter (wpAny_call_entry F.slot_dict_iter hT F.entry_dict_iter ?_ (F.args_dict_iter_1 _))
  unfold Builtin.«dict.__iter__»
  refine wpAny_bind ?_
  unfold Builtin.Dict.dictSlotNone
  refine wpAny_bind (wpAny_notOrdered_dict hT ?_)
  show wpAny _ _ (pure (Value.ref d)) _ _ s
  refine wpAny_pure ?_
  show wpAny _ _ (Builtin.Dict.showsAll d >>= _) _ _ s
  unfold Builtin.Dict.showsAll
  rw [if_neg (by rw [hd]; exact Bool.false_ne_true)]
  refine wpAny_bind (wpAny_pure ?_)
  refine wpAny_bind (wpAny_dictEntries ho hdat ?_)
  refine wpAny_bind (wpAny_dictEpoch ho hdat ?_)
  refine wpAny_bind (wpAny_newObj_type (wpAny_pure ⟨_, rfl, "dict_keyiterator", _, ⟨_, Heap.get?_push_size _ rfl, rfl⟩, F.slot_dict_keyiterator_next.lookup, ?_⟩))
  simpa [rawInt] using hQ
theorem next_key_item {it d : Addr} {i n ep : Nat} {od : Obj} {es : Array DictEntry} {en : DictEntry} {Q : Option Value → Shared → Prop} (hit : s.heap.IsKeyIter it d i n ep) (hod : s.heap.get? d = some od) (hdd : od.data = .dict es ep)
    (hsz : es.size = n) (hx : es[i]? = some en) (hQ : ∀ h', h'.IsKeyIter it d (i + 1) n ep → Heap.SameBut it s.heap h' → Q (some en.key) { s with heap := h' }) : wpAny (model prog w) A (pyNext (.ref it)) Q E s := by
  obtain ⟨o, ho, hc, hd⟩ := id hit
  unfold pyNext
  refine wpAny_bind (wpAny_attempt (wpAny_callSpecial?_slot (name := Str.ofString "__next__") hit.typeIs F.slot_dict_keyiterator_next
    (wpAny_call_entry F.slot_dict_keyiterator_next hit.typeIs F.entry_dict_keyiterator_next ?_ (F.args_dict_keyiterator_next_1 _))))
  refine wpAny_bind (wpAny_pure ?_)
  refine wpAny_bind ?_
  refine wpAny_bind ?_
  first | refine wpAny_bind (wpAny_typeNameOfWhole_keyiter hit.typeIs (wpAny_pure ?_)) | refine wpAny_bind (wpAny_typeNameOf_keyiter hit.typeIs (wpAny_pure ?_))
  refine wpAny_bind (wpAny_fieldsOf ho hd ?_)
  have hown : Builtin.Dict_items.ownsTuple "dict_keyiterator" = false := by decide
  simp only [hown, Bool.false_eq_true, if_false]
  show wpAny _ _ (if (Value.ref d == Value.none) = true then _ else _) _ _ s
  rw [if_neg (show ¬ ((Value.ref d == Value.none) = true) from Bool.false_ne_true)]
  refine wpAny_bind (wpAny_pure ?_)
  refine wpAny_bind (wpAny_dictEntries hod hdd ?_)
  rw [if_neg (by rw [hsz]; simp)]
  refine wpAny_bind (wpAny_pure ?_)
  refine wpAny_bind (wpAny_dictEpoch hod hdd ?_)
  rw [if_neg (by simp)]
  refine wpAny_pure ?_
  obtain ⟨hlt', hen⟩ := Array.getElem?_eq_some_iff.mp hx
  simp only [show ¬ ((i : Int) < 0) from by omega, if_false, Int.toNat_natCast, Array.getElem?_eq_getElem hlt']
  refine wpAny_bind ?_
  first | refine wpAny_bind (wpAny_typeNameOfWhole_keyiter hit.typeIs (wpAny_pure ?_)) | refine wpAny_bind (wpAny_typeNameOf_keyiter hit.typeIs (wpAny_pure ?_))
  refine wpAny_bind (wpAny_isOneOf_keyiter hit.typeIs ?_)
  show wpAny _ _ (setField (.ref it) 1 (rawInt ((i : Int) + 1)) >>= _) _ _ s
  refine wpAny_bind (wpAny_setField ho hd (by simp) ?_)
  have hit' : (s.heap.update it (Obj.mapFields (·.setIfInBounds 1 (rawInt ((i : Int) + 1))))).IsKeyIter it d (i + 1) n ep :=
    ⟨_, Heap.get?_update_self _ ho (Obj.isFreed_of_fields (Obj.data_mapFields hd _)), (Obj.cls_mapFields ..).trans hc, by rw [Obj.data_mapFields hd]; simp [rawInt]⟩
  refine wpAny_bind (wpAny_holding ?_)
  refine wpAny_bind (wpAny_isOneOf_keyiter (s := { s with heap := s.heap.update it (Obj.mapFields (·.setIfInBounds 1 (rawInt ((i : Int) + 1)))) }) hit'.typeIs ?_)
  show wpAny _ _ (pure es[i].key) _ _ _
  rw [hen]
  exact wpAny_pure (wpAny_pure ⟨_, rfl, wpAny_pure (hQ _ hit' (Heap.SameBut.update ..))⟩)
theorem next_key_end {it d : Addr} {i n ep : Nat} {od : Obj} {es : Array DictEntry} {Q : Option Value → Shared → Prop} (hh : A.handled = none) (hit : s.heap.IsKeyIter it d i n ep) (hod : s.heap.get? d = some od) (hdd : od.data = .dict es ep)
    (hsz : es.size = n) (hge : n ≤ i) (hQ : ∀ h', Heap.ExtBut it s.heap h' → Q none { s with heap := h' }) : wpAny (model prog w) A (pyNext (.ref it)) Q E s := by
  obtain ⟨o, ho, hc, hd⟩ := id hit
  unfold pyNext
  refine wpAny_bind (wpAny_attempt (wpAny_callSpecial?_slot (name := Str.ofString "__next__") hit.typeIs F.slot_dict_keyiterator_next
    (wpAny_call_entry F.slot_dict_keyiterator_next hit.typeIs F.entry_dict_keyiterator_next ?_ (F.args_dict_keyiterator_next_1 _))))
  refine wpAny_bind (wpAny_pure ?_)
  refine wpAny_bind ?_
  refine wpAny_bind ?_
  first | refine wpAny_bind (wpAny_typeNameOfWhole_keyiter hit.typeIs (wpAny_pure ?_)) | refine wpAny_bind (wpAny_typeNameOf_keyiter hit.typeIs (wpAny_pure ?_))
  refine wpAny_bind (wpAny_fieldsOf ho hd ?_)
  have hown : Builtin.Dict_items.ownsTuple "dict_keyiterator" = false := by decide
  simp only [hown, Bool.false_eq_true, if_false]
  show wpAny _ _ (if (Value.ref d == Value.none) = true then _ else _) _ _ s
  rw [if_neg (show ¬ ((Value.ref d == Value.none) = true) from Bool.false_ne_true)]
  refine wpAny_bind (wpAny_pure ?_)
  refine wpAny_bind (wpAny_dictEntries hod hdd ?_)
  rw [if_neg (by rw [hsz]; simp)]
  refine wpAny_bind (wpAny_pure ?_)
  refine wpAny_bind (wpAny_dictEpoch hod hdd ?_)
  rw [if_neg (by simp)]
  refine wpAny_pure ?_
  have hge' : es.size ≤ i := by rw [hsz]; exact hge
  simp only [show ¬ ((i : Int) < 0) from by omega, if_false, Int.toNat_natCast, Array.getElem?_eq_none hge']
  refine wpAny_bind ?_
  first | refine wpAny_bind (wpAny_typeNameOfWhole_keyiter hit.typeIs (wpAny_pure ?_)) | refine wpAny_bind (wpAny_typeNameOf_keyiter hit.typeIs (wpAny_pure ?_))
  show wpAny _ _ (setField (.ref it) 0 .none >>= _) _ _ s
  refine wpAny_bind (wpAny_setField ho hd (by simp) ?_)
  show wpAny _ _ (newExc (.type "StopIteration") [] >>= _) _ _ _
  refine wpAny_bind ?_
  simp only [newExc, newTuple]
  refine wpAny_bind (wpAny_newObj_type ?_ (by size_fits))
  refine wpAny_bind (m := firstArgMember _ _) (wpAny_of_eq (a := Value.none) (by first | rfl | (simp only [firstArgMember]; rfl)) ?_)
  refine wpAny_newObj_type ?_ (by size_fits)
  simp only [raiseNew]
  refine wpAny_bind (wpAny_handled ?_)
  rw [show A.in1.handled = none from hh]
  refine wpAny_bind (wpAny_pure (wpAny_throw ?_))
  refine wpAny_bind (wpAny_isInstance (T := "StopIteration") (b := true) ⟨_, Heap.get?_push_size _ rfl, rfl⟩ isSubtype_stop ?_)
  exact wpAny_pure (hQ _ (((Heap.SameBut.update ..).extBut.push _).push _))
end
theorem kv_get {κ : Type} {kvs : List (κ × V)} {vs : List (κ × Value)} (h : KV kvs vs) : ∀ {i : Nat} {k : κ} {v : V}, kvs[i]? = some (k, v) → ∃ u, vs[i]? = some (k, u) ∧ RelV v u := by
  unfold KV at h
  induction h with
  | nil => intro i k v e; simp at e
  | @cons a b l₁ l₂ r t ih =>
    intro i k v e
    cases i with
    | zero =>
      simp only [List.getElem?_cons_zero, Option.some.injEq] at e
      subst e
      refine ⟨b.2, ?_, r.2⟩
      simp only [List.getElem?_cons_zero]
      exact congrArg some (Prod.ext r.1.symm rfl)
    | succ j =>
      simp only [List.getElem?_cons_succ] at e ⊢
      exact ih e
theorem paired_get {α β : Type} {G : α → β → Prop} {l₁ : List α} {l₂ : List β} (h : Paired G l₁ l₂) : ∀ {i : Nat} {a : α}, l₁[i]? = some a → ∃ b, l₂[i]? = some b ∧ G a b := by
  induction h with
  | nil => intro i a e; simp at e
  | @cons a b l₁ l₂ r t ih =>
    intro i a' e
    cases i with
    | zero =>
      simp only [List.getElem?_cons_zero, Option.some.injEq] at e
      subst e
      exact ⟨b, rfl, r⟩
    | succ j =>
      simp only [List.getElem?_cons_succ] at e ⊢
      exact ih e
theorem relV_key {k : Key} {u : Value} (h : keyIs k u = true) : RelV (kV k) u := by
  rcases keyIs_shape h with ⟨i, t, rfl, rfl⟩ | ⟨x, t, rfl, rfl⟩
  · exact ⟨t, rfl⟩
  · exact ⟨t, rfl⟩
section
variable {X : Cx} {pins : List (Addr × Obj)} {σ : St} {H : Hp} {s : Shared} {d : Addr} {o : Obj}
theorem Inv.frzK {kvs : List (Key × V)} (I : Inv X pins σ H s) (h : H d = some (.frz o (.dK kvs))) :
    (d == sysModules) = false ∧ s.heap.get? d = some o ∧ o.ExactDict ∧ ∃ (es : Array DictEntry) (ep : Nat) (vs : List (Key × Value)), o.data = .dict es ep ∧ es.size = kvs.length ∧ KV kvs vs ∧ s.heap.DictAt (mixKind X.prog X.w) d vs ep := by
  obtain ⟨hd, z, hs, vs, kv, o', es, ep, ho, hx, hdt, r⟩ := I.hok d _ h
  rw [hd] at ho
  cases ho
  refine ⟨hs, hd, hx, es, ep, vs, hdt, ?_, kv, o, es, hd, hx, hdt, r⟩
  have l1 := r.2.1.length
  have l2 : kvs.length = vs.length := Paired.length kv
  rw [Array.length_toList] at l1
  omega
theorem Inv.frzT {kvs : List (List Key × V)} (I : Inv X pins σ H s) (h : H d = some (.frz o (.dT kvs))) :
    (d == sysModules) = false ∧ s.heap.get? d = some o ∧ o.ExactDict ∧ ∃ (es : Array DictEntry) (ep : Nat), o.data = .dict es ep ∧ es.size = kvs.length ∧
      ∀ (i : Nat) (k : List Key) (v : V), kvs[i]? = some (k, v) → ∃ (en : DictEntry) (q : Addr), es[i]? = some en ∧ en.key = .ref q ∧ H q = some (.tup (k.map kV)) := by
  obtain ⟨hd, z, hs, xs, pr, o', es, ep, ho, hx, hdt, he, _⟩ := I.hok d _ h
  rw [hd] at ho
  cases ho
  refine ⟨hs, hd, hx, es, ep, hdt, ?_, fun i k v e => ?_⟩
  · have l1 : es.size = xs.length := size_of_entries he
    have l2 : kvs.length = xs.length := Paired.length pr
    omega
  · obtain ⟨b, hb, e1, e2, _⟩ := paired_get pr e
    have q := entry_at he i
    rw [hb] at q
    exact ⟨_, b.2.1, q, rfl, e2⟩
end
def Itk (d : Addr) (o : Obj) (kvs : List (Key × V)) : It :=
  ⟨fun i H => H d = some (.frz o (.dK kvs)) ∧ i < kvs.length, fun i H x H' => H' = H ∧ ∃ k v, kvs[i]? = some (k, v) ∧ x = kV k, fun i H => H d = some (.frz o (.dK kvs)) ∧ kvs.length ≤ i⟩
def Itkt (d : Addr) (o : Obj) (kvs : List (List Key × V)) : It :=
  ⟨fun i H => H d = some (.frz o (.dT kvs)) ∧ i < kvs.length, fun i H x H' => H' = H ∧ ∃ (k : List Key) (v : V) (q : Addr), kvs[i]? = some (k, v) ∧ x = .ref q ∧ H q = some (.tup (k.map kV)), fun i H => H d = some (.frz o (.dT kvs)) ∧ kvs.length ≤ i⟩
theorem dict_ep {o : Obj} {es es' : Array DictEntry} {ep ep' : Nat} (h : o.data = .dict es ep) (h' : o.data = .dict es' ep') : es' = es ∧ ep' = ep := by
  rw [h] at h'
  cases h'
  exact ⟨rfl, rfl⟩
section
variable {P : Program} {w : World} {K : PySem.W.Frag} {tg : Expr} {d : Addr} {o : Obj} {es : Array DictEntry} {ep : Nat}
theorem turn_keys {kvs : List (Key × V)} (it : Addr) (hod : o.data = .dict es ep) : Turn P w K tg (Itk d o kvs) [it] it (fun i h => h.IsKeyIter it d i kvs.length ep) where
  mem := by simp
  obj := fun i h st b hb => by
    have e : b = it := by simpa using hb
    subst e
    obtain ⟨oi, e, c, dd⟩ := st
    exact ⟨oi, e, fun v z => by rw [dd] at z; cases z⟩
  keep := fun i h h' st k => st.at fun oi e => k it (by simp) oi e
  item := by
    intro X hP hw hK hc i pins s σ H E I hf st hg
    subst hP hw hK
    obtain ⟨hd, hi⟩ := hg
    obtain ⟨f0, f1, f2, f3, f4, f5⟩ := hf it (by simp)
    obtain ⟨hs, hgd, hx, es', ep', vs, hdt, hsz, kv, hm⟩ := I.frzK hd
    obtain ⟨rfl, rfl⟩ := dict_ep hod hdt
    obtain ⟨⟨k, v⟩, hkv⟩ : ∃ p, kvs[i]? = some p := ⟨kvs[i], List.getElem?_eq_getElem hi⟩
    obtain ⟨u, hu, ru⟩ := kv_get kv hkv
    have hl : kvs.length = vs.length := Paired.length kv
    rw [hl] at st
    refine wpAny_pyNext_dict_item st hm hu fun key h' hkey st' sb => ?_
    have I1 : Inv X pins σ H { s with heap := h' } := I.turned (t' := s.toks) (fun b ob hb e => (sb.2 b hb).trans e) f0 f1 f3 f4 f5
    obtain ⟨oi, e, c, dd⟩ := id st'
    refine ⟨key, rfl, go_of (s := { s with heap := h' }) e c dd (by decide) ⟨kV k, H, I1, relV_key (show keyIs k key = true from hkey), ⟨rfl, k, v, hkv, rfl⟩, ?_, fun b hb => (hf b hb).1⟩⟩
    show h'.IsKeyIter it d (i + 1) kvs.length _
    rw [hl]
    exact st'
  done := by
    intro X hP hw hK hc i pins s σ H E I hf st hg
    subst hP hw hK
    obtain ⟨hd, hi⟩ := hg
    obtain ⟨f0, f1, f2, f3, f4, f5⟩ := hf it (by simp)
    obtain ⟨hs, hgd, hx, es', ep', vs, hdt, hsz, kv, hm⟩ := I.frzK hd
    obtain ⟨rfl, rfl⟩ := dict_ep hod hdt
    exact next_key_end (I.ok.hd hc) st hgd hdt hsz hi fun h' eb => ⟨rfl, I.turned (t' := s.toks) (fun b ob hb e => eb b ob hb e) f0 f1 f3 f4 f5⟩
  self := fun A i s Q E st h => wpAny_pyIter_keyiter st h
theorem turn_keysT {kvs : List (List Key × V)} (it : Addr) (hod : o.data = .dict es ep) : Turn P w K tg (Itkt d o kvs) [it] it (fun i h => h.IsKeyIter it d i kvs.length ep) where
  mem := by simp
  obj := fun i h st b hb => by
    have e : b = it := by simpa using hb
    subst e
    obtain ⟨oi, e, c, dd⟩ := st
    exact ⟨oi, e, fun v z => by rw [dd] at z; cases z⟩
  keep := fun i h h' st k => st.at fun oi e => k it (by simp) oi e
  item := by
    intro X hP hw hK hc i pins s σ H E I hf st hg
    subst hP hw hK
    obtain ⟨hd, hi⟩ := hg
    obtain ⟨f0, f1, f2, f3, f4, f5⟩ := hf it (by simp)
    obtain ⟨hs, hgd, hx, es', ep', hdt, hsz, ent⟩ := I.frzT hd
    obtain ⟨rfl, rfl⟩ := dict_ep hod hdt
    obtain ⟨⟨k, v⟩, hkv⟩ : ∃ p, kvs[i]? = some p := ⟨kvs[i], List.getElem?_eq_getElem hi⟩
    obtain ⟨en, q, hen, hkey, hq⟩ := ent i k v hkv
    refine next_key_item st hgd hdt hsz hen fun h' st' sb => ?_
    have I1 : Inv X pins σ H { s with heap := h' } := I.turned (t' := s.toks) (fun b ob hb e => (sb.2 b hb).trans e) f0 f1 f3 f4 f5
    obtain ⟨oi, e, c, dd⟩ := id st'
    exact ⟨en.key, rfl, go_of (s := { s with heap := h' }) e c dd (by decide) ⟨.ref q, H, I1, hkey, ⟨rfl, k, v, q, hkv, rfl, hq⟩, st', fun b hb => (hf b hb).1⟩⟩
  done := by
    intro X hP hw hK hc i pins s σ H E I hf st hg
    subst hP hw hK
    obtain ⟨hd, hi⟩ := hg
    obtain ⟨f0, f1, f2, f3, f4, f5⟩ := hf it (by simp)
    obtain ⟨hs, hgd, hx, es', ep', hdt, hsz, ent⟩ := I.frzT hd
    obtain ⟨rfl, rfl⟩ := dict_ep hod hdt
    exact next_key_end (I.ok.hd hc) st hgd hdt hsz hi fun h' eb => ⟨rfl, I.turned (t' := s.toks) (fun b ob hb e => eb b ob hb e) f0 f1 f3 f4 f5⟩
  self := fun A i s Q E st h => by
    refine wpAny_pyIter_slot st.typeIs F.slot_dict_keyiterator_iter (wpAny_call_entry F.slot_dict_keyiterator_iter st.typeIs F.entry_dict_keyiterator_iter ?_ (F.args_dict_keyiterator_iter_1 _))
    show wpAny _ _ (ret (.ref it)) _ _ s
    exact wpAny_pure ⟨_, rfl, "dict_keyiterator", _, st.typeIs, F.slot_dict_keyiterator_next.lookup, h⟩
end
def iKeys (td : TE) : TI := fun σ H R => td σ H fun x H1 => ∃ d o, x = .ref d ∧ ((∃ kvs, H1 d = some (.frz o (.dK kvs)) ∧ R (Itk d o kvs) H1) ∨ ∃ kvs, H1 d = some (.frz o (.dT kvs)) ∧ R (Itkt d o kvs) H1)
section
variable {X : Cx} {tg e : Expr} {td : TE} {apos cpos : Pos}
theorem pi_keys (he : PE X e td) : PI X tg e (iKeys td) := by
  intro pins s σ H R I h
  refine thn (he pins s σ H _ I h) fun u s1 ⟨x, H1, I1, rx, d, o, ex, q⟩ => ?_
  subst ex
  obtain rfl : u = Value.ref d := rx
  rcases q with ⟨kvs, hd, q⟩ | ⟨kvs, hd, q⟩
  · obtain ⟨hs, hgd, hx, es, ep, vs, hdt, hsz, kv, hm⟩ := I1.frzK hd
    refine iter_keys hs hgd hx hdt (pi_one (tk := s1.toks) I1 _ (turn_keys _ hdt) ⟨_, Heap.get?_push_size _ rfl, rfl, ?_⟩ q)
    rw [hsz] <;> rfl
  · obtain ⟨hs, hgd, hx, es, ep, hdt, hsz, ent⟩ := I1.frzT hd
    refine iter_keys hs hgd hx hdt (pi_one (tk := s1.toks) I1 _ (turn_keysT _ hdt) ⟨_, Heap.get?_push_size _ rfl, rfl, ?_⟩ q)
    rw [hsz] <;> rfl
end
def Ite (K : PySem.W.Frag) (a : Addr) : It :=
  ⟨fun i H => ∃ (xs : List V) (x : V), SqL K H a xs ∧ xs[i]? = some x, fun i H v H' => ∃ T x, v = .ref T ∧ H T = none ∧ H' = upd H T (.tup [.int (i : Nat), x]) ∧ ∀ xs, SqL K H a xs → xs[i]? = some x, fun i H => ∃ xs : List V, SqL K H a xs ∧ xs.length ≤ i⟩
theorem turn_enum {P : Program} {w : World} {K : PySem.W.Frag} {elts : List Expr} {kk : Nat} {tpos : Pos} (a e it : Addr) :
    Turn P w K (.Tuple elts kk tpos) (Ite K a) [e, it] e (fun i h => (∃ old, IsEnum h e it ((i : Nat) : Int) old) ∧ h.IsListIter it a i ∧ e ≠ it) where
  mem := by simp
  obj := fun i h st b hb => by
    obtain ⟨⟨old, he⟩, ⟨o, ho, hc, hd⟩, _⟩ := st
    have e' : b = e ∨ b = it := by simpa using hb
    rcases e' with z | z
    · rw [z]; exact ⟨_, he, fun v q => nomatch q⟩
    · rw [z]; exact ⟨o, ho, fun v q => by rw [hd] at q; cases q⟩
  keep := fun i h h' st k => let ⟨⟨old, he⟩, hi, hne⟩ := st; ⟨⟨old, k e (by simp) _ he⟩, hi.at fun o q => k it (by simp) o q, hne⟩
  item := by
    intro X hP hw hK hc i pins s σ H E I hf st hg
    subst hP hw hK
    obtain ⟨⟨old, he⟩, hit, hne⟩ := st
    obtain ⟨xs, x, hq, hx⟩ := hg
    obtain ⟨its, rv, p, hz⟩ := I.list hq
    obtain ⟨u, hu, ru⟩ := rv.get hx
    have hel : e < s.heap.objs.size := Heap.lt_size he
    have hil : it < s.heap.objs.size := by obtain ⟨_, q, _⟩ := hit; exact Heap.lt_size q
    refine wpAny_pyNext_enum_item he hit p.isList (x := u) (by simpa using hu) hne fun h' ho hit' hT hsz hk => ?_
    refine ⟨_, rfl, wpAny_letOwnedTupleGo_enum (s := { s with heap := h', toks := s.toks + 1 }) ho fun h'' he' sb => ?_⟩
    have hT2 : h''.get? s.heap.objs.size = some { cls := .type "tuple", data := .seq #[.int i s.toks, u] } := (sb.2 _ (Nat.ne_of_gt hel)).trans hT
    have new : ObjOk X.prog X.w (upd H s.heap.objs.size (.tup [.int (i : Nat), x])) h'' s.heap.objs.size (.tup [.int (i : Nat), x]) :=
      ⟨by show 2 ≤ sizeLine; decide, [.int i s.toks, u], .cons ⟨_, rfl⟩ (.cons ru .nil), ⟨_, hT2, rfl, _, rfl⟩⟩
    have I1 : Inv X pins σ (upd H s.heap.objs.size (.tup [.int (i : Nat), x])) { s with heap := h'', toks := s.toks + 1 } :=
      I.turnedNew (ch := [e, it]) (fun b ob hb q => (sb.2 b (fun z => hb (by simp [z]))).trans (hk b ob (fun z => hb (by simp [z])) (fun z => hb (by simp [z])) q)) hf (Nat.le_refl _) new
    refine ⟨.ref s.heap.objs.size, _, I1, rfl, ⟨_, x, rfl, I.hok.fresh (Nat.le_refl _), rfl, fun ys hy => by rw [I.list_inj hy hq]; exact hx⟩, ⟨⟨u, ?_⟩, hit'.at fun o q => (sb.2 it (Ne.symm hne)).trans q, hne⟩, fun b hb => ?_⟩
    · have e1 : ((i + 1 : Nat) : Int) = (i : Int) + 1 := by omega
      rw [e1]; exact he'
    · have hb' : b < s.heap.objs.size := by
        have e' : b = e ∨ b = it := by simpa using hb
        rcases e' with z | z
        · rw [z]; exact hel
        · rw [z]; exact hil
      rw [upd_ne (Nat.ne_of_lt hb')]
      exact (hf b hb).1
  done := by
    intro X hP hw hK hc i pins s σ H E I hf st hg
    subst hP hw hK
    obtain ⟨⟨old, he⟩, hit, hne⟩ := st
    obtain ⟨xs, hq, hx⟩ := hg
    obtain ⟨its, rv, p, hz⟩ := I.list hq
    obtain ⟨f0, f1, f2, f3, f4, f5⟩ := hf it (by simp)
    have hl := rv.length
    exact wpAny_pyNext_enum_end (I.ok.hd hc) he hit p.isList (by simp; omega) fun h' eb => ⟨rfl, I.turned (t' := s.toks) (fun b o hb q => eb b o hb q) f0 f1 f3 f4 f5⟩
  self := fun A i s Q E st h => let ⟨⟨_, he⟩, _⟩ := st; wpAny_pyIter_enum he h
def iEnum (K : PySem.W.Frag) (ta : TA) : TI := fun σ H R => ta σ H fun vs H1 => ∃ a xs, vs = [.ref a] ∧ SqL K H1 a xs ∧ R (Ite K a) H1
theorem pi_enum {X : Cx} {e : Expr} {ta : TA} {p pos tpos : Pos} {elts : List Expr} {kk : Nat} (hg : Gl X "enumerate") (hm : X.mg "enumerate" = none) (ha : PA X [e] ta) (hs : starEach [e] X.env = [(false, eval e X.env)] := by rfl) :
    PI X (.Tuple elts kk tpos) (.Call (.Name "enumerate" p) [e] [] pos) (iEnum X.K ta) := by
  intro pins s σ H R I h
  refine Call_ (ld_blt I hg hm boot_enumerate (PyProof.Rows.callWith_type1 (thn (ha pos pins s σ H _ I h) fun us s1 ⟨vs, H1, I1, r1, q1⟩ => ?_) hs rfl))
  obtain ⟨a, xs, ex, hq, q⟩ := q1
  subst ex
  cases r1 with
  | cons r rr =>
    cases rr
    cases r
    obtain ⟨its, rv, p', hz⟩ := I1.list hq
    refine call_enumerate_list p'.isList fun h' he hit hsz hk => wpAny_pyIter_enum he ?_
    have I2 : Inv X pins σ H1 { s1 with heap := h' } := I1.kept (t' := s1.toks) hk
    refine ⟨s1.heap.objs.size + 1, [s1.heap.objs.size + 1, s1.heap.objs.size], _, _, H1, rfl, I2, turn_enum a (s1.heap.objs.size + 1) s1.heap.objs.size, ⟨⟨.none, he⟩, hit, Nat.succ_ne_self _⟩, fun b hb => ?_, q⟩
    have e' : b = s1.heap.objs.size + 1 ∨ b = s1.heap.objs.size := by simpa using hb
    have hle : s1.heap.objs.size ≤ b := by
      rcases e' with z | z
      · rw [z]; exact Nat.le_add_right _ _
      · rw [z]; exact Nat.le_refl _
    exact I1.fpOk hle (I1.hok.fresh hle)
end L2
section 
namespace Bits
open PySem PyProof.Rows
end Bits
end 
section 
namespace TL
open PySem PySem.Builtin PySem.Builtin.Str PySem.StrLaws
end TL
end 
namespace L2
open PySem PySem.Spec PyProof.Rows
section
variable {X : Cx} {pins : List (Addr × Obj)} {σ : St} {H : Hp} {s : Shared} {Q : VK}
end
section
variable {X : Cx}
end
section
variable {X : Cx} {o e : Expr} {to te : TE}
end
end L2
namespace L2
open PySem PySem.Spec PyProof.Rows
section
variable {X : Cx}
end
end L2
namespace Att
open PySem PySem.W PySem.Calls PyProof.Rows
section
variable {prog : Program} {w : World} {A : Around} {E : Value → Shared → Prop} {s : Shared} {K : Frag}
end
end Att
namespace L2
open PySem PySem.Spec PyProof.Rows
end L2
namespace L2
open PySem PySem.Spec PyProof.Rows
end L2
namespace L2
open PySem PySem.Spec PyProof.Rows
def inClass (s : Stmt) (j : Nat) : Stmt := match s with
  | .ClassDef _ _ _ body _ _ _ _ _ _ _ => body.getD j (.Pass ⟨0, 0, 0, 0⟩)
  | _ => .Pass ⟨0, 0, 0, 0⟩
def defArgs (s : Stmt) : Arguments := match s with
  | .FunctionDef _ a _ _ _ _ _ _ _ _ => a
  | _ => { posonlyargs := [], args := [], vararg := none, kwonlyargs := [], kw_defaults := [], kwarg := none, defaults := [] }
def defBody (s : Stmt) : List Stmt := match s with
  | .FunctionDef _ _ b _ _ _ _ _ _ _ => b
  | _ => []
def defScope (s : Stmt) : Scope := match s with
  | .FunctionDef _ _ _ _ _ _ sc _ _ _ => sc
  | _ => { kind := .function, names := [], isGenerator := false, isCoroutine := false }
abbrev CX0 : CXT := fun _ _ _ _ _ _ => False
abbrev E0 : XK := fun _ _ _ => False
theorem pass0 {X : Cx} : Passes CX0 X E0 := fun _ _ _ _ _ _ _ h => h.elim
structure Fun (K : PySem.W.Frag) (x qual : Str) (st : Stmt) (f : Addr) (fd : FuncData) : Prop where
  ex : ∃ (oc : Value) (od : Option Addr) (kV doc pm : Value) (an : Option Addr) (cdv ct : Value) (osl : Array (Option Value)),
    fd = PySem.W.fnOf x qual (defArgs st) (defBody st) (defScope st) .none kV doc pm an cdv ct ∧ K.lookup f = some ⟨oc, od, .func fd, osl⟩ ∧ PySem.W.codeIn K cdv qual = true
  kp : PySem.W.keepIn K (.ref f) = true
section
variable {P : Program} {w : World} {K : PySem.W.Frag} {mg : Str → Option Value} {base : Heap}
theorem Fun.ok {x qual : Str} {st : Stmt} {f : Addr} {fd : FuncData} {N ps : List Str} {k : Nat} {sp : Sp} (F : Fun K x qual st f fd) (S : FnScope N ps (defScope st)) (len : ∀ vs H Q E, sp vs H Q E → vs.length = ps.length)
    (hbody : ∀ (cdv : Value) (A : Around) (outer : List Env) (s : Shared) (H : Hp) (vs : List V) (Q : VK) (E : XK), Room k (A.deeper (envOfC qual (defScope st) s.heap.objs.size f cdv)) → sp vs H Q E →
      ∃ t, PSs (cxOf CX0 P w K mg base N qual (defScope st) f cdv A outer s H E).nox (defBody st) t ∧ t { nx := fun _ H' => Q .non H', rt := Q } (start N vs) H) : FnOk P w K mg base CX0 (k + 1) f fd ps sp := by
  obtain ⟨oc, od, kV, doc, pm, an, cdv, ct, osl, rfl, lk, hcd⟩ := F.ex
  refine fn_of lk hcd S len fun A outer s H vs Q E hr hsp => ?_
  obtain ⟨t, h, q⟩ := hbody cdv A outer s H vs Q E hr hsp
  exact ⟨t, h.nox, q⟩
theorem Fun.binds {x qual : Str} {st : Stmt} {f : Addr} {fd : FuncData} {ps : List Str} (F : Fun K x qual st f fd)
    (h : ∀ (kV doc pm : Value) (an : Option Addr) (cdv ct : Value) (us : List Value), us.length = ps.length → bindArgs (PySem.W.fnOf x qual (defArgs st) (defBody st) (defScope st) .none kV doc pm an cdv ct) ⟨us, []⟩ = pure (ps.zip us)) : Binds K fd ps [] := by
  obtain ⟨oc, od, kV, doc, pm, an, cdv, ct, osl, rfl, lk, hcd⟩ := F.ex
  exact .all (h kV doc pm an cdv ct)
theorem fun_mk {x qual : Str} {st : Stmt} {f : Addr} {oc : Value} {od an : Option Addr} {osl : Array (Option Value)} {kV doc pm cdv ct : Value} (l : K.lookup f = some ⟨oc, od, .func (PySem.W.fnOf x qual (defArgs st) (defBody st) (defScope st) .none kV doc pm an cdv ct), osl⟩)
    (c : PySem.W.codeIn K cdv qual = true) (k : PySem.W.keepIn K (.ref f) = true) : Fun K x qual st f (PySem.W.fnOf x qual (defArgs st) (defBody st) (defScope st) .none kV doc pm an cdv ct) := ⟨⟨oc, od, kV, doc, pm, an, cdv, ct, osl, rfl, l, c⟩, k⟩
end
theorem hu_of {A : Around} {k : Nat} (hr : Room k A) : A.units + 1 < cLine := Nat.lt_of_le_of_lt (Nat.add_le_add_left (by decide : 1 ≤ 64) _) hr.units
theorem small1000 {n : Nat} (h : n ≤ 1000) : n < sizeLine := Nat.lt_of_le_of_lt h (by decide)
section
variable {X : Cx}
theorem pv (i : Nat) {x : Str} {pos : Pos} (hN : X.N[i]? = some x := by rfl) (hv : Vis X.env.scope x := by first | exact Or.inl rfl | exact Or.inr (Or.inl rfl) | exact Or.inr (Or.inr rfl)) (hd : (x == ("__debug__" : Str)) = false := by decide)
    (hcd : (x == ("__classdict__" : Str)) = false := by decide) : PE X (.Name x pos) (tVar i) := pe_var hN hv hd hcd
theorem call_lenD : CallR X (.builtin "len") (fun xs H Q => ∃ a kvs, xs = [V.ref a] ∧ H a = some (.dK kvs) ∧ Q (.int kvs.length) H) := by
  intro pins s σ H xs us Q I r h
  obtain ⟨a, kvs, rfl, ha, q⟩ := h
  obtain ⟨u, rfl, ru⟩ := vals1 r
  cases ru
  exact d_len I (.inl ha) fun t s' I' => ⟨.int kvs.length, H, I', ⟨t, rfl⟩, q⟩
end
theorem iteF {A B : Prop} (h : B) : if false = true then A else B := by
  rw [if_neg Bool.false_ne_true]
  exact h
theorem iteT {A B : Prop} (h : A) : if true = true then A else B := by
  rw [if_pos rfl]
  exact h
theorem ite2 {c A B : Prop} [Decidable c] (h1 : c → A) (h2 : ¬ c → B) : if c then A else B := by
  by_cases h : c
  · rw [if_pos h]
    exact h1 h
  · rw [if_neg h]
    exact h2 h
theorem iteNS {c A B : Prop} [Decidable c] (hc : c) (h : B) : if (!decide c) = true then A else B := by
  rw [decide_eq_true hc]
  exact iteF h
def Same (H H' : Hp) : Prop := ∀ b o, H b = some o → H' b = some o
theorem Same.refl (H : Hp) : Same H H := fun _ _ h => h
theorem Same.trans {H H1 H2 : Hp} (a : Same H H1) (b : Same H1 H2) : Same H H2 := fun c o h => b c o (a c o h)
theorem Same.free {H H' : Hp} (e : Same H H') {l : Addr} (h : H' l = Option.none) : H l = Option.none := by
  cases q : H l with
  | none => rfl
  | some o =>
    rw [e l o q] at h
    cases h
theorem Same.seq {K : PySem.W.Frag} {H H' : Hp} {a : Addr} {xs : List V} (e : Same H H') (h : SqL K H a xs) : SqL K H' a xs := by
  rcases h with (h | ⟨o, h⟩) | h
  · exact .inl (.inl (e _ _ h))
  · exact .inl (.inr ⟨o, e _ _ h⟩)
  · exact .inr h
section
variable {κ : Type} [DecidableEq κ]
theorem dropK_pos {p : κ × V} {r : List (κ × V)} {k : κ} (e : p.1 = k) : dropK (p :: r) k = dropK r k := by
  unfold dropK
  rw [List.filter_cons, if_neg (by simp [e])]
theorem dropK_neg {p : κ × V} {r : List (κ × V)} {k : κ} (e : ¬ p.1 = k) : dropK (p :: r) k = p :: dropK r k := by
  unfold dropK
  rw [List.filter_cons, if_pos (by simp [e])]
end
theorem nd_ix {α : Type} {l : List α} (hN : l.Nodup) {i j : Nat} {x : α} (a : l[i]? = some x) (b : l[j]? = some x) : i = j := by
  obtain ⟨h1, e1⟩ := List.getElem?_eq_some_iff.mp a
  obtain ⟨h2, e2⟩ := List.getElem?_eq_some_iff.mp b
  exact (List.getElem_inj hN).mp (e1.trans e2.symm)
theorem Same.made {H H1 : Hp} {x dx C : Addr} (nx : H x = Option.none) (nd : H dx = Option.none) (k : ∀ b o, (upd (upd H dx (.own x)) x (.ins C dx [])) b = some o → b ≠ x → H1 b = some o) : Same H H1 := fun b o e =>
  k b o (by rw [upd_ne (ne_of_none e nx), upd_ne (ne_of_none e nd)]; exact e) (ne_of_none e nx)
end L2
end
section
set_option Elab.async false
set_option linter.all false
set_option maxRecDepth 100000
section
set_option Elab.async false
set_option linter.all false
set_option maxRecDepth 100000
set_option maxHeartbeats 2000000
namespace L2
open PySem PySem.Spec PyProof.Rows
open PySem.W (WData Codec OpenSpec Well WellAll ReadsW ReadsAllW)
mutual
/-- x stands for the datum d, lists and tuples all the way -/
inductive Dw (K : PySem.W.Frag) (H : Hp) : V → WData → Prop
  | non : Dw K H .non .none
  | bl (b : Bool) : Dw K H (.bl b) (.bool b)
  | int (i : Int) : Dw K H (.int i) (.int i)
  | str (x : Str) : Dw K H (.str x) (.str x)
  | byt (b : Array UInt8) : Dw K H (.byt b) (.bytes b.toList)
  | lst {a : Addr} {xs : List V} {ds : List WData} : SqL K H a xs → DwAll K H xs ds → Dw K H (.ref a) (.list ds)
  | tup {a : Addr} {xs : List V} {ds : List WData} : SqT K H a xs → DwAll K H xs ds → Dw K H (.ref a) (.tuple ds)
inductive DwAll (K : PySem.W.Frag) (H : Hp) : List V → List WData → Prop
  | nil : DwAll K H [] []
  | cons {v : V} {vs : List V} {d : WData} {ds : List WData} : Dw K H v d → DwAll K H vs ds → DwAll K H (v :: vs) (d :: ds)
end
theorem dw_ints {K : PySem.W.Frag} {H : Hp} : ∀ ns : List Int, DwAll K H (ns.map V.int) (ns.map WData.int)
  | [] => .nil
  | n :: r => .cons (.int n) (dw_ints r)
theorem ints_dw {K : PySem.W.Frag} {H : Hp} : ∀ (ns : List Int) (xs : List V), DwAll K H xs (ns.map WData.int) → xs = ns.map V.int
  | [], xs, h => by
    cases h
    rfl
  | n :: r, xs, h => by
    cases h with
    | cons h1 h2 =>
      cases h1
      rw [ints_dw r _ h2] <;> rfl
section
variable {P : Program} {w : World} {K : PySem.W.Frag} {H : Hp} {h : Heap} {R : PySem.W.WRecords} {cl : Str → Option Addr}
theorem sqL_at {a : Addr} {xs : List V} (hok : HOk P w H h) (KX : K.In h) (q : SqL K H a xs) : ∃ (its : List Value) (o : Obj) (n : Nat), Vals xs its ∧ h.get? a = some o ∧ o.cls = .type "list" ∧ o.data = .seq its.toArray n := by
  rcases q with q | ⟨o, its, n, e, hc, _, hd, _, hv⟩
  · obtain ⟨_, its, n, hv, e⟩ := (show ObjOk P w H h a (.lst xs) from q.ok hok)
    exact ⟨its, _, n, hv, e, rfl, rfl⟩
  · exact ⟨its.toList, o, n, hv, KX _ _ e, hc, by simp [hd]⟩
theorem sqT_at {a : Addr} {xs : List V} (hok : HOk P w H h) (KX : K.In h) (q : SqT K H a xs) : ∃ (its : List Value) (o : Obj) (n : Nat), Vals xs its ∧ h.get? a = some o ∧ o.cls = .type "tuple" ∧ o.data = .seq its.toArray n := by
  rcases q with q | ⟨o, its, n, e, hc, hd, _, hv⟩
  · obtain ⟨_, its, hv, o, e, hc, n, hd⟩ := (show ObjOk P w H h a (.tup xs) from q.ok hok)
    exact ⟨its, o, n, hv, e, hc, hd⟩
  · exact ⟨its.toList, o, n, hv, KX _ _ e, hc, by simp [hd]⟩
mutual
theorem Dw.reads (hok : HOk P w H h) (KX : K.In h) : ∀ (d : WData) (v : V) (u : Value), Dw K H v d → RelV v u → ∃ as, ReadsW R cl h u d as
  | .none, _, _, x, r => by
    cases x
    cases r
    exact ⟨_, ReadsW.none⟩
  | .bool b, _, _, x, r => by
    cases x
    cases r
    exact ⟨_, ReadsW.bool b⟩
  | .int i, _, _, x, r => by
    cases x
    obtain ⟨t, rfl⟩ := r
    exact ⟨_, ReadsW.int i t⟩
  | .str s, _, _, x, r => by
    cases x
    obtain ⟨t, rfl⟩ := r
    exact ⟨_, ReadsW.str s t⟩
  | .bytes b, _, _, x, r => by
    cases x
    obtain ⟨t, rfl⟩ := r
    exact ⟨_, ReadsW.bytes _ t⟩
  | .list ds, _, _, x, r => by
    cases x with
    | lst hs ha =>
      cases r
      obtain ⟨its, o, n, rv, ho, hc, hd⟩ := sqL_at hok KX hs
      obtain ⟨as, hr⟩ := Dw.readsAll hok KX ds _ its ha rv
      exact ⟨_, ReadsW.list ho hc hd hr⟩
  | .tuple ds, _, _, x, r => by
    cases x with
    | tup hs ha =>
      cases r
      obtain ⟨its, o, n, rv, ho, hc, hd⟩ := sqT_at hok KX hs
      obtain ⟨as, hr⟩ := Dw.readsAll hok KX ds _ its ha rv
      exact ⟨_, ReadsW.tuple ho hc hd hr⟩
  | .float _, _, _, x, _ => by cases x
  | .dict _, _, _, x, _ => by cases x
  | .bytearray _, _, _, x, _ => by cases x
  | .set _, _, _, x, _ => by cases x
  | .frozenset _, _, _, x, _ => by cases x
  | .obj _ _, _, _, x, _ => by cases x
theorem Dw.readsAll (hok : HOk P w H h) (KX : K.In h) : ∀ (ds : List WData) (vs : List V) (us : List Value), DwAll K H vs ds → Vals vs us → ∃ as, ReadsAllW R cl h us ds as
  | [], _, _, x, r => by
    cases x
    cases r
    exact ⟨_, ReadsAllW.nil⟩
  | d :: ds, _, _, x, r => by
    cases x with
    | cons h1 h2 =>
      cases r with
      | cons r1 r2 =>
        obtain ⟨as, q1⟩ := Dw.reads hok KX d _ _ h1 r1
        obtain ⟨bs, q2⟩ := Dw.readsAll hok KX ds _ _ h2 r2
        exact ⟨_, ReadsAllW.cons q1 q2⟩
end
end
mutual
/-- data that a codec tells -/
def plW : WData → Bool
  | .none => true
  | .bool _ => true
  | .int _ => true
  | .str _ => true
  | .bytes _ => true
  | .list xs => plWs xs
  | .tuple xs => plWs xs
  | _ => false
def plWs : List WData → Bool
  | [] => true
  | x :: r => plW x && plWs r
end
theorem plWs_map {α : Type} {f : α → WData} (h : ∀ a, plW (f a) = true) : ∀ l : List α, plWs (l.map f) = true
  | [] => rfl
  | x :: r => by
    show (plW (f x) && plWs (r.map f)) = true
    rw [h x, plWs_map h r] <;> rfl
theorem pl_enc : ∀ (c : Codec) (a : c.denote), plW (c.enc a) = true
  | .unit, _ => rfl
  | .bool, _ => rfl
  | .int _ _, _ => rfl
  | .nat _ _, _ => rfl
  | .u8, _ => rfl
  | .bytes _ _, _ => rfl
  | .text _ _ _ _, _ => rfl
  | .list _ _ c, a => plWs_map (fun x => pl_enc c x) a
  | .pair c d, a => by
    show (plW (c.enc a.1) && (plW (d.enc a.2) && true)) = true
    rw [pl_enc c a.1, pl_enc d a.2] <;> rfl
  | .triple c d e, a => by
    show (plW (c.enc a.1) && (plW (d.enc a.2.1) && (plW (e.enc a.2.2) && true))) = true
    rw [pl_enc c a.1, pl_enc d a.2.1, pl_enc e a.2.2] <;> rfl
  | .option c, none => rfl
  | .option c, some x => pl_enc c x
theorem pl_encAll : ∀ (cs : List Codec) (a : Codec.denoteAll cs), plWs (Codec.encAll cs a) = true
  | [], _ => rfl
  | c :: cs, a => by
    show (plW (c.enc a.1) && plWs (Codec.encAll cs a.2)) = true
    rw [pl_enc c a.1, pl_encAll cs a.2] <;> rfl
theorem weight_mem : ∀ {xs : List WData} {d : WData}, d ∈ xs → d.weight ≤ WData.weightAll xs
  | [], d, h => absurd h (by simp)
  | x :: r, d, h => by
    show d.weight ≤ x.weight + 1 + WData.weightAll r
    rcases List.mem_cons.mp h with e | m
    · rw [e]
      omega
    · have z := weight_mem m
      omega
def toV : Value → V
  | .none => .non
  | .bool b => .bl b
  | .int i _ => .int i
  | .str x _ => .str x
  | .bytes b _ => .byt b
  | .ref a => .ref a
  | _ => .non
def OkU (A : List Addr) : Value → Prop
  | .none => True
  | .bool _ => True
  | .int _ _ => True
  | .str _ _ => True
  | .bytes _ _ => True
  | .ref a => a ∈ A
  | _ => False
theorem OkU.mono {A B : List Addr} (h : ∀ a ∈ A, a ∈ B) : ∀ {u : Value}, OkU A u → OkU B u := fun {u} x => by
  cases u with
  | ref a => exact h a x
  | none => trivial
  | bool b => trivial
  | int i t => trivial
  | str s t => trivial
  | bytes b t => trivial
  | _ => exact False.elim x
theorem relV_toV {A : List Addr} {u : Value} (x : OkU A u) : RelV (toV u) u := by
  cases u with
  | ref a => rfl
  | none => rfl
  | bool b => rfl
  | int i t => exact ⟨t, rfl⟩
  | str s t => exact ⟨t, rfl⟩
  | bytes b t => exact ⟨t, rfl⟩
  | _ => exact False.elim x
theorem vals_toV {A : List Addr} : ∀ {vs : List Value}, (∀ u ∈ vs, OkU A u) → Vals (vs.map toV) vs
  | [], _ => .nil
  | u :: r, h => .cons (relV_toV (h u (List.mem_cons_self ..))) (vals_toV fun x hx => h x (List.mem_cons_of_mem _ hx))
def ArgOb (h : Heap) (A : List Addr) (a : Addr) : Prop := ∃ vs : List Value, vs.length ≤ sizeLine ∧ (∀ u ∈ vs, OkU A u) ∧
  (h.get? a = some { cls := .type "list", data := .seq vs.toArray } ∨ h.get? a = some { cls := .type "tuple", data := .seq vs.toArray })
theorem ArgOb.mono {h : Heap} {A B : List Addr} {a : Addr} (k : ∀ a ∈ A, a ∈ B) (x : ArgOb h A a) : ArgOb h B a := by
  obtain ⟨vs, h1, h2, h3⟩ := x
  exact ⟨vs, h1, fun u hu => (h2 u hu).mono k, h3⟩
theorem wellAll_len {P : Params} {h : Heap} : ∀ {vs : List Value} {ds : List WData}, WellAll P h vs ds → vs.length = ds.length
  | _, _, .nil => rfl
  | _, _, .cons _ b => by
    show _ + 1 = _ + 1
    rw [wellAll_len b]
theorem well_list {P : Params} {h : Heap} {v : Value} {ds : List WData} (x : Well P h v (.list ds)) : ∃ (a : Addr) (vs : List Value), v = .ref a ∧ h.get? a = some { cls := .type "list", data := .seq vs.toArray } ∧ WellAll P h vs ds := by
  cases x with
  | list ho hall => exact ⟨_, _, rfl, ho, hall⟩
theorem well_tuple {P : Params} {h : Heap} {v : Value} {ds : List WData} (x : Well P h v (.tuple ds)) : ∃ (a : Addr) (vs : List Value), v = .ref a ∧ h.get? a = some { cls := .type "tuple", data := .seq vs.toArray } ∧ WellAll P h vs ds := by
  cases x with
  | tuple ho hall => exact ⟨_, _, rfl, ho, hall⟩
theorem well_cons {P : Params} {h : Heap} {us : List Value} {d : WData} {ds : List WData} (x : WellAll P h us (d :: ds)) : ∃ (v : Value) (vs : List Value), us = v :: vs ∧ Well P h v d ∧ WellAll P h vs ds := by
  cases x with
  | cons a b => exact ⟨_, _, rfl, a, b⟩
theorem line_of {n : Nat} (h : n ≤ 1048576) : n ≤ sizeLine := Nat.le_trans h (by decide)
section
variable {P : Params} {h : Heap}
mutual
theorem area_one : ∀ (d : WData) (v : Value), Well P h v d → plW d = true → d.weight ≤ 1048576 → ∃ A : List Addr, OkU A v ∧ ∀ a ∈ A, ArgOb h A a
  | .none, _, x, _, _ => by
    cases x
    exact ⟨[], trivial, fun a m => absurd m (by simp)⟩
  | .bool b, _, x, _, _ => by
    cases x
    exact ⟨[], trivial, fun a m => absurd m (by simp)⟩
  | .int i, _, x, _, _ => by
    cases x
    exact ⟨[], trivial, fun a m => absurd m (by simp)⟩
  | .str s, _, x, _, _ => by
    cases x
    exact ⟨[], trivial, fun a m => absurd m (by simp)⟩
  | .bytes b, _, x, _, _ => by
    cases x
    exact ⟨[], trivial, fun a m => absurd m (by simp)⟩
  | .list ds, _, x, p, z => by
    obtain ⟨a, vs, rfl, ho, hall⟩ := well_list x
    have z2 : WData.weightAll ds ≤ 1048576 := z
    obtain ⟨A, h1, h2⟩ := area_all ds _ hall p fun d hd => Nat.le_trans (weight_mem hd) z2
    have k : ∀ b ∈ A, b ∈ a :: A := fun b hb => List.mem_cons_of_mem _ hb
    refine ⟨a :: A, List.mem_cons_self .., fun b hb => ?_⟩
    rcases List.mem_cons.mp hb with e | m
    · rw [e]
      exact ⟨vs, line_of (by rw [wellAll_len hall]; exact Nat.le_trans (PySem.W.length_le_weightAllW ds) z2), fun u hu => (h1 u hu).mono k, .inl ho⟩
    · exact (h2 b m).mono k
  | .tuple ds, _, x, p, z => by
    obtain ⟨a, vs, rfl, ho, hall⟩ := well_tuple x
    have z2 : WData.weightAll ds ≤ 1048576 := z
    obtain ⟨A, h1, h2⟩ := area_all ds _ hall p fun d hd => Nat.le_trans (weight_mem hd) z2
    have k : ∀ b ∈ A, b ∈ a :: A := fun b hb => List.mem_cons_of_mem _ hb
    refine ⟨a :: A, List.mem_cons_self .., fun b hb => ?_⟩
    rcases List.mem_cons.mp hb with e | m
    · rw [e]
      exact ⟨vs, line_of (by rw [wellAll_len hall]; exact Nat.le_trans (PySem.W.length_le_weightAllW ds) z2), fun u hu => (h1 u hu).mono k, .inr ho⟩
    · exact (h2 b m).mono k
  | .float _, _, _, p, _ => Bool.noConfusion (show false = true from p)
  | .dict _, _, _, p, _ => Bool.noConfusion (show false = true from p)
  | .bytearray _, _, _, p, _ => Bool.noConfusion (show false = true from p)
  | .set _, _, _, p, _ => Bool.noConfusion (show false = true from p)
  | .frozenset _, _, _, p, _ => Bool.noConfusion (show false = true from p)
  | .obj _ _, _, _, p, _ => Bool.noConfusion (show false = true from p)
theorem area_all : ∀ (ds : List WData) (vs : List Value), WellAll P h vs ds → plWs ds = true → (∀ d ∈ ds, d.weight ≤ 1048576) → ∃ A : List Addr, (∀ u ∈ vs, OkU A u) ∧ ∀ a ∈ A, ArgOb h A a
  | [], _, x, _, _ => by
    cases x
    exact ⟨[], fun u m => absurd m (by simp), fun a m => absurd m (by simp)⟩
  | d :: ds, _, x, p, z => by
    obtain ⟨v, vs, rfl, x1, x2⟩ := well_cons x
    have q : plW d = true ∧ plWs ds = true := Bool.and_eq_true_iff.mp p
    obtain ⟨A, a1, a2⟩ := area_one d v x1 q.1 (z d (List.mem_cons_self ..))
    obtain ⟨B, b1, b2⟩ := area_all ds vs x2 q.2 fun e he => z e (List.mem_cons_of_mem _ he)
    have kA : ∀ b ∈ A, b ∈ A ++ B := fun b hb => List.mem_append.mpr (.inl hb)
    have kB : ∀ b ∈ B, b ∈ A ++ B := fun b hb => List.mem_append.mpr (.inr hb)
    refine ⟨A ++ B, fun u hu => ?_, fun b hb => ?_⟩
    · rcases List.mem_cons.mp hu with e | m
      · rw [e]
        exact a1.mono kA
      · exact (b1 u m).mono kB
    · rcases List.mem_append.mp hb with m | m
      · exact (a2 b m).mono kA
      · exact (b2 b m).mono kB
end
end
def hoOf (o : Obj) : Option HO := match o.data with
  | .seq vs _ => if (o.cls == Value.type "list") = true then some (.frz o (.lst (vs.toList.map toV))) else some (.frz o (.tup (vs.toList.map toV)))
  | _ => none
def argH (K : PySem.W.Frag) (h : Heap) (A : List Addr) : Hp := fun b => if b ∈ A then (if (K.lookup b).isNone = true then (h.get? b).bind hoOf else none) else none
def OnlyF (H : Hp) : Prop := ∀ b, H b = none ∨ ∃ o u, H b = some (.frz o u)
theorem hoOf_lst (vs : List Value) : hoOf { cls := .type "list", data := .seq vs.toArray } = some (.frz { cls := .type "list", data := .seq vs.toArray } (.lst (vs.map toV))) := by
  show (if (Value.type "list" == Value.type "list") = true then some (HO.frz { cls := .type "list", data := .seq vs.toArray } (.lst (vs.toArray.toList.map toV))) else some (HO.frz { cls := .type "list", data := .seq vs.toArray } (.tup (vs.toArray.toList.map toV)))) = _
  rw [if_pos (beq_self_eq_true _)]
theorem hoOf_tup (vs : List Value) : hoOf { cls := .type "tuple", data := .seq vs.toArray } = some (.frz { cls := .type "tuple", data := .seq vs.toArray } (.tup (vs.map toV))) := by
  show (if (Value.type "tuple" == Value.type "list") = true then some (HO.frz { cls := .type "tuple", data := .seq vs.toArray } (.lst (vs.toArray.toList.map toV))) else some (HO.frz { cls := .type "tuple", data := .seq vs.toArray } (.tup (vs.toArray.toList.map toV)))) = _
  rw [if_neg (by decide)]
section
variable {P : Program} {w : World} {K : PySem.W.Frag} {h : Heap} {A : List Addr}
theorem argH_at {b : Addr} {o : Obj} (hb : b ∈ A) (hk : K.lookup b = none) (e : h.get? b = some o) : argH K h A b = hoOf o := by
  unfold argH
  rw [if_pos hb, hk, if_pos (show (none : Option Obj).isNone = true from rfl), e] <;> rfl
theorem of_argH {b : Addr} {u : HO} (q : argH K h A b = some u) : b ∈ A ∧ K.lookup b = none := by
  unfold argH at q
  by_cases hb : b ∈ A
  · rw [if_pos hb] at q
    cases hk : K.lookup b with
    | none => exact ⟨hb, rfl⟩
    | some o =>
      rw [hk, if_neg (by simp)] at q
      cases q
  · rw [if_neg hb] at q
    cases q
theorem argH_is (ar : ∀ a ∈ A, ArgOb h A a) {b : Addr} {u : HO} (q : argH K h A b = some u) : K.lookup b = none ∧ ∃ vs : List Value, vs.length ≤ sizeLine ∧ (∀ u ∈ vs, OkU A u) ∧
    ((h.get? b = some { cls := .type "list", data := .seq vs.toArray } ∧ u = .frz { cls := .type "list", data := .seq vs.toArray } (.lst (vs.map toV))) ∨
     (h.get? b = some { cls := .type "tuple", data := .seq vs.toArray } ∧ u = .frz { cls := .type "tuple", data := .seq vs.toArray } (.tup (vs.map toV)))) := by
  obtain ⟨hb, hk⟩ := of_argH q
  obtain ⟨vs, h1, h2, h3⟩ := ar b hb
  refine ⟨hk, vs, h1, h2, ?_⟩
  rcases h3 with e | e
  · rw [argH_at hb hk e, hoOf_lst] at q
    exact .inl ⟨e, (Option.some.inj q).symm⟩
  · rw [argH_at hb hk e, hoOf_tup] at q
    exact .inr ⟨e, (Option.some.inj q).symm⟩
theorem argH_only (ar : ∀ a ∈ A, ArgOb h A a) : OnlyF (argH K h A) := fun b => by
  cases q : argH K h A b with
  | none => exact .inl rfl
  | some u =>
    obtain ⟨_, vs, _, _, ⟨_, e⟩ | ⟨_, e⟩⟩ := argH_is ar q
    · exact .inr ⟨_, _, by rw [e]⟩
    · exact .inr ⟨_, _, by rw [e]⟩
theorem argH_ok (ar : ∀ a ∈ A, ArgOb h A a) : HOk P w (argH K h A) h := fun b u q => by
  obtain ⟨_, vs, h1, h2, ⟨e, rfl⟩ | ⟨e, rfl⟩⟩ := argH_is ar q
  · exact ⟨e, by rw [List.length_map]; exact h1, vs, _, vals_toV h2, e⟩
  · exact ⟨e, by rw [List.length_map]; exact h1, vs, vals_toV h2, _, e, rfl, _, rfl⟩
theorem seq_inj {c c' : Value} {vs us : List Value} (e : (some { cls := c, data := .seq vs.toArray } : Option Obj) = some { cls := c', data := .seq us.toArray }) : c = c' ∧ vs = us := by
  have e1 := Option.some.inj e
  have e2 : c = c' := congrArg Obj.cls e1
  have e3 : Data.seq vs.toArray = Data.seq us.toArray := congrArg Obj.data e1
  injection e3 with e4
  refine ⟨e2, ?_⟩
  have e5 := congrArg Array.toList e4
  simpa using e5
theorem argL (KX : K.In h) (ar : ∀ a ∈ A, ArgOb h A a) {a : Addr} {vs : List Value} (ha : a ∈ A) (e : h.get? a = some { cls := .type "list", data := .seq vs.toArray }) : (∀ u ∈ vs, OkU A u) ∧ SqL K (argH K h A) a (vs.map toV) := by
  obtain ⟨us, h1, h2, h3⟩ := ar a ha
  have hu : us = vs := by
    rcases h3 with q | q
    · rw [e] at q
      exact (seq_inj q).2.symm
    · rw [e] at q
      exact absurd (Value.type.inj (seq_inj q).1) (by decide)
  subst hu
  refine ⟨h2, ?_⟩
  cases hk : K.lookup a with
  | none => exact .inl (.inr ⟨_, by rw [argH_at ha hk e, hoOf_lst]⟩)
  | some o =>
    have e2 := KX a o hk
    rw [e] at e2
    obtain rfl := Option.some.inj e2
    exact .inr ⟨_, us.toArray, _, hk, rfl, rfl, rfl, by rw [List.size_toArray]; exact h1, by simpa using vals_toV h2⟩
theorem argT (KX : K.In h) (ar : ∀ a ∈ A, ArgOb h A a) {a : Addr} {vs : List Value} (ha : a ∈ A) (e : h.get? a = some { cls := .type "tuple", data := .seq vs.toArray }) : (∀ u ∈ vs, OkU A u) ∧ SqT K (argH K h A) a (vs.map toV) := by
  obtain ⟨us, h1, h2, h3⟩ := ar a ha
  have hu : us = vs := by
    rcases h3 with q | q
    · rw [e] at q
      exact absurd (Value.type.inj (seq_inj q).1) (by decide)
    · rw [e] at q
      exact (seq_inj q).2.symm
  subst hu
  refine ⟨h2, ?_⟩
  cases hk : K.lookup a with
  | none => exact .inl (.inr ⟨_, by rw [argH_at ha hk e, hoOf_tup]⟩)
  | some o =>
    have e2 := KX a o hk
    rw [e] at e2
    obtain rfl := Option.some.inj e2
    exact .inr ⟨_, us.toArray, _, hk, rfl, rfl, by rw [List.size_toArray]; exact h1, by simpa using vals_toV h2⟩
mutual
theorem dw_one {Pm : Params} (KX : K.In h) (ar : ∀ a ∈ A, ArgOb h A a) : ∀ (d : WData) (v : Value), Well Pm h v d → plW d = true → OkU A v → Dw K (argH K h A) (toV v) d
  | .none, _, x, _, _ => by
    cases x
    exact .non
  | .bool b, _, x, _, _ => by
    cases x
    exact .bl b
  | .int i, _, x, _, _ => by
    cases x
    exact .int i
  | .str s, _, x, _, _ => by
    cases x
    exact .str s
  | .bytes b, _, x, _, _ => by
    cases x
    have z := Dw.byt (K := K) (H := argH K h A) b.toArray
    exact z
  | .list ds, _, x, p, hu => by
    obtain ⟨a, vs, rfl, ho, hall⟩ := well_list x
    obtain ⟨h2, hs⟩ := argL KX ar hu ho
    exact .lst hs (dw_all KX ar ds _ hall p h2)
  | .tuple ds, _, x, p, hu => by
    obtain ⟨a, vs, rfl, ho, hall⟩ := well_tuple x
    obtain ⟨h2, hs⟩ := argT KX ar hu ho
    exact .tup hs (dw_all KX ar ds _ hall p h2)
  | .float _, _, _, p, _ => Bool.noConfusion (show false = true from p)
  | .dict _, _, _, p, _ => Bool.noConfusion (show false = true from p)
  | .bytearray _, _, _, p, _ => Bool.noConfusion (show false = true from p)
  | .set _, _, _, p, _ => Bool.noConfusion (show false = true from p)
  | .frozenset _, _, _, p, _ => Bool.noConfusion (show false = true from p)
  | .obj _ _, _, _, p, _ => Bool.noConfusion (show false = true from p)
theorem dw_all {Pm : Params} (KX : K.In h) (ar : ∀ a ∈ A, ArgOb h A a) : ∀ (ds : List WData) (vs : List Value), WellAll Pm h vs ds → plWs ds = true → (∀ u ∈ vs, OkU A u) → DwAll K (argH K h A) (vs.map toV) ds
  | [], _, x, _, _ => by
    cases x
    exact .nil
  | d :: ds, _, x, p, hu => by
    obtain ⟨v, vs, rfl, x1, x2⟩ := well_cons x
    have q : plW d = true ∧ plWs ds = true := Bool.and_eq_true_iff.mp p
    exact .cons (dw_one KX ar d v x1 q.1 (hu _ (List.mem_cons_self ..))) (dw_all KX ar ds vs x2 q.2 fun u m => hu u (List.mem_cons_of_mem _ m))
end
end
theorem layable_weight {ds : List WData} (h : WData.layableAll ds = true) : ∀ d ∈ ds, d.weight ≤ 1048576 := fun d hd =>
  (PySem.W.layableW_iff.mp (List.all_eq_true.mp h d hd)).2.2
theorem encAll_len : ∀ (cs : List Codec) (a : Codec.denoteAll cs), (Codec.encAll cs a).length = cs.length
  | [], _ => rfl
  | c :: cs, a => by
    show (Codec.encAll cs a.2).length + 1 = cs.length + 1
    rw [encAll_len cs a.2]
end L2
end
end
section
set_option Elab.async false
set_option linter.all false
set_option maxRecDepth 100000
set_option maxHeartbeats 2000000
namespace L2
open PySem PySem.Spec PyProof.Rows
def KEnt (p : Int × Int) (e : DictEntry) : Prop := (∃ t, e.key = .int p.1 t) ∧ (∃ t, e.val = .int p.2 t) ∧ e.hash = hashInt p.1
structure KTab (K : PySem.W.Frag) (d : Addr) (kvs : List (Int × Int)) : Prop where
  ex : ∃ o es ep, K.lookup d = some o ∧ o.ExactDict ∧ o.data = .dict es ep ∧ Paired KEnt kvs es.toList
  lo : (d == sysModules) = false
  nd : (kvs.map (·.1)).Nodup
theorem kent_pairs {P : Program} {w : World} : ∀ {kvs : List (Int × Int)} {es : List DictEntry}, Paired KEnt kvs es → ∃ vs : List (Int × Value), Pairs (intKind P w) es vs ∧ vs.map (·.1) = kvs.map (·.1) ∧
    (∀ k, RelO ((kvs.lookup k).map V.int) (valueAt vs k)) ∧ ∀ e ∈ es, ∃ k, (intKind P w).is k e.key = true ∧ e.hash = (intKind P w).hash k
  | _, _, .nil => ⟨[], .nil, rfl, fun k => trivial, fun e he => by simp at he⟩
  | _, _, .cons (a := p) (b := e) (l₁ := kvs) (l₂ := es) h r => by
    obtain ⟨vs, h1, h2, h3, h4⟩ := kent_pairs (P := P) (w := w) r
    obtain ⟨⟨t, ek⟩, ⟨u, ev⟩, eh⟩ := h
    refine ⟨(p.1, .int p.2 u) :: vs, .cons (by rw [ek]; exact intKind_is P w p.1 t) ev h1, by simp [h2], fun k => ?_, fun e' he' => ?_⟩
    · obtain ⟨a, b⟩ := p
      rw [List.lookup_cons]
      unfold valueAt
      rw [List.find?_cons]
      by_cases q : a = k
      · subst q
        rw [beq_self_eq_true, decide_eq_true rfl]
        exact ⟨u, rfl⟩
      · have q' : ¬ k = a := fun z => q z.symm
        rw [beq_eq_false_iff_ne.mpr q', decide_eq_false q]
        exact h3 k
    · rcases List.mem_cons.mp he' with rfl | he'
      · exact ⟨p.1, by rw [ek]; exact intKind_is P w p.1 t, eh⟩
      · exact h4 e' he'
theorem KTab.dict {K : PySem.W.Frag} {d : Addr} {kvs : List (Int × Int)} (T : KTab K d kvs) {h : Heap} (X : K.In h) (P : Program) (w : World) :
    ∃ vs : List (Int × Value), h.DictOf (intKind P w) d vs ∧ ∀ k, RelO ((kvs.lookup k).map V.int) (valueAt vs k) := by
  obtain ⟨o, es, ep, h1, h2, h3, h4⟩ := T.ex
  obtain ⟨vs, a1, a2, a3, a4⟩ := kent_pairs (P := P) (w := w) h4
  exact ⟨vs, ⟨o, es, ep, X _ _ h1, h2, h3, fun e he => a4 e (by simpa using he), a1, by rw [a2]; exact T.nd⟩, a3⟩
section
variable {X : Cx} {o i : Expr} {pos : Pos} {td ty : TE}
def tKIn (K : PySem.W.Frag) (ty td : TE) : TE := fun σ H Q => ty σ H fun y H1 => td σ H1 fun x H2 => ∃ a kvs n, x = .ref a ∧ y = .int n ∧ KTab K a kvs ∧ Q (.bl (kvs.lookup n).isSome) H2
def tKGet (K : PySem.W.Frag) (td ty : TE) : TE := fun σ H Q => td σ H fun x H1 => ty σ H1 fun y H2 => ∃ a kvs n v, x = .ref a ∧ y = .int n ∧ KTab K a kvs ∧ kvs.lookup n = some v ∧ Q (.int v) H2
theorem relO_some {n : Int} {kvs : List (Int × Int)} {vs : List (Int × Value)} (h : RelO ((kvs.lookup n).map V.int) (valueAt vs n)) : (valueAt vs n).isSome = (kvs.lookup n).isSome := by
  have := h.isSome_eq
  rw [← this]
  cases kvs.lookup n <;> rfl
theorem pc_kin (hi : PE X i ty) (ho : PE X o td) : PC X .In i o (tKIn X.K ty td) := by
  intro pins s σ H Q I h
  refine thn (hi pins s σ H _ I h) fun iv s1 ⟨y, H1, I1, ry, q1⟩ => thn (ho pins s1 σ H1 _ I1 q1) fun u s2 ⟨x, H2, I2, rx, a, kvs, n, ex, ey, T, q2⟩ => ?_
  subst ex ey
  obtain rfl : u = Value.ref a := rx
  obtain ⟨t, rfl⟩ : ∃ t, iv = Value.int n t := ry
  obtain ⟨vs, D, L⟩ := T.dict I2.kIn X.prog X.w
  refine wpAny_in_of (intKind_is X.prog X.w n t) T.lo D.mapOf ?_
  rw [relO_some (L n)]
  exact ⟨.bl _, H2, I2.tok _, rfl, q2⟩
theorem pe_kget (ho : PE X o td) (hi : PE X i ty) (hs : NoSl i) : PE X (.Subscript o i pos) (tKGet X.K td ty) := by
  intro pins s σ H Q I h
  refine subD_of PySem.F.slot_dict_getitem.lookup hs (thn (ho pins s σ H _ I h) fun u s1 ⟨x, H1, I1, rx, q1⟩ => thn (hi pins s1 σ H1 _ I1 q1) fun iv s2 ⟨y, H2, I2, ry, a, kvs, n, v, ex, ey, T, hv, q2⟩ => ?_)
  subst ex ey
  obtain rfl : u = Value.ref a := rx
  obtain ⟨t, rfl⟩ : ∃ t, iv = Value.int n t := ry
  obtain ⟨vs, D, L⟩ := T.dict I2.kIn X.prog X.w
  have Ln := L n
  rw [hv] at Ln
  obtain ⟨z, hz, rz⟩ := RelO.some_of Ln
  exact ⟨D.typeIs, wpAny_getItem_of (intKind_is X.prog X.w n t) D.mapOf hz ⟨.int v, H2, I2.tok _, rz, q2⟩⟩
end
end L2
end
section
set_option Elab.async false
set_option linter.all false
set_option maxRecDepth 100000
set_option maxHeartbeats 2000000
namespace Cl
open PySem PySem.Spec PyProof.Rows L2 CM
def top (i : Nat) : Stmt := PySem.Challenge.pw_codeline_s01_answers.main.body.getD i (.Pass ⟨0, 0, 0, 0⟩)
abbrev sIsRate : Stmt := top 3
abbrev sLevel : Stmt := top 4
abbrev sTaken : Stmt := top 5
abbrev sLeast : Stmt := top 6
def behinds : List (Int × Int) := [(0, 0), (1, 2), (2, 1), (3, 1), (4, 2), (5, 0), (6, 2)]
structure Txt (K : PySem.W.Frag) (mg : Str → Option Value) : Prop where
  lev : ∃ D, mg "LEVEL_OF_RATE" = some (.ref D) ∧ KTab K D levels
  behind : ∃ D, mg "NUMBERS_BEHIND" = some (.ref D) ∧ KTab K D behinds
  tips : ∃ t, mg "TIPS" = some (.int 256 t)
  places : ∃ t, mg "PLACES" = some (.int 256 t)
  last : ∃ t, mg "LAST_USER" = some (.int 255 t)
  mostSaid : ∃ t, mg "MOST_SAID" = some (.int 2047 t)
  mostHeard : ∃ t, mg "MOST_HEARD" = some (.int 1000000 t)
  done : ∃ t, mg "DONE" = some (.int 0 t)
  noCode : ∃ t, mg "NO_CODE" = some (.int (-2) t)
  said : ∃ t, mg "SAID_ALREADY" = some (.int (-16) t)
  hasCode : ∃ t, mg "HAS_CODE" = some (.int (-17) t)
  wrong : ∃ t, mg "WRONG" = some (.int (-22) t)
  noRoom : ∃ t, mg "NO_ROOM" = some (.int (-28) t)
  otherRate : ∃ t, mg "OTHER_RATE" = some (.int (-33) t)
  tooFar : ∃ t, mg "TOO_FAR" = some (.int (-34) t)
  call0 : ∃ t, mg "CALL_BEGIN" = some (.int 0 t)
  call1 : ∃ t, mg "CALL_OPEN" = some (.int 1 t)
  call2 : ∃ t, mg "CALL_CLOSE" = some (.int 2 t)
  call3 : ∃ t, mg "CALL_CODE" = some (.int 3 t)
  call4 : ∃ t, mg "CALL_SAY" = some (.int 4 t)
  call5 : ∃ t, mg "CALL_LINE" = some (.int 5 t)
  call6 : ∃ t, mg "CALL_HEAR" = some (.int 6 t)
  range : mg "range" = none
  len : mg "len" = none
  sum : mg "sum" = none
  sorted : mg "sorted" = none
  abs : mg "abs" = none
  all : mg "all" = none
  enumerate : mg "enumerate" = none
section
variable {P : Program} {w : World} {K : PySem.W.Frag} {mg : Str → Option Value} {base : Heap}
def spIsRate : Sp := fun vs H Q _ => ∃ n : Int, vs = [.int n] ∧ Q (.bl (levels.lookup n).isSome) H
theorem scIsRate : FnScope ["number"] ["number"] (defScope sIsRate) := ⟨rfl, rfl, rfl, by decide +kernel, rfl, by decide +kernel, by decide +kernel⟩
theorem ok_isRate {f : Addr} {fd : FuncData} (F : Fun K "is_rate" "is_rate" sIsRate f fd) (T : Txt K mg) : FnOk P w K mg base CX0 1 f fd ["number"] spIsRate := by
  refine F.ok scIsRate (fun vs H Q E h => ?_) (fun cdv A outer s H vs Q E hr h => ?_)
  · obtain ⟨n, rfl, _⟩ := h
    rfl
  · obtain ⟨n, rfl, k⟩ := h
    obtain ⟨D, hD, TD⟩ := T.lev
    refine ⟨_, pss_one (ps_ret (pe_cmp (pc_kin (pv 0) (pe_glob (v := .ref D) rfl hD rfl)))), ?_⟩
    exact ⟨_, rfl, D, levels, n, rfl, rfl, TD, k⟩
def spLevel : Sp := fun vs H Q _ => ∃ n l : Int, vs = [.int n] ∧ levels.lookup n = some l ∧ Q (.int l) H
theorem scLevel : FnScope ["rate"] ["rate"] (defScope sLevel) := ⟨rfl, rfl, rfl, by decide +kernel, rfl, by decide +kernel, by decide +kernel⟩
theorem ok_level {f : Addr} {fd : FuncData} (F : Fun K "level_of" "level_of" sLevel f fd) (T : Txt K mg) : FnOk P w K mg base CX0 1 f fd ["rate"] spLevel := by
  refine F.ok scLevel (fun vs H Q E h => ?_) (fun cdv A outer s H vs Q E hr h => ?_)
  · obtain ⟨n, l, rfl, _⟩ := h
    rfl
  · obtain ⟨n, l, rfl, hl, k⟩ := h
    obtain ⟨D, hD, TD⟩ := T.lev
    refine ⟨_, pss_one (ps_ret (pe_kget (pe_glob (v := .ref D) rfl hD rfl) (pv 0) (fun _ _ => rfl))), ?_⟩
    exact ⟨_, rfl, D, levels, n, l, rfl, rfl, TD, hl, k⟩
end
end Cl
end
section
set_option Elab.async false
set_option linter.all false
set_option maxRecDepth 100000
set_option maxHeartbeats 2000000
namespace L2
open PySem PySem.Spec PyProof.Rows
theorem same_new {H : Hp} {D : Addr} {o : HO} (h : H D = none) : Same H (upd H D o) := fun b z e => by
  rw [upd_ne (ne_of_none e h)]
  exact e
theorem same_put {H1 H : Hp} {D : Addr} {o : HO} (h : H1 D = none) (s : Same H1 H) : Same H1 (upd H D o) := fun b z e => by
  rw [upd_ne (ne_of_none e h)]
  exact s b z e
theorem take_snocD {α : Type} {l : List α} {i : Nat} {x : α} (h : l[i]? = some x) : l.take i ++ [x] = l.take (i + 1) := by
  rw [List.take_add_one, h]
  rfl
theorem get_mapC {α β : Type} {f : α → β} {l : List α} {j : Nat} {y : β} (h : (l.map f)[j]? = some y) : ∃ z, l[j]? = some z ∧ y = f z := by
  rw [List.getElem?_map] at h
  cases e : l[j]? with
  | none => rw [e] at h; cases h
  | some z => rw [e] at h; exact ⟨z, rfl, (Option.some.inj h).symm⟩
theorem intV {i j : Int} (h : V.int i = V.int j) : i = j := V.int.inj h
theorem lc_F {J : It} {n : Nat} {g : TG} {te : TE} {vs : List Nat} {σ : St} {H1 : Hp} {D : Addr} {ys : List V} {Qd : Hp → Prop} (hD : H1 D = none) (hn : ys.length = n) (hz : n ≤ sizeLine)
    (hgo : ∀ j H, j < n → Same H1 H → J.go j H) (hstop : ∀ H, Same H1 H → J.stop n H)
    (hs : ∀ (j : Nat) x y H H', j < n → ys[j]? = some y → Same H1 H → J.yld j H x H' → Same H H' ∧ ∀ Q : VK, (∀ H'', Same H' H'' → Q y H'') → g x (wipe σ vs) H' fun σ2 H2 => wipe σ2 vs = wipe σ vs ∧ te σ2 H2 Q)
    (hd : ∀ H', Same H1 H' → H' D = some (.lst ys) → Qd H') :
    ∃ W : Nat → Nat → Hp → Prop, (∃ m, W 0 m (upd H1 D (.lst []))) ∧ ∀ i m H, W i m H →
      (J.stop i H ∧ Qd H) ∨ (J.go i H ∧ ∃ Nx : Hp → Prop, (∀ H', Nx H' → ∃ m', m' < m ∧ W (i + 1) m' H') ∧ ∀ x H', J.yld i H x H' → g x (wipe σ vs) H' fun σ2 H2 => wipe σ2 vs = wipe σ vs ∧ tYes σ2 H2 fun b H3 =>
        if b = true then te σ2 H3 fun y H4 => ∃ acc, H4 D = some (.lst acc) ∧ acc.length < sizeLine ∧ Nx (upd H4 D (.lst (acc ++ [y]))) else Nx H3) := by
  refine ⟨fun i m H => m = n - i ∧ i ≤ n ∧ Same H1 H ∧ H D = some (.lst (ys.take i)), ⟨n, by simp, Nat.zero_le _, same_new hD, upd_same⟩, ?_⟩
  rintro i m H ⟨rfl, hi, sm, hDD⟩
  by_cases hlt : i < n
  · have hy : ys[i]? = some ys[i] := List.getElem?_eq_getElem (by omega)
    refine .inr ⟨hgo i H hlt sm, fun H' => Same H1 H' ∧ H' D = some (.lst (ys.take (i + 1))), fun H' p' => ⟨n - (i + 1), by omega, rfl, hlt, p'.1, p'.2⟩, fun x H' y => ?_⟩
    obtain ⟨s1, k⟩ := hs i x _ H H' hlt hy sm y
    have := k (fun y H4 => ∃ acc, H4 D = some (.lst acc) ∧ acc.length < sizeLine ∧ (Same H1 (upd H4 D (.lst (acc ++ [y]))) ∧ (upd H4 D (.lst (acc ++ [y]))) D = some (.lst (ys.take (i + 1))))) fun H'' s2 => by
      refine ⟨ys.take i, s2 _ _ (s1 _ _ hDD), by rw [List.length_take]; omega, same_put hD (sm.trans (s1.trans s2)), ?_⟩
      rw [upd_same, take_snocD hy]
    exact this
  · have e : i = n := by omega
    subst e
    rw [← hn, List.take_length] at hDD
    exact .inl ⟨hstop H sm, hd H sm hDD⟩
theorem wipe1 (σ : St) (i : Nat) (x : V) : wipe ((wipe σ [i]).set i (some x)) [i] = wipe σ [i] := by
  show ((σ.set i none).set i (some x)).set i none = σ.set i none
  rw [List.set_set, List.set_set]
theorem lc_listF {K : PySem.W.Frag} {a : Addr} {xs ys : List V} {te : TE} {i : Nat} {σ : St} {H1 : Hp} {D : Addr} {Qd : Hp → Prop} (hD : H1 D = none) (ha : SqL K H1 a xs) (hn : ys.length = xs.length) (hz : xs.length ≤ sizeLine)
    (he : ∀ (j : Nat) x y H (Q : VK), xs[j]? = some x → ys[j]? = some y → Same H1 H → (∀ H', Same H H' → Q y H') → te ((σ.set i none).set i (some x)) H Q)
    (hd : ∀ H', Same H1 H' → H' D = some (.lst ys) → Qd H') :
    ∃ W : Nat → Nat → Hp → Prop, (∃ m, W 0 m (upd H1 D (.lst []))) ∧ ∀ i' m H, W i' m H →
      ((Itl K a).stop i' H ∧ Qd H) ∨ ((Itl K a).go i' H ∧ ∃ Nx : Hp → Prop, (∀ H', Nx H' → ∃ m', m' < m ∧ W (i' + 1) m' H') ∧ ∀ x H', (Itl K a).yld i' H x H' → gName i x (wipe σ [i]) H' fun σ2 H2 => wipe σ2 [i] = wipe σ [i] ∧ tYes σ2 H2 fun b H3 =>
        if b = true then te σ2 H3 fun y H4 => ∃ acc, H4 D = some (.lst acc) ∧ acc.length < sizeLine ∧ Nx (upd H4 D (.lst (acc ++ [y]))) else Nx H3) := by
  refine lc_F (n := xs.length) hD hn hz (fun j H hj s => ⟨xs, xs[j], s.seq ha, by simp [hj]⟩) (fun H s => ⟨xs, s.seq ha, Nat.le_refl _⟩) (fun j x y H H' hj hy s yl => ?_) hd
  obtain ⟨e, y'⟩ := yl
  subst e
  exact ⟨fun _ _ e => e, fun Q k => ⟨wipe1 σ i x, he j x y _ Q (y' xs (s.seq ha)) hy s k⟩⟩
theorem lc_rangeF {lo : Int} {n : Nat} {ys : List V} {te : TE} {i : Nat} {σ : St} {H1 : Hp} {D : Addr} {Qd : Hp → Prop} (hD : H1 D = none) (hn : ys.length = n) (hz : n ≤ sizeLine)
    (he : ∀ (j : Nat) y H (Q : VK), j < n → ys[j]? = some y → Same H1 H → (∀ H', Same H H' → Q y H') → te ((σ.set i none).set i (some (.int (lo + (j : Nat))))) H Q)
    (hd : ∀ H', Same H1 H' → H' D = some (.lst ys) → Qd H') :
    ∃ W : Nat → Nat → Hp → Prop, (∃ m, W 0 m (upd H1 D (.lst []))) ∧ ∀ i' m H, W i' m H →
      ((Itr lo n).stop i' H ∧ Qd H) ∨ ((Itr lo n).go i' H ∧ ∃ Nx : Hp → Prop, (∀ H', Nx H' → ∃ m', m' < m ∧ W (i' + 1) m' H') ∧ ∀ x H', (Itr lo n).yld i' H x H' → gName i x (wipe σ [i]) H' fun σ2 H2 => wipe σ2 [i] = wipe σ [i] ∧ tYes σ2 H2 fun b H3 =>
        if b = true then te σ2 H3 fun y H4 => ∃ acc, H4 D = some (.lst acc) ∧ acc.length < sizeLine ∧ Nx (upd H4 D (.lst (acc ++ [y]))) else Nx H3) := by
  refine lc_F (n := n) hD hn hz (fun j H hj s => hj) (fun H s => Nat.le_refl _) (fun j x y H H' hj hy s yl => ?_) hd
  obtain ⟨e, y'⟩ := yl
  subst e y'
  exact ⟨fun _ _ e => e, fun Q k => ⟨wipe1 σ i _, he j y _ Q hj hy s k⟩⟩
theorem lc_rangeCF {lo c : Int} {n : Nat} {ys : List V} {te : TE} {i : Nat} {σ : St} {H1 : Hp} {D : Addr} {Qd : Hp → Prop} (hD : H1 D = none) (hn : ys.length = n) (hz : n ≤ sizeLine)
    (he : ∀ (j : Nat) y H (Q : VK), j < n → ys[j]? = some y → Same H1 H → (∀ H', Same H H' → Q y H') → te ((σ.set i none).set i (some (.int (lo + (j : Nat) * c)))) H Q)
    (hd : ∀ H', Same H1 H' → H' D = some (.lst ys) → Qd H') :
    ∃ W : Nat → Nat → Hp → Prop, (∃ m, W 0 m (upd H1 D (.lst []))) ∧ ∀ i' m H, W i' m H →
      ((Itc lo c n).stop i' H ∧ Qd H) ∨ ((Itc lo c n).go i' H ∧ ∃ Nx : Hp → Prop, (∀ H', Nx H' → ∃ m', m' < m ∧ W (i' + 1) m' H') ∧ ∀ x H', (Itc lo c n).yld i' H x H' → gName i x (wipe σ [i]) H' fun σ2 H2 => wipe σ2 [i] = wipe σ [i] ∧ tYes σ2 H2 fun b H3 =>
        if b = true then te σ2 H3 fun y H4 => ∃ acc, H4 D = some (.lst acc) ∧ acc.length < sizeLine ∧ Nx (upd H4 D (.lst (acc ++ [y]))) else Nx H3) := by
  refine lc_F (n := n) hD hn hz (fun j H hj s => hj) (fun H s => Nat.le_refl _) (fun j x y H H' hj hy s yl => ?_) hd
  obtain ⟨e, y'⟩ := yl
  subst e y'
  exact ⟨fun _ _ e => e, fun Q k => ⟨wipe1 σ i _, he j y _ Q hj hy s k⟩⟩
theorem lc_enumF {K : PySem.W.Frag} {a : Addr} {xs ys : List V} {te : TE} {i i2 : Nat} {σ : St} {H1 : Hp} {D : Addr} {Qd : Hp → Prop} (hi : i ≠ i2) (hD : H1 D = none) (ha : SqL K H1 a xs) (hn : ys.length = xs.length) (hz : xs.length ≤ sizeLine)
    (he : ∀ (j : Nat) x y H (Q : VK), xs[j]? = some x → ys[j]? = some y → Same H1 H → (∀ H', Same H H' → Q y H') → te ((((σ.set i2 none).set i none).set i (some (.int (j : Nat)))).set i2 (some x)) H Q)
    (hd : ∀ H', Same H1 H' → H' D = some (.lst ys) → Qd H') :
    ∃ W : Nat → Nat → Hp → Prop, (∃ m, W 0 m (upd H1 D (.lst []))) ∧ ∀ i' m H, W i' m H →
      ((Ite K a).stop i' H ∧ Qd H) ∨ ((Ite K a).go i' H ∧ ∃ Nx : Hp → Prop, (∀ H', Nx H' → ∃ m', m' < m ∧ W (i' + 1) m' H') ∧ ∀ x H', (Ite K a).yld i' H x H' → gTup K 2 (gCons (gName i) (gCons (gName i2) gNil)) x (wipe σ [i, i2]) H' fun σ2 H2 => wipe σ2 [i, i2] = wipe σ [i, i2] ∧ tYes σ2 H2 fun b H3 =>
        if b = true then te σ2 H3 fun y H4 => ∃ acc, H4 D = some (.lst acc) ∧ acc.length < sizeLine ∧ Nx (upd H4 D (.lst (acc ++ [y]))) else Nx H3) := by
  refine lc_F (n := xs.length) hD hn hz (fun j H hj s => ⟨xs, xs[j], s.seq ha, by simp [hj]⟩) (fun H s => ⟨xs, s.seq ha, Nat.le_refl _⟩) (fun j x y H H' hj hy s yl => ?_) hd
  obtain ⟨T, z, rfl, hT, rfl, hx⟩ := yl
  refine ⟨same_new hT, fun Q k => ⟨T, _, rfl, SqT.of upd_same, rfl, ?_⟩⟩
  refine ⟨_, _, rfl, _, _, rfl, rfl, ?_, he j z y _ Q (hx xs (s.seq ha)) hy (s.trans (same_new hT)) k⟩
  show ((((((σ.set i2 none).set i none).set i (some (.int (j : Nat)))).set i2 (some z)).set i2 none).set i none) = (σ.set i2 none).set i none
  rw [List.set_set, List.set_set, List.set_comm _ _ hi, List.set_set, List.set_set]
theorem ix_listK {X : Cx} {K : PySem.W.Frag} (h : X.K = K := by rfl) : IxR X (rIxL K) := by
  subst h
  exact ix_list
theorem pg_tupK {X : Cx} {K : PySem.W.Frag} {es : List Expr} {k : Nat} {t : TGs} {n : Nat} {pos : Pos} (hc : X.calm = true) (h : PGs X es t) (hK : X.K = K := by rfl)
    (hn : (assignEach es X.env).length = n := by rfl) (hst : (assignEach es X.env).findIdx? (·.1) = none := by rfl) : PG X (.Tuple es k pos) (gTup K n t) := by
  subst hK
  exact pg_tup hc h hn hst
end L2
end
section
set_option Elab.async false
set_option linter.all false
set_option maxRecDepth 100000
set_option maxHeartbeats 4000000
namespace Cl
open PySem PySem.Spec PyProof.Rows L2 CM
abbrev sSigns : Stmt := top 10
abbrev sLaid : Stmt := top 11
abbrev sHeardSym : Stmt := top 12
abbrev sHeard : Stmt := top 13
abbrev sNearest : Stmt := top 14
abbrev sWithin : Stmt := top 27
def lI (xs : List Int) : HO := .lst (xs.map V.int)
section
variable {P : Program} {w : World} {K : PySem.W.Frag} {mg : Str → Option Value} {base : Heap}
def spSigns : Sp := fun vs H Q _ => ∃ l k : Nat, vs = [.int (l : Int), .int (k : Int)] ∧ l ≤ 8 ∧ k < 2 ^ l ∧ ∀ (H' : Hp) (p : Addr), Same H H' → H p = none → H' p = some (lI (signs l k)) → Q (.ref p) H'
theorem scSigns : FnScope ["level", "k", "signs", "grown", "turn", "sign"] ["level", "k"] (defScope sSigns) := ⟨rfl, rfl, rfl, by decide +kernel, rfl, by decide +kernel, by decide +kernel⟩
theorem ok_signs {f : Addr} {fd : FuncData} (F : Fun K "signs_of" "signs_of" sSigns f fd) (T : Txt K mg) : FnOk P w K mg base CX0 1 f fd ["level", "k"] spSigns := by
  refine F.ok scSigns (fun vs H Q E h => ?_) (fun cdv A outer s H vs Q E hr h => ?_)
  · obtain ⟨l, k, rfl, _⟩ := h
    rfl
  · obtain ⟨l, k, rfl, hl, hk, kk⟩ := h
    have hu := hu_of hr
    have nd := scSigns.nd
    refine ⟨_, pss_cons (ps_set (i := 2) nd rfl (Or.inl rfl) (pe_lst (pa_cons pe_int pa_nil)))
      (pss_cons (ps_for PassesOwn.never rfl (pi_range1 rfl T.range (pa_cons (pv 0) pa_nil)) (pg_name (i := 3) nd rfl (Or.inl rfl))
        (pss_cons (ps_set (i := 4) nd rfl (Or.inr rfl) (pe_ifExp (pt_cmpR op_eq (pe_op op_mod (pe_op op_shr (pv 1) (pe_op op_sub (pe_op op_sub (pv 0) pe_int) (pv 3))) pe_int) pe_int (nomark _)) (pe_un un_neg pe_int) pe_int))
        (pss_one (ps_set (i := 2) nd rfl (Or.inl rfl) (pe_op op_cat (pv 2)
          (pe_lc (own := [("sign", 5)]) rfl nd (pi_list (pv 2)) (by show BlkOk ["level", "k", "signs", "grown", "turn", "sign"] (defScope sSigns) _ [("sign", 5)]; exact ⟨rfl, by decide +kernel, by decide +kernel, by decide +kernel, by decide +kernel⟩) (fun _ _ _ _ _ => pg_name (i := 5) nd rfl (Or.inl rfl)) (fun _ _ _ _ _ => pts_nil) (fun _ _ _ _ _ => pe_op op_mul (pv 4) (pv 5))))))))
      (pss_one (ps_ret (pv 2)))), ?_⟩
    refine ⟨by show 1 ≤ sizeLine; decide, fun p0 hp0 => ?_⟩
    refine ⟨_, rfl, (l : Int), rfl, by omega, by omega, ?_⟩
    rw [Int.toNat_natCast]
    refine for_range (lo := 0) (n := l) (fun i σ H' => ∃ (p : Addr) (v3 v4 v5 : Option V), σ = [some (.int (l : Int)), some (.int (k : Int)), some (.ref p), v3, v4, v5] ∧ Same H H' ∧ H p = none ∧ H' p = some (lI (signs i (k / 2 ^ (l - i)))))
      ⟨p0, none, none, none, rfl, same_new hp0, hp0, upd_same⟩ ?_ ?_
    · rintro i σ H' hi ⟨p, v3, v4, v5, rfl, sm, hp, hp'⟩
      have e1 : ((l : Int) - 1 - (0 + (i : Int))).toNat = l - (i + 1) := by omega
      have e2 : (k : Int) / 2 ^ ((l : Int) - 1 - (0 + (i : Int))).toNat % 2 = ((k / 2 ^ (l - (i + 1)) % 2 : Nat) : Int) := by
        rw [e1, Int.natCast_emod, Int.natCast_ediv, Int.natCast_pow]
        rfl
      refine ⟨_, rfl, _, rfl, _, _, rfl, rfl, _, rfl, _, _, rfl, rfl, _, _, rfl, rfl, by show (0 : Int) ≤ _; omega, _, _, rfl, rfl, (by show (0 : Int) < 2; decide), rfl, _, rfl, ?_⟩
      have hq : k / 2 ^ (l - i) = k / 2 ^ (l - (i + 1)) / 2 := by
        rw [Nat.div_div_eq_div_mul, ← Nat.pow_succ]
        congr 2
        omega
      rw [hq] at hp'
      generalize hqq : k / 2 ^ (l - (i + 1)) = q at *
      have hlen : (signs i (q / 2)).length = 2 ^ i := signs_length _ _
      have hpow : 2 ^ i ≤ 256 := Nat.pow_le_pow_right (by decide) (show i ≤ 8 by omega)
      have hsz : 512 ≤ sizeLine := by decide
      refine ite2 (fun hc => ?_) (fun hc => ?_)
      · have hc' : q % 2 = 1 := by
          have := intV (of_decide_eq_true hc)
          rw [e2] at this
          omega
        refine ⟨_, rfl, ?_⟩
        refine ⟨_, rfl, _, rfl, p, rfl, ⟨_, SqL.of hp'⟩, fun D hD => lc_listF (K := K) (a := p) (xs := (signs i (q / 2)).map V.int) (ys := ((signs i (q / 2)).map fun s => (if q % 2 = 1 then -1 else 1) * s).map V.int) hD (SqL.of hp') (by rw [List.length_map, List.length_map, List.length_map]) (by rw [List.length_map]; omega) (fun j x y H2 Q2 hx hy s2 k2 => ?_) (fun H2 s2 hD2 => ?_)⟩
        · obtain ⟨z, hz, rfl⟩ := get_mapC hx
          obtain ⟨z1, hz1, rfl⟩ := get_mapC hy
          obtain ⟨z2, hz2, rfl⟩ := get_mapC hz1
          rw [hz] at hz2
          obtain rfl := Option.some.inj hz2
          rw [if_pos hc'] at k2
          exact ⟨_, rfl, _, rfl, _, _, rfl, rfl, .inl ⟨by decide, by decide⟩, k2 _ (Same.refl _)⟩
        · refine ⟨p, D, _, _, rfl, rfl, s2 _ _ hp', hD2, by rw [List.length_map, List.length_map, List.length_map]; omega, fun p2 hp2 => ?_⟩
          have hp20 : H p2 = none := (sm.trans s2).free hp2
          refine ⟨p2, _, _, _, rfl, (sm.trans s2).trans (same_new hp2), hp20, ?_⟩
          rw [upd_same, ← List.map_append, ← signs_succ]
          rfl
      · have hc' : ¬ q % 2 = 1 := fun z => hc (decide_eq_true (congrArg V.int (by show (k : Int) / 2 ^ ((l : Int) - 1 - (0 + (i : Int))).toNat % 2 = 1; rw [e2, z]; rfl)))
        refine ⟨_, rfl, _, rfl, p, rfl, ⟨_, SqL.of hp'⟩, fun D hD => lc_listF (K := K) (a := p) (xs := (signs i (q / 2)).map V.int) (ys := ((signs i (q / 2)).map fun s => (if q % 2 = 1 then -1 else 1) * s).map V.int) hD (SqL.of hp') (by rw [List.length_map, List.length_map, List.length_map]) (by rw [List.length_map]; omega) (fun j x y H2 Q2 hx hy s2 k2 => ?_) (fun H2 s2 hD2 => ?_)⟩
        · obtain ⟨z, hz, rfl⟩ := get_mapC hx
          obtain ⟨z1, hz1, rfl⟩ := get_mapC hy
          obtain ⟨z2, hz2, rfl⟩ := get_mapC hz1
          rw [hz] at hz2
          obtain rfl := Option.some.inj hz2
          rw [if_neg hc'] at k2
          exact ⟨_, rfl, _, rfl, _, _, rfl, rfl, .inl ⟨by decide, by decide⟩, k2 _ (Same.refl _)⟩
        · refine ⟨p, D, _, _, rfl, rfl, s2 _ _ hp', hD2, by rw [List.length_map, List.length_map, List.length_map]; omega, fun p2 hp2 => ?_⟩
          have hp20 : H p2 = none := (sm.trans s2).free hp2
          refine ⟨p2, _, _, _, rfl, (sm.trans s2).trans (same_new hp2), hp20, ?_⟩
          rw [upd_same, ← List.map_append, ← signs_succ]
          rfl
    · rintro σ H' ⟨p, v3, v4, v5, rfl, sm, hp, hp'⟩
      rw [Nat.sub_self, Nat.pow_zero, Nat.div_one] at hp'
      exact ⟨_, rfl, kk H' p sm hp hp'⟩
end
end Cl
end
section
set_option Elab.async false
set_option linter.all false
set_option maxRecDepth 100000
set_option maxHeartbeats 4000000
namespace Cl
open PySem PySem.Spec PyProof.Rows L2 CM
theorem bootSum : bootBuiltins "sum" = some (.builtin "sum") := by decide +kernel
theorem bootAll : bootBuiltins "all" = some (.builtin "all") := by decide +kernel
theorem bootAbs : bootBuiltins "abs" = some (.builtin "abs") := by decide +kernel
theorem at_int {xs : List Int} {j : Nat} {x : Int} (h : xs[j]? = some x) : atI (xs.map V.int) (j : Int) = some (V.int x) := atI_nat (by rw [List.getElem?_map, h]; rfl)
theorem getD_get {xs : List Int} {j : Nat} (h : j < xs.length) : xs[j]? = some (xs.getD j 0) := by
  rw [List.getD_eq_getElem?_getD, List.getElem?_eq_getElem h]
  rfl
section
variable {P : Program} {w : World} {K : PySem.W.Frag} {mg : Str → Option Value} {base : Heap}
def spLaid : Sp := fun vs H Q _ => ∃ (a b : Addr) (l k : Nat) (line syms : List Int), vs = [.ref a, .int (l : Int), .int (k : Int), .ref b] ∧ H a = some (lI line) ∧ H b = some (lI syms) ∧ l ≤ 8 ∧ k < 2 ^ l ∧ line.length = 256 ∧ syms.length = wid l ∧
  ∀ (H' : Hp) (p : Addr), Same H H' → H p = none → H' p = some (lI (Kh296.lay ⟨l, k⟩ syms line)) → Q (.ref p) H'
theorem scLaid : FnScope ["row", "level", "k", "symbols", "signs", "size", "place"] ["row", "level", "k", "symbols"] (defScope sLaid) := ⟨rfl, rfl, rfl, by decide +kernel, rfl, by decide +kernel, by decide +kernel⟩
theorem ok_laid {f f1 : Addr} {fd fd1 : FuncData} (F : Fun K "laid" "laid" sLaid f fd) (T : Txt K mg) (G : FnOk P w K mg base CX0 1 f1 fd1 ["level", "k"] spSigns) (bG : Binds K fd1 ["level", "k"] []) (mG : mg "signs_of" = some (.ref f1)) (kG : PySem.W.keepIn K (.ref f1) = true) :
    FnOk P w K mg base CX0 2 f fd ["row", "level", "k", "symbols"] spLaid := by
  refine F.ok scLaid (fun vs H Q E h => ?_) (fun cdv A outer s H vs Q E hr h => ?_)
  · obtain ⟨a, b, l, k, line, syms, rfl, _⟩ := h
    rfl
  · obtain ⟨a, b, l, k, line, syms, rfl, ha, hb, hl, hk, hline, hsyms, kk⟩ := h
    obtain ⟨tP, hP⟩ := T.places
    have hu := hu_of hr
    have nd := scLaid.nd
    refine ⟨_, pss_cons (ps_set (i := 4) nd rfl (Or.inr rfl) (pe_call G hr rfl mG kG bG .nil pass0 (pa_cons (pv 1) (pa_cons (pv 2) pa_nil))))
      (pss_cons (ps_set (i := 5) nd rfl (Or.inr rfl) (pe_callB call_len_seq (by rfl) T.len PySem.boot_len (pa_cons (pv 4) pa_nil)))
      (pss_one (ps_ret (pe_lc (own := [("place", 6)]) rfl nd (pi_range1 rfl T.range (pa_cons (pe_glob (v := .int 256) rfl hP ⟨tP, rfl⟩) pa_nil))
        (by show BlkOk ["row", "level", "k", "symbols", "signs", "size", "place"] (defScope sLaid) _ [("place", 6)]; exact ⟨rfl, by decide +kernel, by decide +kernel, by decide +kernel, by decide +kernel⟩) (fun _ _ _ _ _ => pg_name (i := 6) nd rfl (Or.inl rfl)) (fun _ _ _ _ _ => pts_nil)
        (fun _ _ _ _ _ => pe_op op_add (pe_ix (ix_listK (K := K)) (pv 0) (pv 6) (fun _ _ => rfl)) (pe_op op_mul (pe_ix (ix_listK (K := K)) (pv 4) (pe_op op_mod (pv 6) (pv 5)) (fun _ _ => rfl)) (pe_ix (ix_listK (K := K)) (pv 3) (pe_op op_fdiv (pv 6) (pv 5)) (fun _ _ => rfl)))))))), ?_⟩
    refine ⟨_, rfl, _, rfl, l, k, rfl, hl, hk, fun H1 p s1 hp hp1 => ?_⟩
    have hlen : (signs l k).length = 2 ^ l := signs_length _ _
    have hpow : 2 ^ l ≤ 256 := Nat.pow_le_pow_right (by decide) hl
    have hpos : 0 < 2 ^ l := Nat.two_pow_pos l
    have hw : 2 ^ l * wid l = 256 := wid_top l hl
    have hsz : 512 ≤ sizeLine := by decide
    refine ⟨_, rfl, p, _, rfl, .inl (SqL.of hp1), ?_⟩
    rw [List.length_map, hlen]
    refine ⟨256, rfl, by decide, by decide, fun D hD => ?_⟩
    refine lc_rangeF (lo := 0) (n := (256 : Int).toNat) (i := 6) (ys := (Kh296.lay ⟨l, k⟩ syms line).map V.int) hD (by unfold Kh296.lay; rw [List.length_map, List.length_map, List.length_range]; rfl) (by decide) (fun j y H2 Q2 hj hy s2 k2 => ?_) (fun H2 s2 hD2 => ?_)
    · have hj : j < 256 := hj
      obtain ⟨z, hz, rfl⟩ := get_mapC hy
      have hz : ((List.range 256).map fun i => line.getD i 0 + Kh296.signed (Kh296.minus ⟨l, k⟩ i) (syms.getD (i / Kh296.length ⟨l, k⟩) 0))[j]? = some z := hz
      obtain ⟨j', hj', rfl⟩ := get_mapC hz
      rw [List.getElem?_range hj] at hj'
      obtain rfl := Option.some.inj hj'
      have h0 : line[j]? = some (line.getD j 0) := getD_get (by omega)
      have h1 := signs_get ⟨l, k⟩ (i := j)
      have hd : j / 2 ^ l < syms.length := by
        rw [hsyms]
        exact (Nat.div_lt_iff_lt_mul hpos).mpr (by rw [Nat.mul_comm, hw]; exact hj)
      have h2 : syms[j / 2 ^ l]? = some (syms.getD (j / 2 ^ l) 0) := getD_get hd
      have e0 : (0 : Int) + (j : Int) = (j : Int) := Int.zero_add _
      have e1 : ((0 : Int) + (j : Int)) % ((2 ^ l : Nat) : Int) = ((j % 2 ^ l : Nat) : Int) := by rw [e0, Int.natCast_emod]
      have e2 : ((0 : Int) + (j : Int)) / ((2 ^ l : Nat) : Int) = ((j / 2 ^ l : Nat) : Int) := by rw [e0, Int.natCast_ediv]
      have g0 : SqL K H2 a (line.map V.int) := SqL.of (s2 _ _ (s1 _ _ ha))
      have g1 : SqL K H2 p ((signs l k).map V.int) := SqL.of (s2 _ _ hp1)
      have g2 : SqL K H2 b (syms.map V.int) := SqL.of (s2 _ _ (s1 _ _ hb))
      refine ⟨_, rfl, _, rfl, a, _, _, _, rfl, rfl, g0, (by rw [e0]; exact at_int h0), ?_⟩
      refine ⟨_, rfl, _, rfl, _, rfl, _, _, rfl, rfl, (by show (0 : Int) < _; omega), p, _, _, _, rfl, rfl, g1, (by rw [e1]; exact at_int h1), ?_⟩
      refine ⟨_, rfl, _, rfl, _, rfl, _, _, rfl, rfl, ⟨by omega, by omega⟩, b, _, _, _, rfl, rfl, g2, (by rw [e2]; exact at_int h2), ?_⟩
      refine ⟨_, _, rfl, rfl, .inl ?_, _, _, rfl, rfl, ?_⟩
      · cases Kh296.minus ⟨l, k⟩ j <;> exact ⟨by decide, by decide⟩
      · rw [sgn_signed]
        exact k2 _ (Same.refl _)
    · exact kk H2 D (s1.trans s2) (s1.free hD) hD2
def spHeardSym : Sp := fun vs H Q _ => ∃ (a b : Addr) (c : Kh296.Code) (f : Nat) (line : List Int), vs = [.ref a, .ref b, .int (f : Int)] ∧ H a = some (lI line) ∧ H b = some (lI (signs c.level c.k)) ∧ c.level ≤ 8 ∧ line.length = 256 ∧ f + 2 ^ c.level ≤ 256 ∧
  ∀ (H' : Hp), Same H H' → Q (.int (heardAt c line f)) H'
theorem scHeardSym : FnScope ["row", "signs", "first", "step", "sign"] ["row", "signs", "first"] (defScope sHeardSym) := ⟨rfl, rfl, rfl, by decide +kernel, rfl, by decide +kernel, by decide +kernel⟩
theorem ok_heardSym {f : Addr} {fd : FuncData} (F : Fun K "heard_symbol" "heard_symbol" sHeardSym f fd) (T : Txt K mg) : FnOk P w K mg base CX0 1 f fd ["row", "signs", "first"] spHeardSym := by
  refine F.ok scHeardSym (fun vs H Q E h => ?_) (fun cdv A outer s H vs Q E hr h => ?_)
  · obtain ⟨a, b, c, f, line, rfl, _⟩ := h
    rfl
  · obtain ⟨a, b, c, f, line, rfl, ha, hb, hl, hline, hf, kk⟩ := h
    have hu := hu_of hr
    have nd := scHeardSym.nd
    refine ⟨_, pss_one (ps_ret (pe_callB (cr_sum rfl) (by rfl) T.sum bootSum (pa_cons
      (pe_lc (own := [("step", 3), ("sign", 4)]) rfl nd (pi_enum rfl T.enumerate (pa_cons (pv 1) pa_nil))
        (by show BlkOk ["row", "signs", "first", "step", "sign"] (defScope sHeardSym) _ [("step", 3), ("sign", 4)]; exact ⟨rfl, by decide +kernel, by decide +kernel, by decide +kernel, by decide +kernel⟩) (fun _ _ _ _ _ => pg_tupK (K := K) (n := 2) rfl (pgs_cons (pg_name (i := 3) nd rfl (Or.inl rfl)) (pgs_cons (pg_name (i := 4) nd rfl (Or.inl rfl)) pgs_nil))) (fun _ _ _ _ _ => pts_nil)
        (fun _ _ _ _ _ => pe_op op_mul (pv 4) (pe_ix (ix_listK (K := K)) (pv 0) (pe_op op_add (pv 2) (pv 3)) (fun _ _ => rfl)))) pa_nil))), ?_⟩
    have hlen : (signs c.level c.k).length = 2 ^ c.level := signs_length _ _
    have hpow : 2 ^ c.level ≤ 256 := Nat.pow_le_pow_right (by decide) hl
    have hsz : 512 ≤ sizeLine := by decide
    refine ⟨_, rfl, b, _, rfl, SqL.of hb, fun D hD => ?_⟩
    refine lc_enumF (K := K) (a := b) (i := 3) (i2 := 4) (xs := (signs c.level c.k).map V.int) (ys := ((List.range (2 ^ c.level)).map fun i => sgn ((Kh296.row c.level c.k).getD i false) * line.getD (f + i) 0).map V.int) (by decide) hD (SqL.of hb) (by rw [List.length_map, List.length_map, List.length_range, List.length_map, hlen]) (by rw [List.length_map, hlen]; omega) (fun j x y H2 Q2 hx hy s2 k2 => ?_) (fun H2 s2 hD2 => ?_)
    · obtain ⟨z, hz, rfl⟩ := get_mapC hx
      obtain ⟨z1, hz1, rfl⟩ := get_mapC hy
      obtain ⟨j', hj', rfl⟩ := get_mapC hz1
      have hj : j < 2 ^ c.level := by have := (List.getElem?_eq_some_iff.mp hz).1; omega
      rw [List.getElem?_range hj] at hj'
      obtain rfl := Option.some.inj hj'
      have hjr : j < (Kh296.row c.level c.k).length := by rw [row_length]; exact hj
      have ez : z = sgn ((Kh296.row c.level c.k).getD j false) := by
        unfold CM.signs at hz
        rw [List.getElem?_map, List.getElem?_eq_getElem hjr] at hz
        rw [List.getD_eq_getElem?_getD, List.getElem?_eq_getElem hjr]
        exact (Option.some.inj hz).symm
      subst ez
      have h0 : line[f + j]? = some (line.getD (f + j) 0) := getD_get (by omega)
      have g0 : SqL K H2 a (line.map V.int) := SqL.of (s2 _ _ ha)
      refine ⟨_, rfl, _, rfl, _, rfl, _, rfl, _, _, rfl, rfl, a, _, _, _, rfl, rfl, g0, at_int (j := f + j) h0, ?_⟩
      refine ⟨_, _, rfl, rfl, .inl ?_, k2 _ (Same.refl _)⟩
      cases (Kh296.row c.level c.k).getD j false <;> exact ⟨by decide, by decide⟩
    · exact ⟨D, _, rfl, SqL.of hD2, kk H2 s2⟩
def spHeard : Sp := fun vs H Q _ => ∃ (a : Addr) (c : Kh296.Code) (line : List Int), vs = [.ref a, .int (c.level : Int), .int (c.k : Int)] ∧ H a = some (lI line) ∧ c.level ≤ 8 ∧ c.k < 2 ^ c.level ∧ line.length = 256 ∧
  ∀ (H' : Hp) (p : Addr), Same H H' → H p = none → H' p = some (lI (Kh296.hear c line)) → Q (.ref p) H'
theorem scHeard : FnScope ["row", "level", "k", "signs", "first"] ["row", "level", "k"] (defScope sHeard) := ⟨rfl, rfl, rfl, by decide +kernel, rfl, by decide +kernel, by decide +kernel⟩
theorem rgC_up (l : Nat) (h : l ≤ 8) : RgC 0 256 ((2 ^ l : Nat) : Int) (wid l) := by
  have : l = 0 ∨ l = 1 ∨ l = 2 ∨ l = 3 ∨ l = 4 ∨ l = 5 ∨ l = 6 ∨ l = 7 ∨ l = 8 := by omega
  rcases this with rfl | rfl | rfl | rfl | rfl | rfl | rfl | rfl | rfl <;> exact ⟨by decide, by decide, by decide +kernel, by decide +kernel⟩
theorem ok_heard {f f1 f2 : Addr} {fd fd1 fd2 : FuncData} (F : Fun K "heard" "heard" sHeard f fd) (T : Txt K mg) (G : FnOk P w K mg base CX0 1 f1 fd1 ["level", "k"] spSigns) (bG : Binds K fd1 ["level", "k"] []) (mG : mg "signs_of" = some (.ref f1)) (kG : PySem.W.keepIn K (.ref f1) = true)
    (G2 : FnOk P w K mg base CX0 1 f2 fd2 ["row", "signs", "first"] spHeardSym) (bG2 : Binds K fd2 ["row", "signs", "first"] []) (mG2 : mg "heard_symbol" = some (.ref f2)) (kG2 : PySem.W.keepIn K (.ref f2) = true) :
    FnOk P w K mg base CX0 2 f fd ["row", "level", "k"] spHeard := by
  refine F.ok scHeard (fun vs H Q E h => ?_) (fun cdv A outer s H vs Q E hr h => ?_)
  · obtain ⟨a, c, line, rfl, _⟩ := h
    rfl
  · obtain ⟨a, c, line, rfl, ha, hl, hk, hline, kk⟩ := h
    obtain ⟨tP, hP⟩ := T.places
    have hu := hu_of hr
    have nd := scHeard.nd
    refine ⟨_, pss_cons (ps_set (i := 3) nd rfl (Or.inr rfl) (pe_call G hr rfl mG kG bG .nil pass0 (pa_cons (pv 1) (pa_cons (pv 2) pa_nil))))
      (pss_one (ps_ret (pe_lc (own := [("first", 4)]) rfl nd (pi_range3 rfl T.range (pa_cons pe_int (pa_cons (pe_glob (v := .int 256) rfl hP ⟨tP, rfl⟩) (pa_cons (pe_callB call_len_seq (by rfl) T.len PySem.boot_len (pa_cons (pv 3) pa_nil)) pa_nil))))
        (by show BlkOk ["row", "level", "k", "signs", "first"] (defScope sHeard) _ [("first", 4)]; exact ⟨rfl, by decide +kernel, by decide +kernel, by decide +kernel, by decide +kernel⟩) (fun _ _ _ _ _ => pg_name (i := 4) nd rfl (Or.inl rfl)) (fun _ _ _ _ _ => pts_nil)
        (fun _ _ _ _ _ => pe_call G2 hr rfl mG2 kG2 bG2 .nil pass0 (pa_cons (pv 0) (pa_cons (pv 3) (pa_cons (pv 4) pa_nil))))))), ?_⟩
    have hlen : (signs c.level c.k).length = 2 ^ c.level := signs_length _ _
    have hpow : 2 ^ c.level ≤ 256 := Nat.pow_le_pow_right (by decide) hl
    have hpos : 0 < 2 ^ c.level := Nat.two_pow_pos c.level
    have hw : 2 ^ c.level * wid c.level = 256 := wid_top c.level hl
    have hwl : wid c.level ≤ 256 := wid_le c.level
    have hsz : 512 ≤ sizeLine := by decide
    refine ⟨_, rfl, _, rfl, c.level, c.k, rfl, hl, hk, fun H1 p s1 hp hp1 => ?_⟩
    refine ⟨_, rfl, p, _, rfl, .inl (SqL.of hp1), ?_⟩
    rw [List.length_map, hlen]
    refine ⟨0, 256, _, _, rfl, rgC_up c.level hl, fun D hD => ?_⟩
    refine lc_rangeCF (i := 4) (ys := (Kh296.hear c line).map V.int) hD (by rw [hear_eq, List.length_map, List.length_map, List.length_range]) (by omega) (fun j y H2 Q2 hj hy s2 k2 => ?_) (fun H2 s2 hD2 => ?_)
    · obtain ⟨z, hz, rfl⟩ := get_mapC hy
      rw [hear_eq] at hz
      obtain ⟨j', hj', rfl⟩ := get_mapC hz
      rw [List.getElem?_range hj] at hj'
      obtain rfl := Option.some.inj hj'
      have e1 : (0 : Int) + (j : Int) * ((2 ^ c.level : Nat) : Int) = ((j * 2 ^ c.level : Nat) : Int) := by rw [Int.zero_add, Int.natCast_mul]
      have hle : j * 2 ^ c.level + 2 ^ c.level ≤ 256 := by
        have := Nat.mul_le_mul_right (2 ^ c.level) (show j + 1 ≤ wid c.level from hj)
        rw [Nat.succ_mul, Nat.mul_comm (wid c.level), hw] at this
        exact this
      refine ⟨_, rfl, _, rfl, _, rfl, a, p, c, j * 2 ^ c.level, line, by rw [e1]; rfl, s2 _ _ (s1 _ _ ha), s2 _ _ hp1, hl, hline, hle, fun H3 s3 => k2 H3 s3⟩
    · exact kk H2 D (s1.trans s2) (s1.free hD) hD2
def spNearest : Sp := fun vs H Q _ => ∃ (v : Int) (l : Nat), vs = [.int v, .int ((2 ^ l : Nat) : Int)] ∧ l ≤ 8 ∧ Q (.int (Kh297.nearest v l)) H
theorem scNearest : FnScope ["number", "size", "whole", "twice_rest"] ["number", "size"] (defScope sNearest) := ⟨rfl, rfl, rfl, by decide +kernel, rfl, by decide +kernel, by decide +kernel⟩
def spWithin : Sp := fun vs H Q _ => ∃ (a : Addr) (xs : List Int) (m : Int), vs = [.ref a, .int m] ∧ H a = some (lI xs) ∧ xs.length ≤ 256 ∧ ∀ H', Same H H' → Q (.bl (xs.all fun v => decide (-m ≤ v) && decide (v ≤ m))) H'
theorem scWithin : FnScope ["numbers", "most", "number"] ["numbers", "most"] (defScope sWithin) := ⟨rfl, rfl, rfl, by decide +kernel, rfl, by decide +kernel, by decide +kernel⟩
theorem ok_within {f : Addr} {fd : FuncData} (F : Fun K "are_within" "are_within" sWithin f fd) (T : Txt K mg) : FnOk P w K mg base CX0 1 f fd ["numbers", "most"] spWithin := by
  refine F.ok scWithin (fun vs H Q E h => ?_) (fun cdv A outer s H vs Q E hr h => ?_)
  · obtain ⟨a, xs, m, rfl, _⟩ := h
    rfl
  · obtain ⟨a, xs, m, rfl, ha, hlen, kk⟩ := h
    have hu := hu_of hr
    have nd := scWithin.nd
    refine ⟨_, pss_one (ps_ret (pe_callB (cr_all rfl) (by rfl) T.all bootAll (pa_cons
      (pe_lc (own := [("number", 2)]) rfl nd (pi_list (pv 0))
        (by show BlkOk ["numbers", "most", "number"] (defScope sWithin) _ [("number", 2)]; exact ⟨rfl, by decide +kernel, by decide +kernel, by decide +kernel, by decide +kernel⟩) (fun _ _ _ _ _ => pg_name (i := 2) nd rfl (Or.inl rfl)) (fun _ _ _ _ _ => pts_nil)
        (fun _ _ _ _ _ => pe_cmpR op_le (pe_callB call_abs (by rfl) T.abs bootAbs (pa_cons (pv 2) pa_nil)) (pv 1) (nomark _))) pa_nil))), ?_⟩
    have hsz : 512 ≤ sizeLine := by decide
    refine ⟨_, rfl, a, rfl, ⟨_, SqL.of ha⟩, fun D hD => ?_⟩
    refine lc_listF (K := K) (a := a) (i := 2) (xs := xs.map V.int) (ys := (xs.map fun v => decide ((if v < 0 then -v else v) ≤ m)).map V.bl) hD (SqL.of ha) (by rw [List.length_map, List.length_map, List.length_map]) (by rw [List.length_map]; omega) (fun j x y H2 Q2 hx hy s2 k2 => ?_) (fun H2 s2 hD2 => ?_)
    · obtain ⟨z, hz, rfl⟩ := get_mapC hx
      obtain ⟨z1, hz1, rfl⟩ := get_mapC hy
      obtain ⟨z2, hz2, rfl⟩ := get_mapC hz1
      rw [hz] at hz2
      obtain rfl := Option.some.inj hz2
      exact ⟨_, rfl, _, rfl, _, rfl, _, _, rfl, rfl, k2 _ (Same.refl _)⟩
    · refine ⟨D, _, rfl, SqL.of hD2, ?_⟩
      rw [← within_eq]
      exact kk H2 s2
end
end Cl
end
section
set_option Elab.async false
set_option linter.all false
set_option maxRecDepth 100000
set_option maxHeartbeats 4000000
namespace Cl
open PySem PySem.Spec PyProof.Rows L2 CM
section
variable {P : Program} {w : World} {K : PySem.W.Frag} {mg : Str → Option Value} {base : Heap}
theorem ok_nearest {f : Addr} {fd : FuncData} (F : Fun K "divided_to_nearest" "divided_to_nearest" sNearest f fd) (T : Txt K mg) : FnOk P w K mg base CX0 1 f fd ["number", "size"] spNearest := by
  refine F.ok scNearest (fun vs H Q E h => ?_) (fun cdv A outer s H vs Q E hr h => ?_)
  · obtain ⟨v, l, rfl, _⟩ := h
    rfl
  · obtain ⟨v, l, rfl, hl, kk⟩ := h
    have hu := hu_of hr
    have nd := scNearest.nd
    refine ⟨_, pss_cons (ps_set (i := 2) nd rfl (Or.inl rfl) (pe_op op_fdiv (pv 0) (pv 1)))
      (pss_cons (ps_set (i := 3) nd rfl (Or.inl rfl) (pe_op op_mul pe_int (pe_op op_mod (pv 0) (pv 1))))
      (pss_cons (ps_if (PW.pt (pw_or (pt_cmpR op_gt (pv 3) (pv 1) (nomark _)) (pw_or1 (PW.pt (pw_and (pt_cmpR op_eq (pv 3) (pv 1) (nomark _)) (pw_and1 (pt_cmpR op_eq (pe_op op_mod (pv 2) pe_int) pe_int (nomark _)))))))) (pss_one (ps_ret (pe_op op_add (pv 2) pe_int))) pss_nil)
      (pss_one (ps_ret (pv 2))))), ?_⟩
    have hpow : 2 ^ l ≤ 256 := Nat.pow_le_pow_right (by decide) hl
    have hpos : 0 < 2 ^ l := Nat.two_pow_pos l
    have e : ((2 ^ l : Nat) : Int) = (2 : Int) ^ l := Int.natCast_pow 2 l
    rw [nearest_eq, ← e] at kk
    generalize 2 ^ l = n at *
    refine ⟨_, rfl, _, rfl, _, _, rfl, rfl, ⟨by omega, by omega⟩, _, rfl, _, rfl, _, _, rfl, rfl, (by show (0 : Int) < _; omega), _, _, rfl, rfl, .inl ⟨by decide, by decide⟩, ?_⟩
    refine ⟨_, rfl, _, rfl, _, _, rfl, rfl, _, rfl, ?_⟩
    refine ite2 (fun h1 => ?_) (fun h1 => ?_)
    · refine iteT ⟨_, rfl, _, _, rfl, rfl, ?_⟩
      rw [if_pos (.inl h1)] at kk
      exact kk
    · refine ⟨_, rfl, _, rfl, rfl, _, rfl, ?_⟩
      refine ite2 (fun h2 => ?_) (fun h2 => ?_)
      · have h2' := intV (of_decide_eq_true h2)
        refine ⟨_, rfl, _, _, rfl, rfl, (by show (0 : Int) < 2; decide), rfl, _, rfl, ?_⟩
        refine ite2 (fun h3 => ?_) (fun h3 => ?_)
        · have h3' := intV (of_decide_eq_true h3)
          refine ⟨_, rfl, _, _, rfl, rfl, ?_⟩
          rw [if_pos (.inr ⟨h2', h3'⟩)] at kk
          exact kk
        · refine ⟨_, rfl, ?_⟩
          rw [if_neg (fun z => z.elim h1 fun z => h3 (decide_eq_true (congrArg V.int z.2)))] at kk
          exact kk
      · refine iteF ⟨_, rfl, ?_⟩
        rw [if_neg (fun z => z.elim h1 fun z => h2 (decide_eq_true (congrArg V.int z.1)))] at kk
        exact kk
end
end Cl
end
section
set_option Elab.async false
set_option linter.all false
set_option maxRecDepth 100000
set_option maxHeartbeats 2000000
namespace L2
open PySem PySem.Spec PyProof.Rows
theorem for_keys {d : Addr} {o : Obj} {kvs : List (Key × V)} {g : TG} {tb : TS} {D : Ends} {σ : St} {H : Hp} (Pv : Nat → St → Hp → Prop) (h0 : Pv 0 σ H) (hl : ∀ i σ H, i ≤ kvs.length → Pv i σ H → H d = some (.frz o (.dK kvs)))
    (hs : ∀ i k v σ H, kvs[i]? = some (k, v) → Pv i σ H → g (kV k) σ H fun σ2 H2 => tb { D with nx := Pv (i + 1), ct := Pv (i + 1), bk := D.nx } σ2 H2) (hd : ∀ σ H, Pv kvs.length σ H → D.nx σ H) :
    ∃ W : Nat → Nat → St → Hp → Prop, (∃ m, W 0 m σ H) ∧ ∀ i m σ H, W i m σ H →
      ((Itk d o kvs).stop i H ∧ D.nx σ H) ∨ ((Itk d o kvs).go i H ∧ ∃ N : St → Hp → Prop, (∀ σ' H', N σ' H' → ∃ m', m' < m ∧ W (i + 1) m' σ' H') ∧ ∀ x H', (Itk d o kvs).yld i H x H' → g x σ H' fun σ2 H2 => tb { D with nx := N, ct := N, bk := D.nx } σ2 H2) := by
  refine ⟨fun i m σ H => m = kvs.length - i ∧ i ≤ kvs.length ∧ Pv i σ H, ⟨kvs.length, by simp, Nat.zero_le _, h0⟩, ?_⟩
  rintro i m σ H ⟨rfl, hi, p⟩
  have q := hl i σ H hi p
  by_cases hlt : i < kvs.length
  · refine .inr ⟨⟨q, hlt⟩, Pv (i + 1), fun σ' H' p' => ⟨kvs.length - (i + 1), by omega, rfl, hlt, p'⟩, fun x H' y => ?_⟩
    obtain ⟨e, k, v, hk, ex⟩ := y
    subst e ex
    exact hs i k v σ _ hk p
  · have e : i = kvs.length := by omega
    subst e
    exact .inl ⟨⟨q, Nat.le_refl _⟩, hd σ H p⟩
abbrev dN (m : List (Nat × Nat)) : List (Key × V) := m.map fun p => ((Sum.inl (p.1 : Int) : Key), V.int (p.2 : Int))
theorem valV_dN (u : Nat) : ∀ m : List (Nat × Nat), valV (dN m) (Sum.inl (u : Int)) = (m.lookup u).map fun n => V.int (n : Int)
  | [] => rfl
  | (a, b) :: m => by
    show valV ((Sum.inl (a : Int), V.int (b : Int)) :: dN m) (Sum.inl (u : Int)) = _
    rw [List.lookup_cons]
    by_cases e : a = u
    · subst e
      rw [valV_pos rfl, beq_self_eq_true]
      rfl
    · have e' : ¬ ((Sum.inl (a : Int) : Key) = Sum.inl (u : Int)) := fun q => e (by have := Sum.inl.inj q; omega)
      have e2 : ¬ u = a := fun q => e q.symm
      rw [valV_neg e', beq_eq_false_iff_ne.mpr e2, valV_dN u m]
theorem dN_get {m : List (Nat × Nat)} {i : Nat} {k : Key} {v : V} (h : (dN m)[i]? = some (k, v)) : ∃ a b, m[i]? = some (a, b) ∧ k = Sum.inl (a : Int) ∧ v = V.int (b : Int) := by
  rw [List.getElem?_map] at h
  cases e : m[i]? with
  | none => rw [e] at h; cases h
  | some p =>
    rw [e] at h
    have q := Option.some.inj h
    injection q with q1 q2
    exact ⟨p.1, p.2, rfl, q1.symm, q2.symm⟩
theorem lookup_of_get {m : List (Nat × Nat)} : ∀ {i a b : Nat}, (m.map (·.1)).Nodup → m[i]? = some (a, b) → m.lookup a = some b := by
  induction m with
  | nil => intro i a b _ h; simp at h
  | cons p m ih =>
    intro i a b hd h
    obtain ⟨x, y⟩ := p
    have hd' : x ∉ m.map (·.1) ∧ (m.map (·.1)).Nodup := List.nodup_cons.mp hd
    rw [List.lookup_cons]
    cases i with
    | zero =>
      have e : (x, y) = (a, b) := Option.some.inj h
      injection e with e1 e2
      subst e1 e2
      rw [beq_self_eq_true]
    | succ i =>
      have h' : m[i]? = some (a, b) := by simpa using h
      have ne : ¬ a = x := fun e => hd'.1 (List.mem_map.mpr ⟨(a, b), List.mem_of_getElem? h', e⟩)
      rw [beq_eq_false_iff_ne.mpr ne]
      exact ih hd'.2 h'
theorem take_snoc {α : Type} : ∀ {l : List α} {i : Nat} {x : α}, l[i]? = some x → l.take (i + 1) = l.take i ++ [x]
  | [], i, x, h => by simp at h
  | a :: l, 0, x, h => by
    have e : a = x := Option.some.inj h
    subst e
    rfl
  | a :: l, i + 1, x, h => by
    have ih := take_snoc (l := l) (i := i) (x := x) h
    show a :: l.take (i + 1) = a :: l.take i ++ [x]
    rw [ih]
    rfl
theorem rep_flat {α : Type} (x : α) : ∀ n : Nat, (List.replicate n [x]).flatten = List.replicate n x
  | 0 => rfl
  | n + 1 => by rw [List.replicate_succ, List.flatten_cons, rep_flat x n, List.replicate_succ]; rfl
end L2
end
section
set_option Elab.async false
set_option linter.all false
set_option maxRecDepth 100000
set_option maxHeartbeats 2000000
namespace Cl
open PySem PySem.Spec PyProof.Rows L2 CM
section
variable {P : Program} {w : World} {K : PySem.W.Frag} {mg : Str → Option Value} {base : Heap}
def Fits (rs ks : List (Nat × Nat)) : Prop := ∀ x ∈ ks, ∃ r, rs.lookup x.1 = some r ∧ (x.2 + 1) * r ≤ 256
def spTaken : Sp := fun vs H Q _ => ∃ (a b : Addr) (rs ks : List (Nat × Nat)), vs = [.ref a, .ref b] ∧ H a = some (.dK (dN rs)) ∧ H b = some (.dK (dN ks)) ∧ a ≠ b ∧ (ks.map (·.1)).Nodup ∧ Fits rs ks ∧
  ∀ (H' : Hp) (p : Addr), Same H H' → H p = none → H' p = some (.lst ((takenOf rs ks).map V.bl)) → Q (.ref p) H'
theorem scTaken : FnScope ["rates", "ks", "taken", "user", "rate", "first", "tip"] ["rates", "ks"] (defScope sTaken) := ⟨rfl, rfl, rfl, by decide +kernel, rfl, by decide +kernel, by decide +kernel⟩
theorem set_map_bl (T : List Bool) (j : Nat) : (T.map V.bl).set j (V.bl true) = (T.set j true).map V.bl := by
  rw [List.map_set]
theorem ok_taken {f : Addr} {fd : FuncData} (F : Fun K "taken_tips" "taken_tips" sTaken f fd) (T : Txt K mg) : FnOk P w K mg base CX0 1 f fd ["rates", "ks"] spTaken := by
  refine F.ok scTaken (fun vs H Q E h => ?_) (fun cdv A outer s H vs Q E hr h => ?_)
  · obtain ⟨a, b, rs, ks, rfl, _⟩ := h
    rfl
  · obtain ⟨a, b, rs, ks, rfl, ha, hb, hab, hnd, hfit, k⟩ := h
    obtain ⟨tP, hP⟩ := T.tips
    have hu := hu_of hr
    have nd := scTaken.nd
    refine ⟨_, pss_cons (ps_set (i := 2) nd rfl (Or.inl rfl) (pe_op op_rep (pe_lst (pa_cons pe_bl pa_nil)) (pe_glob (v := .int 256) rfl hP ⟨tP, rfl⟩)))
      (pss_cons (ps_lock (ps_for PassesOwn.never rfl (pi_keys (pv 1)) (pg_name (i := 3) nd rfl (Or.inl rfl))
        (pss_cons (ps_set (i := 4) nd rfl (Or.inl rfl) (pe_dget hu (pv 0) (pv 3) (fun _ _ => rfl)))
          (pss_cons (ps_set (i := 5) nd rfl (Or.inl rfl) (pe_op op_mul (pe_dget hu (pv 1) (pv 3) (fun _ _ => rfl)) (pv 4)))
            (pss_one (ps_for PassesOwn.never rfl (pi_range2 rfl T.range (pa_cons (pv 5) (pa_cons (pe_op op_add (pv 5) (pv 4)) pa_nil))) (pg_name (i := 6) nd rfl (Or.inl rfl))
              (pss_one (ps_asg pe_bl (pg_sub (pv 2) (pv 6) set_list)))))))))
        (pss_one (ps_ret (pv 2)))), ?_⟩
    refine ⟨by show 1 ≤ sizeLine; decide, fun l hl => ?_⟩
    refine ⟨l, 256, [.bl false], rfl, rfl, upd_same, by decide, by decide, by show 1 * 256 ≤ sizeLine; decide, fun p hp => ?_⟩
    have hp0 : H p = none := by
      by_cases e : p = l
      · subst e; exact hl
      · rw [upd_ne e] at hp; exact hp
    have s1 : Same H (upd (upd H l (.lst [.bl false])) p (.lst (List.replicate (256 : Int).toNat [V.bl false]).flatten)) := fun c o e => by
      rw [upd_ne (ne_of_none e hp0), upd_ne (ne_of_none e hl)]; exact e
    have e0 : (List.replicate (256 : Int).toNat [V.bl false]).flatten = (takenOf rs (ks.take 0)).map V.bl := by
      rw [rep_flat]; rfl
    rw [e0] at s1
    rw [e0]
    generalize hH1 : upd (upd H l (.lst [.bl false])) p (.lst ((takenOf rs (ks.take 0)).map V.bl)) = H1 at s1
    have hp1 : H1 p = some (.lst ((takenOf rs (ks.take 0)).map V.bl)) := by rw [← hH1, upd_same]
    have npb : p ≠ b := (ne_of_none hb hp0).symm
    have npa : p ≠ a := (ne_of_none ha hp0).symm
    refine ⟨b, .dK (dN ks), s1 _ _ hb, trivial, fun od => ?_⟩
    refine ⟨_, rfl, b, od, rfl, .inl ⟨dN ks, upd_same, for_keys (d := b) (o := od) (kvs := dN ks) (fun i σ H' => ∃ (v3 v4 v5 v6 : Option V), σ = [some (.ref a), some (.ref b), some (.ref p), v3, v4, v5, v6] ∧ H' b = some (.frz od (.dK (dN ks))) ∧
      (∀ c o, H c = some o → c ≠ b → H' c = some o) ∧ H' p = some (.lst ((takenOf rs (ks.take i)).map V.bl))) ⟨none, none, none, none, rfl, upd_same, fun c o e hc => by rw [upd_ne hc]; exact s1 c o e, by rw [upd_ne npb]; exact hp1⟩ (fun i σ H' _ ⟨_, _, _, _, _, h, _⟩ => h) ?_ ?_⟩⟩
    · rintro i kk vv σ H' hi ⟨v3, v4, v5, v6, rfl, hb', sm, hp'⟩
      obtain ⟨u, kx, hk, rfl, rfl⟩ := dN_get hi
      have hm : (u, kx) ∈ ks := List.mem_of_getElem? hk
      obtain ⟨r, hr', hf⟩ := hfit _ hm
      dsimp only at hr' hf
      have hlk := lookup_of_get hnd hk
      have er : rateOf rs u = r := by unfold rateOf; rw [hr']; rfl
      have ga : valV (dN rs) (Sum.inl (u : Int)) = some (V.int (r : Int)) := by rw [valV_dN, hr']; rfl
      have gb : valV (dN ks) (Sum.inl (u : Int)) = some (V.int (kx : Int)) := by rw [valV_dN, hlk]; rfl
      refine ⟨_, rfl, _, rfl, a, _, rfl, .inl ⟨dN rs, Sum.inl (u : Int), .inl (sm _ _ ha hab), rfl, ga.symm⟩, ?_⟩
      refine ⟨_, rfl, _, rfl, b, _, rfl, .inl ⟨dN ks, Sum.inl (u : Int), .inr ⟨od, hb'⟩, rfl, gb.symm⟩, _, rfl, _, _, rfl, rfl, .inr ⟨by omega, ?_⟩, ?_⟩
      · have := Nat.le_trans (Nat.le_mul_of_pos_left r (Nat.succ_pos kx)) hf
        omega
      have hcast : ((kx : Int) * (r : Int)) = ((kx * r : Nat) : Int) := (Int.natCast_mul kx r).symm
      have hle : kx * r + r ≤ 256 := by rw [Nat.succ_mul] at hf; exact hf
      refine ⟨_, rfl, _, rfl, _, rfl, _, _, rfl, rfl, _, _, rfl, ⟨by omega, by omega, by omega, by omega⟩, ?_⟩
      have hn : ((kx : Int) * (r : Int) + (r : Int) - (kx : Int) * (r : Int)).toNat = r := by omega
      rw [hn]
      refine for_range (lo := (kx : Int) * (r : Int)) (n := r) (fun j σ H' => ∃ v6 : Option V, σ = [some (.ref a), some (.ref b), some (.ref p), some (kV (Sum.inl (u : Int))), some (.int (r : Int)), some (.int ((kx : Int) * (r : Int))), v6] ∧ H' b = some (.frz od (.dK (dN ks))) ∧
        (∀ c o, H c = some o → c ≠ b → H' c = some o) ∧ H' p = some (.lst ((paint (takenOf rs (ks.take i)) (kx * r) j).map V.bl))) ⟨v6, rfl, hb', sm, hp'⟩ ?_ ?_
      · rintro j σ H2 hj ⟨v6', rfl, hb2, sm2, hp2⟩
        refine ⟨_, rfl, _, rfl, p, _, _, kx * r + j, rfl, rfl, hp2, ?_, ?_⟩
        · unfold ixN
          rw [List.length_map, paint_length, takenOf_length, if_pos (by omega), if_pos (by omega)]
          congr 1
        · refine ⟨_, rfl, by rw [upd_ne npb.symm]; exact hb2, fun c o e hc => by rw [upd_ne (ne_of_none e hp0)]; exact sm2 c o e hc, ?_⟩
          rw [upd_same, set_map_bl]
          rfl
      · rintro σ H2 ⟨v6', rfl, hb2, sm2, hp2⟩
        refine ⟨_, _, _, _, rfl, hb2, sm2, ?_⟩
        rw [hp2, take_snoc hk]
        unfold takenOf
        rw [List.foldl_append, List.foldl_cons, List.foldl_nil]
        unfold takenBy
        dsimp only
        rw [er]
    · rintro σ H' ⟨v3, v4, v5, v6, rfl, hb', sm, hp'⟩
      refine ⟨hb', _, rfl, ?_⟩
      refine k _ p (fun c o e => ?_) hp0 ?_
      · by_cases hc : c = b
        · subst hc
          rw [upd_same, ← e]
          exact hb.symm
        · rw [upd_ne hc]
          exact sm c o e hc
      · rw [upd_ne npb, hp']
        rw [List.length_map, List.take_length]
end
end Cl
end
section
set_option Elab.async false
set_option linter.all false
set_option maxRecDepth 100000
set_option maxHeartbeats 2000000
namespace Cl
open PySem PySem.Spec PyProof.Rows L2 CM
theorem cut_bl {T : List Bool} {r k : Nat} (hT : T.length = 256) (hk : (k + 1) * r ≤ 256) : cutV (T.map V.bl) (some ((k * r : Nat) : Int)) (some (((k + 1) * r : Nat) : Int)) = ((T.drop (k * r)).take r).map V.bl := by
  unfold cutV
  rw [HT.sIx_nat, HT.sIx_nat, List.length_map, hT, ← List.map_drop, ← List.map_take]
  rw [Nat.succ_mul] at *
  have e1 : min (k * r) 256 = k * r := by omega
  have e2 : min (k * r + r) 256 = k * r + r := by omega
  rw [e1, e2, Nat.add_sub_cancel_left]
theorem inV_bl (L : List Bool) : inV (V.bl true) (L.map V.bl) = L.contains true := by
  unfold inV
  rw [List.any_map, List.contains_eq_any_beq]
  congr 1
  funext b
  show (b == true) = (true == b)
  cases b <;> rfl
theorem flat_bl (L : List Bool) : (L.map V.bl).all flatV = true := by
  rw [List.all_map, List.all_eq_true]
  intro b _
  rfl
section
variable {P : Program} {w : World} {K : PySem.W.Frag} {mg : Str → Option Value} {base : Heap}
def optV : Option Nat → V
  | none => .non
  | some k => .int (k : Int)
def spLeast : Sp := fun vs H Q _ => ∃ (a b : Addr) (rs ks : List (Nat × Nat)) (r : Nat), vs = [.ref a, .ref b, .int (r : Int)] ∧ H a = some (.dK (dN rs)) ∧ H b = some (.dK (dN ks)) ∧ a ≠ b ∧ (ks.map (·.1)).Nodup ∧ Fits rs ks ∧ 0 < r ∧ r ≤ 256 ∧
  ∀ H' : Hp, Same H H' → Q (optV (leastFree (takenOf rs ks) r)) H'
theorem scLeast : FnScope ["rates", "ks", "rate", "taken", "k"] ["rates", "ks", "rate"] (defScope sLeast) := ⟨rfl, rfl, rfl, by decide +kernel, rfl, by decide +kernel, by decide +kernel⟩
theorem find_snoc {p : Nat → Bool} {n : Nat} (h : (List.range n).find? p = none) (hn : p n = false) : (List.range (n + 1)).find? p = none := by
  rw [List.range_succ, List.find?_append, h, List.find?_cons, hn]
  rfl
theorem ok_least {f f2 : Addr} {fd fd2 : FuncData} (F : Fun K "least_free_k" "least_free_k" sLeast f fd) (T : Txt K mg) (G : FnOk P w K mg base CX0 1 f2 fd2 ["rates", "ks"] spTaken) (bG : Binds K fd2 ["rates", "ks"] []) (mG : mg "taken_tips" = some (.ref f2)) (kG : PySem.W.keepIn K (.ref f2) = true) :
    FnOk P w K mg base CX0 2 f fd ["rates", "ks", "rate"] spLeast := by
  refine F.ok scLeast (fun vs H Q E h => ?_) (fun cdv A outer s H vs Q E hr h => ?_)
  · obtain ⟨a, b, rs, ks, r, rfl, _⟩ := h
    rfl
  · obtain ⟨a, b, rs, ks, r, rfl, ha, hb, hab, hnd, hfit, hr0, hr1, k⟩ := h
    obtain ⟨tP, hP⟩ := T.tips
    have hu := hu_of hr
    have nd := scLeast.nd
    refine ⟨_, pss_cons (ps_set (i := 3) nd rfl (Or.inl rfl) (pe_call G hr rfl mG kG bG .nil pass0 (pa_cons (pv 0) (pa_cons (pv 1) pa_nil))))
      (pss_cons (ps_for PassesOwn.never rfl (pi_range1 rfl T.range (pa_cons (pe_op op_fdiv (pe_glob (v := .int 256) rfl hP ⟨tP, rfl⟩) (pv 2)) pa_nil)) (pg_name (i := 4) nd rfl (Or.inl rfl))
        (pss_one (ps_if (pt_cmpR op_notIn_seq pe_bl (pe_slice sl_list (pv 3) (po_some (pe_op op_mul (pv 4) (pv 2))) (po_some (pe_op op_mul (pe_op op_add (pv 4) pe_int) (pv 2)))) rfl) (pss_one (ps_ret (pv 4))) pss_nil)))
        (pss_one (ps_ret pe_non))), ?_⟩
    refine ⟨_, rfl, _, rfl, a, b, rs, ks, rfl, ha, hb, hab, hnd, hfit, fun H1 p s1 hp0 hp1 => ?_⟩
    have hTl := takenOf_length rs ks
    generalize hT : takenOf rs ks = TT at *
    have hdiv : (256 : Int) / (r : Int) = ((256 / r : Nat) : Int) := by
      rw [Int.natCast_ediv]
      rfl
    have hq : 256 / r ≤ 256 := Nat.div_le_self _ _
    have hb1 : -(2 ^ 62) ≤ ((256 / r : Nat) : Int) := Int.le_trans (by decide) (Int.natCast_nonneg _)
    have hb2 : ((256 / r : Nat) : Int) < 2 ^ 62 := Int.lt_of_le_of_lt (Int.ofNat_le.mpr hq) (by decide)
    refine ⟨_, rfl, _, _, rfl, rfl, ⟨by omega, by omega⟩, ((256 / r : Nat) : Int), congrArg (fun z => [V.int z]) hdiv, hb1, hb2, ?_⟩
    rw [Int.toNat_natCast]
    refine for_range (lo := 0) (n := 256 / r) (fun i σ H' => ∃ v : Option V, σ = [some (.ref a), some (.ref b), some (.int (r : Int)), some (.ref p), v] ∧ Same H H' ∧ H' p = some (.lst (TT.map V.bl)) ∧ (List.range i).find? (freeAt TT r) = none)
      ⟨none, rfl, s1, hp1, rfl⟩ ?_ ?_
    · rintro i σ H' hi ⟨v, rfl, s2, hp2, hf⟩
      have hk : (i + 1) * r ≤ 256 := (Nat.le_div_iff_mul_le hr0).mp hi
      have e1 : (0 + (i : Int)) * (r : Int) = ((i * r : Nat) : Int) := by rw [Int.zero_add, Int.natCast_mul]
      have e2 : (0 + (i : Int) + 1) * (r : Int) = (((i + 1) * r : Nat) : Int) := by rw [Int.zero_add, Int.natCast_mul]; rfl
      refine ⟨_, rfl, _, rfl, _, rfl, _, _, rfl, rfl, .inr ⟨by omega, by omega⟩, _, rfl, _, rfl, _, _, rfl, rfl, _, rfl, _, _, rfl, rfl, .inr ⟨by omega, by omega⟩, _, rfl, p, _, rfl, SqL.of hp2, fun q hq0 => ?_⟩
      rw [e1, e2, cut_bl hTl hk]
      refine ⟨q, _, rfl, .inl (SqL.of upd_same), rfl, flat_bl _, _, rfl, ?_⟩
      rw [if_pos rfl, inV_bl]
      have s3 : Same H' (upd H' q (.lst (((TT.drop (i * r)).take r).map V.bl))) := fun c o e => by rw [upd_ne (ne_of_none e hq0)]; exact e
      refine ite2 (fun hc => ?_) (fun hc => ?_)
      · refine ⟨_, rfl, ?_⟩
        have hl : leastFree TT r = some i := by
          unfold leastFree
          refine find_range hi hc fun j hj => ?_
          have := List.find?_eq_none.mp hf j (List.mem_range.mpr hj)
          simpa using this
        rw [Int.zero_add]
        have := k _ (s2.trans s3)
        rw [hl] at this
        exact this
      · refine ⟨_, rfl, s2.trans s3, s3 _ _ hp2, find_snoc hf ?_⟩
        have hc' : ¬ freeAt TT r i = true := hc
        simpa using hc'
    · rintro σ H' ⟨v, rfl, s2, hp2, hf⟩
      have hl : leastFree TT r = none := hf
      have := k _ s2
      rw [hl] at this
      exact this
end
end Cl
end
section
set_option Elab.async false
set_option linter.all false
set_option maxRecDepth 100000
set_option maxHeartbeats 4000000
namespace L2
open PySem PySem.Spec PyProof.Rows PySem.W
section
variable {prog : Program} {w : World} {A : Around} {E : Value → Shared → Prop} {s : Shared} {T : String} {r d : Addr} {n : Nat} {P : Nat → Value → Prop} {OK : Heap → Prop}
theorem collect_src {Q : List Value → Shared → Prop} (K : KdlSrc prog w T r d n P OK) (hh : A.handled = none) (hok : OK s.heap) (hn : n ≤ sizeLine)
    (hQ : ∀ h' tk (acc : Array Value), (∀ b o, s.heap.get? b = some o → h'.get? b = some o) → ItemsOf P acc n → s.heap.objs.size < h'.objs.size → Q acc.toList { s with heap := h', toks := tk }) :
    wpAny (model prog w) A (collect (.ref r)) Q E s := by
  unfold collect
  refine wpAny_bind (wpAny_runValue (codeAny_builtin entry_proto_collect' ?_))
  show wpAny _ _ (do again (.builtin "list.__iadd__" ⟨[← newList [], .ref r], []⟩)) _ _ s
  refine wpAny_bind (wpAny_newList (wpAny_pure ⟨Code.quiet_builtin _ (by decide +kernel), codeAny_builtin entry_list_iadd' ?_⟩))
  have hS : (s.heap.push (seqObj "list" #[] 0)).get? s.heap.objs.size = some (seqObj "list" #[] 0) := Heap.get?_push_size _ rfl
  have hlt := K.there _ hok
  refine wpAny_mono (kdl_extend (A := A) K hh (K.keep _ _ hok fun b _ o e => Heap.get?_push_of_some _ e) s.heap.objs.size (Nat.ne_of_gt hlt.1) (Nat.ne_of_gt hlt.2) (.ref s.heap.objs.size) 0 hS
    (R := fun r' s' => match r' with | .ok (.ret v) => wpAny (model prog w) A (match v with | .ref a => (do match (← load a).data with | .seq xs _ => pure xs.toList | _ => unsupported "internal:collect") | _ => unsupported "internal:collect") Q E s' | .ok _ => False | .error e => E e s')
    (fun h' tk acc' c' hk hS' hacc => ?_) hn) ?_ ?_
  · show wpAny (model prog w) A (load s.heap.objs.size >>= _) Q E _
    refine wpAny_bind (wpAny_load hS' ?_)
    exact wpAny_pure (hQ h' tk acc' (fun b o e => hk b o (Nat.ne_of_lt (Heap.lt_size e)) (Heap.get?_push_of_some _ e)) hacc (Heap.lt_size hS'))
  · intro fin s' h'
    exact h'
  · intro e s' h'
    exact h'
theorem sorted_src {ns : List Int} {Q : Value → Shared → Prop} (K : KdlSrc prog w T r d n P OK) (hh : A.handled = none) (hok : OK s.heap) (hn : n ≤ sizeLine) (hP : ∀ acc : Array Value, ItemsOf P acc n → IntsAre acc.toList ns)
    (h : ∀ h' tk D (out : List Value) (ns' : List Int) ep, (∀ b o, s.heap.get? b = some o → h'.get? b = some o) → s.heap.objs.size ≤ D → h'.get? D = some (seqObj "list" out.toArray ep) → IntsAre out ns' → ns'.Perm ns → ns'.Pairwise (· ≤ ·) → Q (.ref D) { s with heap := h', toks := tk }) :
    wpAny (model prog w) A (call (.builtin "sorted") [.ref r]) Q E s := by
  refine Calls.call_function_entry kind_sorted plain_sorted entry_sorted (args_sorted1 _) ?_
  unfold Builtin.«sorted»
  refine wpAny_bind (m := checkCount "sorted" 1 1 _) (wpAny_pure ?_)
  refine wpAny_bind (collect_src (A := A.in1) K hh hok hn fun h1 tk acc hk hacc hlt => ?_)
  have hi := hP acc hacc
  have hz : acc.toList.length ≤ sizeLine := by rw [Array.length_toList, hacc.1]; exact hn
  refine wpAny_bind (wpAny_newList ?_ hz)
  have hoL : (h1.push (seqObj "list" acc.toList.toArray 0)).get? h1.objs.size = some (seqObj "list" acc.toList.toArray 0) := Heap.get?_push_size _ rfl
  show wpAny _ _ _ _ _ { s with heap := h1.push (seqObj "list" acc.toList.toArray 0), toks := tk }
  refine wpAny_bind (wpAny_holding (wpAny_call_entry slot_list_sort ⟨_, hoL, rfl⟩ entry_list_sort (list_sort_treeAny hoL hi hz fun out ns' a1 a2 a3 => ⟨_, rfl, ?_⟩) (args_list_sort _)))
  obtain ⟨ep, he⟩ := sortedHeap_at (out := out) hoL
  refine wpAny_pure ⟨_, rfl, h _ _ _ out.toList ns' ep (fun b o e => ?_) (Nat.le_of_lt hlt) (by rw [Array.toArray_toList]; exact he) a1 a2 a3⟩
  have hb := Heap.lt_size (hk b o e)
  rw [sortedHeap_old (Nat.ne_of_lt hb) (by rw [size_push']; exact Nat.lt_succ_of_lt hb)]
  exact Heap.get?_push_of_some _ (hk b o e)
end
theorem dN_keys (m : List (Nat × Nat)) : (dN m).map (·.1) = m.map fun p => (Sum.inl (p.1 : Int) : Key) := by
  rw [List.map_map]
  rfl
theorem ints_of_items {P : Program} {w : World} {m : List (Nat × Nat)} {vs : List (Key × Value)} (kv : KV (dN m) vs) {acc : Array Value} (h : ItemsOf (fun i v => ∃ k x, vs[i]? = some (k, x) ∧ (mixKind P w).is k v = true) acc vs.length) :
    IntsAre acc.toList (m.map fun p => (p.1 : Int)) := by
  refine Vals.ints ?_
  have hl : (dN m).length = vs.length := kv.length
  have hlen : ((m.map fun p => (p.1 : Int)).map V.int).length = acc.toList.length := by
    have e2 : acc.toList.length = vs.length := by rw [Array.length_toList]; exact h.1
    rw [List.length_map, List.length_map, e2, ← hl, List.length_map]
  have key : ∀ (xs : List V) (us : List Value), xs.length = us.length → (∀ (j : Nat) (x : V) (u : Value), xs[j]? = some x → us[j]? = some u → RelV x u) → Vals xs us := by
    intro xs
    induction xs with
    | nil => intro us hl _; cases us with
      | nil => exact .nil
      | cons _ _ => simp at hl
    | cons x xs ih =>
      intro us hl hr
      cases us with
      | nil => simp at hl
      | cons u us => exact .cons (hr 0 x u rfl rfl) (ih us (by simpa using hl) fun j y v h1 h2 => hr (j + 1) y v (by simpa using h1) (by simpa using h2))
  refine key _ _ hlen fun j x u hx hu => ?_
  obtain ⟨k, y, hk, hi⟩ := h.2 j u (by rw [← Array.getElem?_toList]; exact hu)
  have hks : (dN m).map (·.1) = vs.map (·.1) := kv.keys
  have e1 : (vs.map (·.1))[j]? = some k := by rw [List.getElem?_map, hk]; rfl
  rw [← hks, dN_keys, List.getElem?_map] at e1
  rw [List.map_map, List.getElem?_map] at hx
  cases e : m[j]? with
  | none => rw [e] at hx; cases hx
  | some p =>
    rw [e] at hx e1
    have hx' : V.int (p.1 : Int) = x := Option.some.inj hx
    have e1' : (Sum.inl (p.1 : Int) : Key) = k := Option.some.inj e1
    subst hx' e1'
    exact relV_key (k := Sum.inl (p.1 : Int)) (show keyIs (Sum.inl (p.1 : Int)) u = true from hi)
section
variable {X : Cx}
def rSortedD : List V → Hp → VK → Prop := fun vs H Q => ∃ (a : Addr) (m : List (Nat × Nat)), vs = [V.ref a] ∧ H a = some (.dK (dN m)) ∧
  ∀ (ns' : List Int) (p : Addr), ns'.Perm (m.map fun p => (p.1 : Int)) → ns'.Pairwise (· ≤ ·) → H p = none → Q (.ref p) (upd H p (.lst (ns'.map V.int)))
theorem cr_sortedD (hc : X.calm = true) : CallR X (.builtin "sorted") rSortedD := by
  intro pins s σ H vs us Q I r h
  obtain ⟨a, m, rfl, hs, q⟩ := h
  rw [Vals.ref1 r]
  obtain ⟨hz, hsm, ws, kv, hd⟩ := dk_of I.hok hs
  obtain ⟨ep, hat⟩ := hd.dictAt
  have hl : (dN m).length = ws.length := kv.length
  refine sorted_src (kdl_dict (knd := mixKind X.prog X.w) (kvs := ws) (ep := ep) hsm) (I.ok.hd hc) hat (by rw [← hl]; exact hz) (fun acc hacc => ints_of_items kv hacc) fun h' tk D out ns' ep hk hD ho hi hp hs' => ?_
  have hlen : (ns'.map V.int).length ≤ sizeLine := by rw [List.length_map, hp.length_eq, List.length_map]; rw [List.length_map] at hz; exact hz
  exact ⟨.ref _, upd H D (.lst (ns'.map V.int)), I.laid (t' := tk) hk hD ⟨hlen, out, ep, vals_of_ints hi, ho⟩, rfl, q ns' _ hp hs' (I.hok.fresh hD)⟩
end
end L2
end
section
set_option Elab.async false
set_option linter.all false
set_option maxRecDepth 100000
set_option maxHeartbeats 4000000
namespace L2
open PySem PySem.Spec PyProof.Rows PySem.W
section
variable {prog : Program} {w : World} {A : Around} {E : Value → Shared → Prop} {s : Shared} {T : String} {r d : Addr} {n : Nat} {P : Nat → Value → Prop} {OK : Heap → Prop}
theorem sum_src {Q : Value → Shared → Prop} (K : KdlSrc prog w T r d n P OK) (hh : A.handled = none) (hok : OK s.heap) (val : Nat → Int) (hval : ∀ (i : Nat) (v : Value), P i v → ∃ t : Tok, v = Value.int (val i) t)
    (h : ∀ (h' : Heap) (tk : Nat) (t' : Tok), (∀ b o, s.heap.get? b = some o → h'.get? b = some o) → Q (.int (preSum val n) t') { s with heap := h', toks := tk }) :
    wpAny (model prog w) A (call (.builtin "sum") [.ref r]) Q E s := by
  refine call_sum_walkAnyS ?_
  obtain ⟨oI, St, hit, W, st⟩ := K.iter A.in1 s hh hok
  refine hit _ _ ⟨s.heap.objs.size, _, _, _, n, P, _, val, rfl, W.toS, st, fun b hb => ?_, hval, fun s' t' hm => ?_⟩
  · show b < (s.heap.push oI).objs.size
    rw [size_push']
    rcases List.mem_cons.mp hb with e | hb
    · rw [e]; exact Nat.lt_succ_self _
    · rw [List.mem_singleton.mp hb]; exact Nat.lt_succ_of_lt (K.there _ hok).2
  · have hk : ∀ b o, s.heap.get? b = some o → s'.heap.get? b = some o := fun b o e =>
      hm.heap b o (fun hI => absurd (Heap.lt_size e) (by rw [List.mem_singleton.mp hI]; exact Nat.lt_irrefl _)) (Heap.get?_push_of_some _ e)
    rw [Moved.eq_with hm]
    exact h s'.heap s'.toks t' hk
end
def ViewV (v d : Addr) : HO := .ext fun h => h.IsValuesView v d
theorem sum_vals : ∀ m : List (Nat × Nat), preSum (fun i => (((m.map (·.2))[i]?).map fun n : Nat => (n : Int)).getD 0) m.length = (((m.map (·.2)).sum : Nat) : Int)
  | [] => rfl
  | p :: m => by
    show preSum _ (m.length + 1) = _
    rw [kdu_shift, List.map_cons, List.sum_cons]
    have := sum_vals m
    rw [Int.natCast_add, ← this]
    rfl
section
variable {X : Cx} {e : Expr} {td : TE} {apos cpos : Pos}
def tDVals (td : TE) : TE := fun σ H Q => td σ H fun x H1 => ∃ d kvs, x = .ref d ∧ H1 d = some (.dK kvs) ∧ ∀ v, H1 v = none → Q (.ref v) (upd H1 v (ViewV v d))
theorem pe_dvals (he : PE X e td) (hbase : attributeBase e "values" X.env (eval e X.env) = eval e X.env := by rfl) (hline : (apos.endLine == cpos.line) = true := by rfl) : PE X (.Call (.Attribute e "values" apos) [] [] cpos) (tDVals td) := by
  intro pins s σ H R I h
  refine wpAny_Call_method (T := "dict") (id := "dict.values") hbase rfl hline F.plainAttrs_dict F.slot_dict_values F.type_dict_values (thn (he pins s σ H _ I h) fun u s1 ⟨x, H1, I1, rx, d, kvs, ex, hd, q⟩ => ?_)
  subst ex
  obtain rfl : u = Value.ref d := rx
  obtain ⟨hz, hsm, ws, kv, hm⟩ := dk_of I1.hok hd
  refine ⟨hm.typeIs, hm.mapOf.noDict, ?_⟩
  have fin : EP X pins σ R (.ref s1.heap.objs.size) { s1 with heap := s1.heap.push { cls := .type "dict_values", data := .fields #[.ref d] } } := by
    have hv : (s1.heap.push { cls := .type "dict_values", data := .fields #[.ref d] }).IsValuesView s1.heap.objs.size d := ⟨_, Heap.get?_push_size _ rfl, rfl, rfl⟩
    refine ⟨.ref _, upd H1 s1.heap.objs.size (ViewV s1.heap.objs.size d), I1.laid (t' := s1.toks) (fun _ _ q => Heap.get?_push_of_some _ q) (Nat.le_refl _) ⟨hv, ⟨_, Heap.get?_push_size _ rfl⟩, fun h1 h2 a b => ?_⟩, rfl, q _ (I1.hok.fresh (Nat.le_refl _))⟩
    obtain ⟨o, ho, r⟩ := a
    exact ⟨o, b o ho, r⟩
  show wpAny _ _ (callWith cpos (.builtin "dict.values") [.ref d] [] []) _ X.xe s1
  exact method_meetsIn F.slot_dict_values F.entry_dict_values rfl (PySem.evalArgs_none ⟨rfl, hm.typeIs, F.args_dict_values_1 _, _, meets_dict_values (mixKind X.prog X.w) d hsm, ⟨ws, hm⟩, fin⟩)
def rSumV : List V → Hp → VK → Prop := fun vs H Q => ∃ (v d : Addr) (m : List (Nat × Nat)), vs = [V.ref v] ∧ H v = some (ViewV v d) ∧ H d = some (.dK (dN m)) ∧ Q (.int (((m.map (·.2)).sum : Nat) : Int)) H
theorem cr_sumV (hc : X.calm = true) : CallR X (.builtin "sum") rSumV := by
  intro pins s σ H vs us Q I r h
  obtain ⟨v, d, m, rfl, hv, hd, q⟩ := h
  rw [Vals.ref1 r]
  obtain ⟨hz, hsm, ws, kv, hm⟩ := dk_of I.hok hd
  obtain ⟨ep, hat⟩ := hm.dictAt
  have hl : (dN m).length = ws.length := kv.length
  have hview : s.heap.IsValuesView v d := (I.hok v _ hv).1
  refine sum_src (kdl_values (knd := mixKind X.prog X.w) (kvs := ws) (ep := ep)) (I.ok.hd hc) ⟨hview, hat⟩ (fun i => (((m.map (·.2))[i]?).map fun n : Nat => (n : Int)).getD 0) (fun i x hx => ?_) fun h' tk t' hk => ?_
  · obtain ⟨k, hk⟩ := hx
    have hlt : i < (dN m).length := by rw [hl]; exact (List.getElem?_eq_some_iff.mp hk).1
    have e1 : (dN m)[i]? = some (dN m)[i] := List.getElem?_eq_getElem hlt
    obtain ⟨a, b, ha, ek, ev⟩ := dN_get (k := ((dN m)[i]).1) (v := ((dN m)[i]).2) e1
    obtain ⟨u, hu, ru⟩ := kv_get kv (i := i) (k := ((dN m)[i]).1) (v := ((dN m)[i]).2) e1
    rw [hk] at hu
    have hx2 : x = u := congrArg Prod.snd (Option.some.inj hu)
    subst hx2
    rw [ev] at ru
    obtain ⟨t, rfl⟩ : ∃ t, x = Value.int (b : Int) t := ru
    refine ⟨t, ?_⟩
    rw [List.getElem?_map, ha]
    rfl
  · have hn : ws.length = m.length := by rw [← hl, List.length_map]
    rw [hn, sum_vals]
    exact ⟨.int _, H, I.kept (t' := tk) hk, ⟨t', rfl⟩, q⟩
end
end L2
end
section
set_option Elab.async false
set_option linter.all false
set_option maxRecDepth 100000
set_option maxHeartbeats 4000000
namespace L2
open PySem PySem.Spec PyProof.Rows
section
variable {X : Cx} {pins : List (Addr × Obj)} {σ : List (Option V)} {H H' : Hp} {s : Shared} {h' : Heap}
end
def lamCx (P : Program) (w : World) (K : PySem.W.Frag) (mg : Str → Option Value) (base : Heap) (N : List Str) (qual : Str) (scope : Scope) (f : Addr) (cd : Value) (cl : List (Str × Addr)) (A : Around) (outer : List Env) (s : Shared) (H : Hp) : Cx where
  prog := P
  w := w
  K := K
  mg := mg
  base := base
  A := A.deeper (PySem.W.envX qual scope s.heap.objs.size f cd cl)
  N := N
  s_0 := s
  H_0 := H
  env := PySem.W.envX qual scope s.heap.objs.size f cd cl
  outer := outer
  stack := PySem.W.envX qual scope s.heap.objs.size f cd cl :: outer
  ex := []
  calm := true
  fn := fun _ => false
  pn := []
  xe := fun _ _ => False
structure LamScope (N ps : List Str) (scope : Scope) (cl : List (Str × Addr)) : Prop where
  kind : scope.kind = .function
  co : scope.isCoroutine = false
  gen : scope.isGenerator = false
  nd : N.Nodup
  pre : N.take ps.length = ps
  par : ∀ x ∈ ps, scope.names.lookup x = some .local
  nocell : ∀ y ∈ scope.names, y.2 ≠ .cell
  inj : ∀ x y c, cl.lookup x = some c → cl.lookup y = some c → x = y
  has : ∀ x, scope.names.lookup x = some .free → ∃ c, cl.lookup x = some c
theorem zip_fst_sub : ∀ (ps : List Str) (us : List Value), ((ps.zip us).map (·.1)).Sublist ps
  | [], _ => by simp
  | p :: ps, [] => by simp
  | p :: ps, u :: us => by
    rw [List.zip_cons_cons, List.map_cons]
    exact (zip_fst_sub ps us).cons₂ p
theorem lookup_zip {ps : List Str} : ∀ {us : List Value} {i : Nat} {x : Str} {u : Value}, ps.Nodup → ps[i]? = some x → us[i]? = some u → (ps.zip us).reverse.lookup x = some u := by
  intro us i x u nd h1 h2
  have key : ∀ (l : List (Str × Value)), (l.map (·.1)).Nodup → (x, u) ∈ l → l.lookup x = some u := by
    intro l
    induction l with
    | nil => intro _ h; simp at h
    | cons p l ih =>
      intro hn hm
      obtain ⟨a, b⟩ := p
      have hn' : a ∉ l.map (·.1) ∧ (l.map (·.1)).Nodup := List.nodup_cons.mp hn
      rw [List.lookup_cons]
      rcases List.mem_cons.mp hm with e | hm
      · cases e
        rw [beq_self_eq_true]
      · have ne : ¬ x = a := fun e => hn'.1 (List.mem_map.mpr ⟨(x, u), hm, e⟩)
        rw [beq_eq_false_iff_ne.mpr ne]
        exact ih hn'.2 hm
  refine key _ ?_ ?_
  · rw [List.map_reverse]
    refine (List.reverse_perm _).nodup_iff.mpr ?_
    exact nd.sublist (zip_fst_sub _ _)
  · rw [List.mem_reverse]
    rw [List.mem_iff_getElem?]
    exact ⟨i, List.getElem?_zip_eq_some (z := (x, u)) |>.mpr ⟨h1, h2⟩⟩
theorem inv_lam {P : Program} {w : World} {K : PySem.W.Frag} {mg : Str → Option Value} {base : Heap} {N ps : List Str} {qual : Str} {scope : Scope} {f : Addr} {cd : Value} {cl : List (Str × Addr)} {A : Around} {outer : List Env} {s : Shared} {H : Hp} {us : List Value} {vs : List V} {σ : St} {h1 : Heap} {tk : Nat}
    (S : LamScope N ps scope cl) (hd : A.handled = none) (e0 : Env0 P w K mg base A outer s H) (hl : vs.length = ps.length) (r : Vals vs us)
    (hcell : ∀ x c, cl.lookup x = some c → ∃ v, s.heap.IsCell c v) (hfree : ∀ x c, cl.lookup x = some c → H c = none)
    (hns : h1.Ns s.heap.objs.size (fun y => (ps.zip us).reverse.lookup y)) (hk : ∀ b o, s.heap.get? b = some o → h1.get? b = some o) (hlen : σ.length = N.length)
    (hσ : ∀ (i : Nat) (x : Str) (v : V), N[i]? = some x → σ[i]? = some (some v) → (i < ps.length ∧ vs[i]? = some v) ∨ (scope.names.lookup x = some .free ∧ ∃ c u, cl.lookup x = some c ∧ s.heap.IsCell c (some u) ∧ RelV v u)) :
    Inv (lamCx P w K mg base N qual scope f cd cl A outer s H) [] σ H { s with heap := h1, toks := tk } := by
  have noA : ∀ b : Addr, b ∉ (lamCx P w K mg base N qual scope f cd cl A outer s H).ex := fun b z => absurd (show b ∈ ([] : List Addr) from z) (by simp)
  have cellK : ∀ c v, s.heap.IsCell c v → h1.IsCell c v := fun c v ⟨o, ho, q⟩ => ⟨o, hk _ _ ho, q⟩
  refine ⟨⟨e0.mod, S.kind, rfl, rfl, Nat.le_refl _, S.inj, fun y hy => ?_, fun y c q _ => (nomatch q), fun _ => hd, Around.frames_deeper e0.frames, .inr ⟨rfl, rfl⟩, fun b z => absurd z (noA b), e0.bs, e0.bsz, fun b _ _ => noA b, fun b z => absurd z (noA b), e0.funs, e0.frf⟩,
    rfl, e0.bare, Un.kept hk, ⟨_, hns, fun i y v h1 h2 h3 => ?_⟩, fun y c h => ?_, e0.hok.fresh (Nat.le_refl _), fun y c h => hfree y c h, fun p hp => absurd (show p ∈ ([] : List (Addr × Obj)) from hp) (by simp), e0.hok.kept hk, hlen⟩
  · have hy : scope.names.lookup y = some .cell ∨ scope.names.lookup y = some .free := hy
    rcases hy with hy | hy
    · exact absurd rfl (S.nocell _ (PySem.mem_of_lookup hy))
    · exact S.has y hy
  · rcases hσ i y v h1 h2 with ⟨hi, hv⟩ | ⟨hf, c, u, hc, hu, rv⟩
    · obtain ⟨u, hu, rv⟩ := r.get hv
      have hp : ps[i]? = some y := by rw [← S.pre, List.getElem?_take_of_lt hi]; exact h1
      have ndP : ps.Nodup := by rw [← S.pre]; exact S.nd.sublist (List.take_sublist _ _)
      exact ⟨u, rv, .inl ⟨S.par y (List.mem_of_getElem? hp), lookup_zip ndP hp hu⟩⟩
    · exact ⟨u, rv, .inr ⟨.inr hf, c, hc, cellK _ _ hu⟩⟩
  · obtain ⟨v, hv⟩ := hcell y c h
    exact ⟨v, cellK _ _ hv⟩
theorem lam_run {P : Program} {w : World} {K : PySem.W.Frag} {mg : Str → Option Value} {base : Heap} {N ps : List Str} {qual nm : Str} {params : Arguments} {body : Expr} {scope : Scope} {f : Addr} {cdv ctv pm : Value} {cl : List (Str × Addr)} {A : Around} {outer : List Env} {s : Shared} {H : Hp} {us : List Value} {vs : List V} {σ : St} {Q : VK} {E : XK} {k : Nat} {o : Obj} {t : TE}
    (S : LamScope N ps scope cl) (hr : Room (k + 1) A) (e0 : Env0 P w K mg base A outer s H) (hl : vs.length = ps.length) (r : Vals vs us)
    (ho : s.heap.get? f = some o) (hdo : o.data = .func (PySem.W.kla_fn nm qual params body scope cl pm cdv ctv)) (hcd : s.heap.CodeRec cdv qual)
    (hb : bindArgs (PySem.W.kla_fn nm qual params body scope cl pm cdv ctv) ⟨us, []⟩ = pure (ps.zip us))
    (hcell : ∀ x c, cl.lookup x = some c → ∃ v, s.heap.IsCell c v) (hfree : ∀ x c, cl.lookup x = some c → H c = none) (hlen : σ.length = N.length)
    (hσ : ∀ (i : Nat) (x : Str) (v : V), N[i]? = some x → σ[i]? = some (some v) → (i < ps.length ∧ vs[i]? = some v) ∨ (scope.names.lookup x = some .free ∧ ∃ c u, cl.lookup x = some c ∧ s.heap.IsCell c (some u) ∧ RelV v u))
    (ht : PE (lamCx P w K mg base N qual scope f cdv cl A outer s H) body t) (hq : t σ H Q) :
    codeAny (model P w) A (.call (.ref f) ⟨us, []⟩) (CR CX0 outer P w H s Q E) s := by
  have lim : s.heap.NoLimit := e0.mod.nolimit.keeps fun b o e => (e0.bs b o e).1
  have hlu : ps.length = us.length := hl.symm.trans r.length
  refine PySem.W.kla_callFunE hr.depth ho hdo S.co S.gen rfl hcd ?_
  rw [hb]
  refine wpAny_pure (wpAny_newFunctionEnv S.nocell (fun x hx => S.par _ (List.of_mem_zip hx).1) (fun h1 hns hsb => ?_) S.kind)
  have hk : ∀ b o, s.heap.get? b = some o → h1.get? b = some o := fun b o e => by
    rw [hsb.2 b (Nat.ne_of_lt (Heap.lt_size e))]
    exact Heap.get?_push_of_some _ e
  refine ⟨lim.keeps hk, PySem.W.kla_codeExpr ?_⟩
  have I : Inv (lamCx P w K mg base N qual scope f cdv cl A outer s H) [] σ H { s with heap := h1, toks := s.toks + (ps.zip us).length } := inv_lam S hr.hd e0 hl r hcell hfree hns hk hlen hσ
  refine wpAny_mono (ht [] _ σ H Q I hq) (fun u s' hs => ?_) fun e s' hs => False.elim hs
  obtain ⟨v, H', J, rv, q⟩ := hs
  exact ⟨v, H', J.os, J.bare, J.base, J.hok, rv, q⟩
end L2
end
section
set_option Elab.async false
set_option linter.all false
set_option maxRecDepth 100000
set_option maxHeartbeats 4000000
namespace L2
open PySem PySem.Spec PyProof.Rows
def CodeExt (c : Addr) (qual : Str) : HO := .ext fun h => h.CodeRec (.ref c) qual
def FunExt (f : Addr) (o : Obj) : HO := .ext fun h => h.get? f = some o
theorem codeExt_ok {P : Program} {w : World} {H : Hp} {h : Heap} {c : Addr} {qual : Str} (x : h.CodeRec (.ref c) qual) : ObjOk P w H h c (CodeExt c qual) := by
  refine ⟨x, ?_, fun h1 h2 a b => ?_⟩
  · obtain ⟨c2, oc, vs, tq, e, ho, _⟩ := x
    cases e
    exact ⟨oc, ho⟩
  · obtain ⟨c2, oc, vs, tq, e, ho, r⟩ := a
    cases e
    exact ⟨c, oc, vs, tq, rfl, b oc ho, r⟩
theorem funExt_ok {P : Program} {w : World} {H : Hp} {h : Heap} {f : Addr} {o : Obj} (x : h.get? f = some o) : ObjOk P w H h f (FunExt f o) := ⟨x, ⟨o, x⟩, fun h1 h2 a b => b o a⟩
structure LamOk (P : Addr) (pos : Pos) (qual : Str) (H : Hp) : Prop where
  ex : ∃ ps, H P = some (.tbl ps) ∧ TriplesOk ps.toList ∧ (codeAmong pos ps.toList = none ∨ ∃ c', codeAmong pos ps.toList = some (.ref c') ∧ H c' = some (CodeExt c' qual))
theorem LamOk.mono {P : Addr} {pos : Pos} {qual : Str} {H H' : Hp} (h : LamOk P pos qual H) (k : ∀ b o, H b = some o → H' b = some o) : LamOk P pos qual H' := by
  obtain ⟨ps, h1, h2, h3⟩ := h.ex
  refine ⟨ps, k _ _ h1, h2, ?_⟩
  rcases h3 with h3 | ⟨c', h3, h4⟩
  · exact .inl h3
  · exact .inr ⟨c', h3, k _ _ h4⟩
theorem Inv.grownLaid {X : Cx} {pins : List (Addr × Obj)} {σ : List (Option V)} {H : Hp} {s : Shared} {h' : Heap} {t' : Nat} {P a : Addr} {o : HO} {ps more : Array Value} (I : Inv X pins σ H s) (hP : H P = some (.tbl ps)) (k : ∀ b o, b ≠ P → s.heap.get? b = some o → h'.get? b = some o)
    (hP' : h'.get? P = some { cls := .none, data := .fields (ps ++ more) }) (ha : s.heap.objs.size ≤ a) (new : ∀ H2, ObjOk X.prog X.w H2 h' a o) : Inv X pins σ (upd (upd H P (.tbl (ps ++ more))) a o) { s with heap := h', toks := t' } := by
  have hPlt : P < s.heap.objs.size := I.hok.lt hP
  have haP : P ≠ a := Nat.ne_of_lt (Nat.lt_of_lt_of_le hPlt ha)
  have ha0 : H a = none := I.hok.fresh ha
  have ne : ∀ b, H b = none → b ≠ P := fun b n z => by rw [z, hP] at n; cases n
  have neo : ∀ b u, H b = some u → (∀ q, u ≠ .tbl q) → b ≠ P := fun b u e hu z => by rw [z, hP] at e; exact hu ps (Option.some.inj e).symm
  have nea : ∀ b o, s.heap.get? b = some o → b ≠ a := fun b o e => Nat.ne_of_lt (Nat.lt_of_lt_of_le (Heap.lt_size e) ha)
  have st : ∀ b u, H b = some u → (∀ q, u ≠ .tbl q) → (upd (upd H P (.tbl (ps ++ more))) a o) b = some u := fun b u e hu => by
    rw [upd_ne (ne_of_none e ha0), upd_ne (neo b u e hu)]; exact e
  refine I.un ⟨fun b o e n _ _ => k b o (ne b n) e, fun b o e n _ _ => ⟨o.slots, k b o (ne b n) e⟩, fun b o e n _ => by rw [upd_ne (nea b o e), upd_ne (ne b n)]; exact n, fun b o e _ => ?_,
    fun b xs e => st b _ e (fun _ z => nomatch z), fun b o u e => st b _ e (fun _ z => nomatch z), fun b q e => ?_⟩ fun b u e => ?_
  · by_cases hb : b = P
    · subst hb; exact ⟨_, hP'⟩
    · exact ⟨o, k b o hb e⟩
  · by_cases hb : b = P
    · subst hb
      rw [hP] at e
      injection Option.some.inj e with e1
      subst e1
      exact ⟨more, by rw [upd_ne haP, upd_same]⟩
    · exact ⟨#[], by rw [upd_ne (ne_of_none e ha0), upd_ne hb, e]; simp⟩
  · by_cases hba : b = a
    · subst hba
      rw [upd_same] at e
      cases e
      exact new _
    · rw [upd_ne hba] at e
      by_cases hb : b = P
      · subst hb
        rw [upd_same] at e
        cases e
        exact hP'
      · rw [upd_ne hb] at e
        refine (I.hok b u e).stay (fun c v hc q => k c v ?_ q) (fun c q => st c _ q fun _ z => nomatch z) fun c xs q => st c _ q fun _ z => nomatch z
        rcases hc with z | z
        · rw [z]; exact hb
        · exact neo c _ z fun _ z => nomatch z
def tLam (P : Addr) (pos : Pos) (qual : Str) (params : Arguments) (body : Expr) (scope : Scope) (clos : List (Str × Addr)) (pm : Value) : TE := fun σ H Q => LamOk P pos qual H ∧
  ∀ (f c' : Addr) (ctv : Value) (H' : Hp), (∀ b o, H b = some o → b ≠ P → H' b = some o) → LamOk P pos qual H' → H f = none → H' f = some (FunExt f (PySem.W.kla_obj "<lambda>" qual params body scope clos pm c' ctv)) → H' c' = some (CodeExt c' qual) → Q (.ref f) H'
theorem pe_lam {X : Cx} {c P : Addr} {params : Arguments} {body : Expr} {scope : Scope} {pos : Pos} {clos : List (Str × Addr)} (hcode : X.env.code = .ref c) (hC : ∀ h, X.K.In h → PySem.W.CodeHd h c P) (hB : X.base.BuiltinsAt X.mg P)
    (hcl : closureFor scope X.env = pure clos) (hdf : defaultsOf params X.env = ([], [])) :
    PE X (.Lambda params body scope pos) (tLam P pos (X.env.qual ++ "<lambda>") params body scope clos ((X.mg "__name__").getD .none)) := by
  intro pins s σ H Q I h
  obtain ⟨⟨ps, hP, ht, hor⟩, q⟩ := h
  have hPh : s.heap.get? P = some (PySem.W.tabObj ps) := I.hok P _ hP
  have hg : s.heap.Ns mainGlobals X.mg := by
    obtain ⟨o, es, ep, e, r⟩ := I.mod.glob
    exact ⟨o, es, ep, I.bk _ _ e, r⟩
  have hgP : mainGlobals ≠ P := fun z => by
    obtain ⟨o, es, ep, e, r⟩ := I.mod.glob
    have := (I.bs _ _ e).2
    rw [z, hP] at this
    cases this
  have hB' : s.heap.BuiltinsAt X.mg P := by
    obtain ⟨bm, o, a, b, c, d, e, r⟩ := hB
    exact ⟨bm, o, a, b, c, d, I.bk _ _ e, r⟩
  have hge : X.env.globals = mainGlobals := I.ok.glob
  show wpAny (model X.prog X.w) X.A (do
    let (d, kd) := defaultsOf params X.env
    let dv ← evalAll d
    let kdv ← holding dv (evalAllOpt kd)
    makeFunction "<lambda>" (X.env.qual ++ "<lambda>") params (.expr body) scope X.env dv kdv [] pos pos.line) _ _ s
  rw [hdf]
  dsimp only
  refine wpAny_bind (wpAny_pure (wpAny_bind (wpAny_holding (wpAny_pure ?_))))
  rcases hor with hn | ⟨c', hf, hc'⟩
  · refine PySem.W.kla_makeFunction hcl hge hg hcode (hC _ I.kIn) hPh ht hn hgP hB' fun c' ctv h' tk hx hgec hlt hrec htab => ?_
    have hPlt : P < s.heap.objs.size := I.hok.lt hP
    have hc0 : H c' = none := I.hok.fresh hgec
    have hcP : c' ≠ P := fun z => Nat.lt_irrefl _ (Nat.lt_of_lt_of_le (z ▸ hPlt) hgec)
    have I2 := I.grownLaid (t' := tk) (a := c') (o := CodeExt c' (X.env.qual ++ "<lambda>")) hP (fun b o hb e => hx b o hb e) htab hgec fun H2 => codeExt_ok hrec
    have I3 := I2.laid (a := h'.objs.size) (o := FunExt h'.objs.size (PySem.W.kla_obj "<lambda>" (X.env.qual ++ "<lambda>") params body scope clos ((X.mg "__name__").getD .none) c' ctv)) (t' := tk) (fun b u e => Heap.get?_push_of_some (PySem.W.kla_obj "<lambda>" (X.env.qual ++ "<lambda>") params body scope clos ((X.mg "__name__").getD .none) c' ctv) e) (Nat.le_refl _) (funExt_ok (Heap.get?_push_size _ rfl))
    have hfP : h'.objs.size ≠ P := Nat.ne_of_gt (Nat.lt_of_lt_of_le hPlt (Nat.le_of_lt (Nat.lt_of_le_of_lt hgec hlt)))
    have hfc : c' ≠ h'.objs.size := Nat.ne_of_lt hlt
    have hf0 : H h'.objs.size = none := I.hok.fresh (Nat.le_of_lt (Nat.lt_of_le_of_lt hgec hlt))
    generalize hH3 : upd (upd (upd H P (.tbl (ps ++ #[rawInt pos.line, rawInt pos.col, .ref c']))) c' (CodeExt c' (X.env.qual ++ "<lambda>"))) h'.objs.size (FunExt h'.objs.size (PySem.W.kla_obj "<lambda>" (X.env.qual ++ "<lambda>") params body scope clos ((X.mg "__name__").getD .none) c' ctv)) = H3 at I3
    have g1 : H3 P = some (.tbl (ps ++ #[rawInt pos.line, rawInt pos.col, .ref c'])) := by rw [← hH3, upd_ne hfP.symm, upd_ne hcP.symm, upd_same]
    have g2 : H3 c' = some (CodeExt c' (X.env.qual ++ "<lambda>")) := by rw [← hH3, upd_ne hfc, upd_same]
    have g3 : H3 h'.objs.size = some (FunExt h'.objs.size (PySem.W.kla_obj "<lambda>" (X.env.qual ++ "<lambda>") params body scope clos ((X.mg "__name__").getD .none) c' ctv)) := by rw [← hH3, upd_same]
    have g4 : ∀ b o, H b = some o → b ≠ P → H3 b = some o := fun b o e hb => by
      rw [← hH3, upd_ne (ne_of_none e hf0), upd_ne (ne_of_none e hc0), upd_ne hb]
      exact e
    have g5 : TriplesOk (ps ++ #[rawInt pos.line, rawInt pos.col, Value.ref c']).toList := by
      rw [Array.toList_append]
      exact TriplesOk_snoc _ _ _ _ ht
    have g6 : codeAmong pos (ps ++ #[rawInt pos.line, rawInt pos.col, Value.ref c']).toList = some (.ref c') := by
      rw [Array.toList_append]
      exact codeAmong_snoc _ ht hn
    exact ⟨.ref _, H3, I3, rfl, q _ c' ctv H3 g4 ⟨⟨_, g1, g5, .inr ⟨c', g6, g2⟩⟩⟩ hf0 g3 g2⟩
  · refine PySem.W.kla_makeFunctionHit hcl hge hg hcode (hC _ I.kIn) hPh ht hf hB' fun ctv h' tk hk hle => ?_
    have I1 : Inv X pins σ H { s with heap := h', toks := tk } := I.kept (t' := tk) hk
    have I3 := I1.laid (a := h'.objs.size) (o := FunExt h'.objs.size (PySem.W.kla_obj "<lambda>" (X.env.qual ++ "<lambda>") params body scope clos ((X.mg "__name__").getD .none) c' ctv)) (t' := tk) (fun b u e => Heap.get?_push_of_some (PySem.W.kla_obj "<lambda>" (X.env.qual ++ "<lambda>") params body scope clos ((X.mg "__name__").getD .none) c' ctv) e) (Nat.le_refl _) (funExt_ok (Heap.get?_push_size _ rfl))
    have hf0 : H h'.objs.size = none := I.hok.fresh hle
    have kp : ∀ b o, H b = some o → (upd H h'.objs.size (FunExt h'.objs.size (PySem.W.kla_obj "<lambda>" (X.env.qual ++ "<lambda>") params body scope clos ((X.mg "__name__").getD .none) c' ctv))) b = some o := fun b o e => by
      rw [upd_ne (ne_of_none e hf0)]
      exact e
    exact ⟨.ref _, _, I3, rfl, q _ c' ctv _ (fun b o e _ => kp b o e) (LamOk.mono ⟨⟨ps, hP, ht, .inr ⟨c', hf, hc'⟩⟩⟩ kp) hf0 upd_same (kp _ _ hc')⟩
end L2
end
section
set_option Elab.async false
set_option linter.all false
set_option maxRecDepth 100000
set_option maxHeartbeats 4000000
namespace L2
open PySem PySem.Spec PyProof.Rows
def noStr : Nat → Bool := fun _ => false
theorem zip_snd {α β : Type} : ∀ {xs : List α} {ys : List β}, xs.length = ys.length → (xs.zip ys).map (·.2) = ys
  | [], [], _ => rfl
  | x :: xs, y :: ys, h => by
    rw [List.zip_cons_cons, List.map_cons, zip_snd (by simpa using h)]
  | [], _ :: _, h => by simp at h
  | _ :: _, [], h => by simp at h
theorem ints_nums : ∀ {vals : List Value} {us : List Nat}, IntsAre vals (us.map fun u : Nat => (u : Int)) → vals.map (fun v => (numOf v).toNat) = us := by
  intro vals
  induction vals with
  | nil =>
    intro us h
    cases us with
    | nil => rfl
    | cons u us => cases h
  | cons v vals ih =>
    intro us h
    cases us with
    | nil => cases h
    | cons u us =>
      cases h with
      | cons n t h' =>
        rw [List.map_cons, ih h']
        show (numOf (Value.int (u : Int) t)).toNat :: us = u :: us
        rfl
theorem ints_of_all : ∀ (vals : List Value), (∀ v ∈ vals, ∃ (u : Nat) (t : Tok), v = Value.int (u : Int) t) → IntsAre vals ((vals.map fun v => (numOf v).toNat).map fun u : Nat => (u : Int))
  | [], _ => .nil
  | v :: vals, h => by
    obtain ⟨u, t, rfl⟩ := h v (List.mem_cons_self ..)
    rw [List.map_cons, List.map_cons]
    exact .cons _ _ (ints_of_all vals fun x hx => h x (List.mem_cons_of_mem _ hx))
theorem sort_out {h : Heap} {ps : List Addr} {us : List Nat} {vals : List Value} {k1 k2 : Nat → Int} {arr : Array Keyed} (hv : IntsAre vals (us.map fun u : Nat => (u : Int))) (hl : ps.length = us.length)
    (hk : ∀ (j : Nat) (p : Addr) (u : Nat), ps[j]? = some p → us[j]? = some u → G.tupKeyC h noStr (.ref p) = some [Sum.inl (k1 u), Sum.inl (k2 u)])
    (hp : arr.Perm ((ps.map Value.ref).toArray.zip vals.toArray)) (hs : SortedToK (G.tupKindC h noStr) arr arr.size) :
    ∃ us' : List Nat, us'.Perm us ∧ us'.Pairwise (fun x y => k1 x < k1 y ∨ (k1 x = k1 y ∧ k2 x ≤ k2 y)) ∧ IntsAre (arr.map (·.2)).toList (us'.map fun u : Nat => (u : Int)) := by
  have hvl : vals.length = us.length := by have := hv.length; rw [List.length_map] at this; omega
  have hzl : ((ps.map Value.ref).toArray.zip vals.toArray).toList = (ps.map Value.ref).zip vals := by simp
  have hpl : arr.toList.Perm ((ps.map Value.ref).zip vals) := by rw [← hzl]; exact Array.perm_iff_toList_perm.mp hp
  have hlen : (ps.map Value.ref).length = vals.length := by rw [List.length_map]; omega
  have each : ∀ q ∈ (ps.map Value.ref).zip vals, ∃ (u : Nat) (t : Tok), q.2 = Value.int (u : Int) t ∧ G.tupKeyC h noStr q.1 = some [Sum.inl (k1 u), Sum.inl (k2 u)] := by
    intro q hq
    obtain ⟨j, hj⟩ := List.mem_iff_getElem?.mp hq
    obtain ⟨a1, a2⟩ := List.getElem?_zip_eq_some.mp hj
    rw [List.getElem?_map] at a1
    cases e : ps[j]? with
    | none => rw [e] at a1; cases a1
    | some p =>
      rw [e] at a1
      have e1 : Value.ref p = q.1 := Option.some.inj a1
      have hju : j < us.length := by have := (List.getElem?_eq_some_iff.mp e).1; omega
      have hu : us[j]? = some us[j] := List.getElem?_eq_getElem hju
      have hvj : (us.map fun u : Nat => (u : Int))[j]? = some ((us[j] : Nat) : Int) := by rw [List.getElem?_map, hu]; rfl
      have rv := vals_of_ints hv
      have hvj2 : ((us.map fun u : Nat => (u : Int)).map V.int)[j]? = some (V.int ((us[j] : Nat) : Int)) := by rw [List.getElem?_map, hvj]; rfl
      obtain ⟨w, hw, rw'⟩ := rv.get hvj2
      rw [a2] at hw
      have e2 : q.2 = w := Option.some.inj hw
      obtain ⟨t, ht⟩ : ∃ t, w = Value.int ((us[j] : Nat) : Int) t := rw'
      exact ⟨us[j], t, by rw [e2, ht], by rw [← e1]; exact hk j p us[j] e hu⟩
  have each' : ∀ q ∈ arr.toList, ∃ (u : Nat) (t : Tok), q.2 = Value.int (u : Int) t ∧ G.tupKeyC h noStr q.1 = some [Sum.inl (k1 u), Sum.inl (k2 u)] := fun q hq => each q (hpl.mem_iff.mp hq)
  refine ⟨(arr.toList.map (·.2)).map fun v => (numOf v).toNat, ?_, ?_, ?_⟩
  · have e1 := (hpl.map (·.2)).map fun v => (numOf v).toNat
    rw [zip_snd hlen, ints_nums hv] at e1
    exact e1
  · rw [List.map_map, List.pairwise_map, List.pairwise_iff_getElem]
    intro i j hi hj hij
    have hi' : i < arr.size := by simpa using hi
    have hj' : j < arr.size := by simpa using hj
    obtain ⟨u, t, hu, ku⟩ := each' arr.toList[i] (List.getElem_mem hi)
    obtain ⟨v, t', hv', kv⟩ := each' arr.toList[j] (List.getElem_mem hj)
    have q := hs i j (Nat.le_of_lt hij) hj'
    have KI : KK (G.tupKindC h noStr) arr i = [Sum.inl (k1 u), Sum.inl (k2 u)] := by
      unfold KK
      have e : arr[i]? = some arr.toList[i] := by rw [← Array.getElem?_toList, List.getElem?_eq_getElem hi]
      rw [e]
      dsimp only
      rw [ku]
      rfl
    have KJ : KK (G.tupKindC h noStr) arr j = [Sum.inl (k1 v), Sum.inl (k2 v)] := by
      unfold KK
      have e : arr[j]? = some arr.toList[j] := by rw [← Array.getElem?_toList, List.getElem?_eq_getElem hj]
      rw [e]
      dsimp only
      rw [kv]
      rfl
    rw [KI, KJ] at q
    have q' : lexLt itemOrd [Sum.inl (k1 v), Sum.inl (k2 v)] [Sum.inl (k1 u), Sum.inl (k2 u)] = false := q
    have e : lexLt itemOrd [Sum.inl (k1 v), Sum.inl (k2 v)] [Sum.inl (k1 u), Sum.inl (k2 u)] = (decide (k1 v < k1 u) || (!decide (k1 u < k1 v) && (decide (k2 v < k2 u) || (!decide (k2 u < k2 v) && false)))) := rfl
    rw [e] at q'
    show k1 (numOf arr.toList[i].2).toNat < k1 (numOf arr.toList[j].2).toNat ∨ (k1 (numOf arr.toList[i].2).toNat = k1 (numOf arr.toList[j].2).toNat ∧ k2 (numOf arr.toList[i].2).toNat ≤ k2 (numOf arr.toList[j].2).toNat)
    rw [hu, hv']
    show k1 u < k1 v ∨ (k1 u = k1 v ∧ k2 u ≤ k2 v)
    simp only [Bool.or_eq_false_iff, decide_eq_false_iff_not, Bool.and_eq_false_iff, Bool.not_eq_false', decide_eq_true_eq, Bool.and_false, Bool.or_false] at q'
    omega
  · rw [Array.toList_map]
    refine ints_of_all _ fun v hv => ?_
    obtain ⟨q, hq, rfl⟩ := List.mem_map.mp hv
    obtain ⟨u, t, hu, _⟩ := each' q hq
    exact ⟨u, t, hu⟩
end L2
end
section
set_option Elab.async false
set_option linter.all false
set_option maxRecDepth 100000
set_option maxHeartbeats 4000000
namespace L2
open PySem PySem.Spec PyProof.Rows
theorem vals_refs : ∀ {ps : List Addr} {us : List Value}, Vals (ps.map V.ref) us → us = ps.map Value.ref
  | [], us, h => by cases h; rfl
  | p :: ps, us, h => by
    cases h with
    | cons r t =>
      rw [vals_refs t, List.map_cons]
      congr 1
section
variable {X : Cx} {pins : List (Addr × Obj)} {σ : St}
structure KeyInv (X : Cx) (pins : List (Addr × Obj)) (σ : St) (H : Hp) (a kS : Addr) (e1 : Nat) (us : List Nat) (k1 k2 : Nat → Int) (i : Nat) (H' : Hp) (ps : List Addr) (s' : Shared) : Prop where
  inv : Inv X pins σ H' s'
  st : ∀ b o, H b = some o → H' b = some o
  keys : H' kS = some (.lst (ps.map V.ref))
  res : H' a = some (.frz (seqObj "list" #[] e1) (.lst []))
  len : ps.length = i
  tup : ∀ (j : Nat) (p : Addr) (u : Nat), ps[j]? = some p → us[j]? = some u → H' p = some (.tup [.int (k1 u), .int (k2 u)])
theorem tup_of {H : Hp} {s : Shared} {p : Addr} {a b : Int} (I : Inv X pins σ H s) (h : H p = some (.tup [.int a, .int b])) :
    G.tupKeyC s.heap noStr (.ref p) = some [Sum.inl a, Sum.inl b] ∧ ∃ t, TupOf s.heap noStr (.ref p) (.int a t) := by
  obtain ⟨_, its, hv, ob, ho, hc, n, hd⟩ := I.hok p _ h
  obtain ⟨t, u, rfl⟩ := Vals.int2 hv
  exact ⟨G.tupKeyC_of ho hc hd rfl, t, p, ob, _, n, rfl, ho, hc, hd, rfl, fun _ => ⟨a, t, rfl⟩, fun q => nomatch q⟩
theorem tups_of {H : Hp} {s : Shared} {k1 k2 : Nat → Int} (I : Inv X pins σ H s) : ∀ {ps : List Addr} {us : List Nat}, ps.length = us.length → (∀ (j : Nat) (p : Addr) (u : Nat), ps[j]? = some p → us[j]? = some u → H p = some (.tup [.int (k1 u), .int (k2 u)])) →
    ∃ fs, TupsOf s.heap noStr (ps.map Value.ref) fs
  | [], [], _, _ => ⟨[], .nil⟩
  | p :: ps, u :: us, hl, h => by
    obtain ⟨fs, hf⟩ := tups_of I (ps := ps) (us := us) (by simpa using hl) fun j p' u' a b => h (j + 1) p' u' (by simpa using a) (by simpa using b)
    obtain ⟨_, t, ht⟩ := tup_of I (h 0 p u rfl rfl)
    exact ⟨_, .cons ht hf⟩
  | [], _ :: _, hl, _ => by simp at hl
  | _ :: _, [], hl, _ => by simp at hl
theorem key_end {Pf : PySem.Fin → Shared → Prop} {E : Value → Shared → Prop} {A : Around} {H H' : Hp} {s : Shared} {a kS : Addr} {e1 : Nat} {us : List Nat} {k1 k2 : Nat → Int} {ps : List Addr} {vals : List Value} {keys : Array Value}
    (J : KeyInv X pins σ H a kS e1 us k1 k2 us.length H' ps s) (hv : IntsAre vals (us.map fun u : Nat => (u : Int))) (hz : us.length ≤ sizeLine) (hkeys : keys.toList = ps.map Value.ref) (hka : kS ≠ a) (hn : ∀ o' u', X.H_0 a ≠ some (.frz o' u'))
    (h : ∀ (us' : List Nat) (H2 : Hp) (s2 : Shared), us'.Perm us → us'.Pairwise (fun x y => k1 x < k1 y ∨ (k1 x = k1 y ∧ k2 x ≤ k2 y)) → Inv X pins σ H2 s2 → (∀ b o, H' b = some o → b ≠ a → b ≠ kS → H2 b = some o) → H2 a = some (.lst (us'.map fun u : Nat => V.int (u : Int))) → Pf (.done (.ret .none)) s2) :
    wpAny (model X.prog X.w) A (ksk_end a false vals.toArray e1 (.ref kS) keys) Pf E s := by
  have hvl : vals.length = us.length := by have := hv.length; rw [List.length_map] at this; omega
  have hpl : ps.length = us.length := J.len
  have hkA : keys = (ps.map Value.ref).toArray := by rw [← hkeys, Array.toArray_toList]
  subst hkA
  have hks : (ps.map Value.ref).toArray.size = us.length := by simp [hpl]
  have hzs : ((ps.map Value.ref).toArray.zip vals.toArray).size = us.length := by rw [Array.size_zip, hks, List.size_toArray, hvl, Nat.min_self]
  have hkk : ∀ (j : Nat) (p : Addr) (u : Nat), ps[j]? = some p → us[j]? = some u → G.tupKeyC s.heap noStr (.ref p) = some [Sum.inl (k1 u), Sum.inl (k2 u)] := fun j p u a b => (tup_of J.inv (J.tup j p u a b)).1
  have tail : ∀ st : SortSt, (arrOf st).Perm ((ps.map Value.ref).toArray.zip vals.toArray) → SortedToK (G.tupKindC s.heap noStr) (arrOf st) (arrOf st).size → failedOf st = none → wpAny (model X.prog X.w) A (ksk_tail a false e1 (.ref kS) st) Pf E s := by
    intro st hp hs hf
    obtain ⟨us', p1, p2, p3⟩ := sort_out hv hpl hkk hp hs
    have hasz : (arrOf st).size = us.length := by rw [hp.size_eq, hzs]
    obtain ⟨_, its, n, rv, hil, hok⟩ := J.inv.lstM J.keys
    obtain ⟨hoa, _⟩ := J.inv.hok a _ J.res
    unfold ksk_tail
    dsimp only
    have hits : its.length = us.length := by rw [← hil, List.length_map]; exact hpl
    refine wpAny_bind (listUpdate_at hok rfl ?_ (by rw [List.size_toArray, hits]; exact hz) (Nat.zero_le _))
    have I1 := J.inv.lset (t' := s.toks) (f := fun _ => (#[] : Array Value)) (its' := []) (ys := []) J.keys hok rfl .nil (Nat.zero_le _)
    refine wpAny_bind (wpAny_letGo ?_)
    have hna : (s.heap.update kS (Obj.mapSeq fun _ => (#[] : Array Value))).get? a = some (seqObj "list" #[] e1) := (Heap.get?_update_other _ _ hka).trans hoa
    refine wpAny_bind (seqEpoch_at hna rfl ?_)
    refine wpAny_bind (listUpdate_at hna rfl ?_ (Nat.zero_le _) ?_)
    · rw [hf]
      simp only [bne_self_eq_false, Bool.false_eq_true, if_false]
      have I2 := I1.unlock (d := a) (od := seqObj "list" #[] e1) (u := .lst []) (by rw [upd_ne hka.symm]; exact J.res) hn
      have I3 := I2.lset (t' := s.toks) (l := a) (xs := []) (its := []) (n := e1) (f := fun _ => (arrOf st).map (·.2)) (its' := ((arrOf st).map (·.2)).toList) (ys := us'.map fun u : Nat => V.int (u : Int)) upd_same hna (by rw [Array.toArray_toList]) (by
        have := vals_of_ints p3
        rw [List.map_map] at this
        exact this) (by rw [List.length_map, p1.length_eq]; exact hz)
      refine wpAny_pure (h us' _ _ p1 p2 I3 (fun b o e hb hb2 => ?_) upd_same)
      rw [upd_ne hb, upd_ne hb, upd_ne hb2]
      exact e
    · show (if false = true then ((arrOf st).map (·.2)).reverse else (arrOf st).map (·.2)).size ≤ sizeLine + 1
      rw [if_neg (by decide), Array.size_map, hasz]
      omega
  unfold ksk_end
  dsimp only
  rw [if_neg (show ¬ (false = true) by decide)]
  have hs2 : vals.toArray.size = us.length := by rw [List.size_toArray, hvl]
  by_cases h2 : vals.toArray.size < 2
  · rw [if_pos h2, if_pos h2]
    refine wpAny_bind (wpAny_pure ?_)
    rw [StateT.run_pure]
    refine wpAny_bind (wpAny_pure ?_)
    try dsimp only
    refine tail (SortSt.mk' general' ((ps.map Value.ref).toArray.zip vals.toArray) #[] 7 none) (Array.Perm.refl _) ?_ rfl
    intro i j hij hj
    have hj' : j < ((ps.map Value.ref).toArray.zip vals.toArray).size := hj
    rw [hzs] at hj'
    have : i = j := by omega
    subst this
    exact KeyOrd.kle_refl _
  · rw [if_neg h2, if_neg h2]
    obtain ⟨fs, hfs⟩ := tups_of J.inv hpl J.tup
    have hfl : 0 < fs.length := by
      have := G.TupsOf.length hfs
      rw [List.length_map] at this
      omega
    refine wpAny_bind (tup_kind (s := s) hfl hfs ?_)
    have hK : KeysOf (G.tupKindC s.heap noStr) ((ps.map Value.ref).toArray.zip vals.toArray) := by
      intro q hq
      have hq' : q ∈ (ps.map Value.ref).zip vals := by simpa using hq
      obtain ⟨j, hj⟩ := List.mem_iff_getElem?.mp hq'
      obtain ⟨a1, a2⟩ := List.getElem?_zip_eq_some.mp hj
      rw [List.getElem?_map] at a1
      cases e : ps[j]? with
      | none => rw [e] at a1; cases a1
      | some p =>
        rw [e] at a1
        have e1 : Value.ref p = q.1 := Option.some.inj a1
        have hju : j < us.length := by have := (List.getElem?_eq_some_iff.mp e).1; omega
        exact ⟨_, by rw [← e1]; exact hkk j p us[j] e (List.getElem?_eq_getElem hju)⟩
    refine wpAny_bind (wpAny_mono (G.wpS_sortRunsSt (κ := G.tupKindC s.heap noStr) (kd := tuples' true) (a₀ := (ps.map Value.ref).toArray.zip vals.toArray) (st := SortSt.mk' (tuples' true) ((ps.map Value.ref).toArray.zip vals.toArray) #[] 7 none)
      (Q := fun _ st' => (arrOf st').Perm ((ps.map Value.ref).toArray.zip vals.toArray) ∧ failedOf st' = none ∧ SortedToK (G.tupKindC s.heap noStr) (arrOf st') ((ps.map Value.ref).toArray.zip vals.toArray).size)
      (G.tupC_ltAt true (G.KeepsTups.refl _)) hK ⟨Array.Perm.refl _, rfl, rfl⟩ rfl (Stable.refl _) (by rw [hzs]; omega) fun st' a1 a2 a3 _ => ⟨a1, a2, a3⟩) ?_ fun _ _ e => e)
    rintro ⟨⟨⟩, st'⟩ s' ⟨rfl, hp, hf, hs⟩
    try dsimp only
    exact tail st' hp (by rw [hp.size_eq]; exact hs) hf
end
end L2
end
section
set_option Elab.async false
set_option linter.all false
set_option maxRecDepth 100000
set_option maxHeartbeats 4000000
namespace L2
open PySem PySem.Spec PyProof.Rows
section
variable {X : Cx} {pins : List (Addr × Obj)} {σ : St}
def KeyTurn (X : Cx) (pins : List (Addr × Obj)) (σ : St) (A : Around) (f : Value) (H : Hp) (us : List Nat) (k1 k2 : Nat → Int) : Prop :=
  ∀ (u : Nat) (t : Tok) (s1 : Shared) (H1 : Hp), u ∈ us → Inv X pins σ H1 s1 → (∀ b o, H b = some o → H1 b = some o) →
    wpAny (model X.prog X.w) A (call f [.int (u : Int) t]) (EP X pins σ fun v H2 => ∃ p, v = .ref p ∧ H1 p = none ∧ H2 = upd H1 p (.tup [.int (k1 u), .int (k2 u)])) (fun _ _ => False) s1
theorem key_rest {Pf : PySem.Fin → Shared → Prop} {E : Value → Shared → Prop} {A : Around} {H H0 : Hp} {s : Shared} {a kS : Addr} {e1 : Nat} {us : List Nat} {k1 k2 : Nat → Int} {vals : List Value} {f : Value}
    (J0 : KeyInv X pins σ H a kS e1 us k1 k2 0 H0 [] s) (hv : IntsAre vals (us.map fun u : Nat => (u : Int))) (hz : us.length ≤ sizeLine) (hka : kS ≠ a) (hn : ∀ o' u', X.H_0 a ≠ some (.frz o' u')) (turn : KeyTurn X pins σ A f H us k1 k2) (hHk : H kS = none) (hHa : H a = none)
    (h : ∀ (us' : List Nat) (H2 : Hp) (s2 : Shared), us'.Perm us → us'.Pairwise (fun x y => k1 x < k1 y ∨ (k1 x = k1 y ∧ k2 x ≤ k2 y)) → Inv X pins σ H2 s2 → (∀ b o, H b = some o → H2 b = some o) → H2 a = some (.lst (us'.map fun u : Nat => V.int (u : Int))) → Pf (.done (.ret .none)) s2) :
    wpAny (model X.prog X.w) A (ksk_rest a f false vals.toArray e1 (.ref kS)) Pf E s := by
  have hvl : vals.length = us.length := by have := hv.length; rw [List.length_map] at this; omega
  unfold ksk_rest
  refine wpAny_bind (wpAny_rule ?_)
  first
    | rw [List.forIn_toArray]
    | (rw [← Array.forIn_toList]; simp only [List.toList_toArray])
    | rw [← Array.forIn_toList]
  refine wpAny_bind (ksk_fold (fun i s' => ∃ H' ps, KeyInv X pins σ H a kS e1 us k1 k2 i H' ps s') vals 0 s ⟨H0, [], J0⟩ ?step ?done)
  case step =>
    rintro j x s' hx ⟨H', ps, J⟩
    rw [Nat.zero_add] at J ⊢
    have hj : j < vals.length := (List.getElem?_eq_some_iff.mp hx).1
    have hju : j < us.length := by omega
    have hu : us[j]? = some us[j] := List.getElem?_eq_getElem hju
    obtain ⟨t, rfl⟩ : ∃ t, x = Value.int ((us[j] : Nat) : Int) t := by
      have rv := vals_of_ints hv
      have e : ((us.map fun u : Nat => (u : Int)).map V.int)[j]? = some (V.int ((us[j] : Nat) : Int)) := by rw [List.getElem?_map, List.getElem?_map, hu]; rfl
      obtain ⟨w, hw, rw'⟩ := rv.get e
      rw [hx] at hw
      cases hw
      exact rw'
    refine wpAny_bind (wpAny_attempt (wpAny_mono (turn us[j] t s' H' (List.getElem_mem hju) J.inv J.st) (fun v s2 he => ?_) fun _ _ hF => hF.elim))
    obtain ⟨y, H2, I2, ry, p, ey, hp, eH⟩ := he
    subst ey eH
    obtain rfl : v = Value.ref p := ry
    dsimp only
    have npk : kS ≠ p := ne_of_none J.keys hp
    have npa : a ≠ p := ne_of_none J.res hp
    have hk2 : (upd H' p (.tup [.int (k1 us[j]), .int (k2 us[j])])) kS = some (.lst (ps.map V.ref)) := by rw [upd_ne npk]; exact J.keys
    obtain ⟨_, its, n, rv, hil, hok⟩ := I2.lstM hk2
    have hlen : its.length = j := by rw [← hil, List.length_map]; exact J.len
    refine wpAny_bind (listUpdate_at hok rfl ?_ (by rw [List.size_toArray]; omega) (by rw [Array.size_push, List.size_toArray]; omega))
    have I3 := I2.lset (t' := s2.toks) (f := (·.push (Value.ref p))) (its' := its ++ [Value.ref p]) (ys := (ps ++ [p]).map V.ref) hk2 hok (by simp) (by
      rw [List.map_append]
      exact Vals.append rv (.cons rfl .nil)) (by rw [List.length_map, List.length_append, J.len]; simp; omega)
    refine wpAny_pure ⟨rfl, _, ps ++ [p], I3, fun b o e => ?_, upd_same, ?_, by rw [List.length_append, J.len]; rfl, fun i q u hq hu' => ?_⟩
    · have e' := J.st b o e
      rw [upd_ne (fun z => by rw [z, hHk] at e; cases e), upd_ne (ne_of_none e' hp)]
      exact e'
    · rw [upd_ne hka.symm, upd_ne npa]
      exact J.res
    · by_cases hi : i < ps.length
      · rw [List.getElem?_append_left hi] at hq
        have := J.tup i q u hq hu'
        rw [upd_ne (fun z => by rw [z, J.keys] at this; cases this), upd_ne (ne_of_none this hp)]
        exact this
      · have hi' : i = ps.length := by
          have := (List.getElem?_eq_some_iff.mp hq).1
          rw [List.length_append, List.length_singleton] at this
          omega
        subst hi'
        rw [List.getElem?_append_right (Nat.le_refl _), Nat.sub_self] at hq
        have eq : p = q := Option.some.inj hq
        subst eq
        rw [J.len, hu] at hu'
        have eu : us[j] = u := Option.some.inj hu'
        rw [upd_ne npk.symm, upd_same, eu]
  case done =>
    rintro s' ⟨H', ps, J⟩
    rw [Nat.zero_add, hvl] at J
    obtain ⟨_, its, n, rv, hil, hok⟩ := J.inv.lstM J.keys
    refine wpAny_bind (listItems_at hok rfl ?_)
    refine key_end J hv hz (by rw [vals_refs rv]) hka hn fun us' H2 s2 p1 p2 I2 k2' k3 => h us' H2 s2 p1 p2 I2 (fun b o e => k2' b o (J.st b o e) (fun z => ?_) (fun z => ?_)) k3
    · rw [z, hHa] at e; cases e
    · rw [z, hHk] at e; cases e
end
end L2
end
section
set_option Elab.async false
set_option linter.all false
set_option maxRecDepth 100000
set_option maxHeartbeats 4000000
namespace L2
open PySem PySem.Spec PyProof.Rows
section
variable {X : Cx} {pins : List (Addr × Obj)} {σ : St}
theorem key_sorted {E : Value → Shared → Prop} {H : Hp} {s : Shared} {d f : Addr} {m : List (Nat × Nat)} {k1 k2 : Nat → Int} {Q : VK} (I : Inv X pins σ H s) (hc : X.calm = true) (hd : H d = some (.dK (dN m)))
    (turn : KeyTurn X pins σ X.A.in1.in1 (.ref f) H (m.map (·.1)) k1 k2)
    (q : ∀ (us' : List Nat) (D : Addr) (H' : Hp), us'.Perm (m.map (·.1)) → us'.Pairwise (fun x y => k1 x < k1 y ∨ (k1 x = k1 y ∧ k2 x ≤ k2 y)) → (∀ b o, H b = some o → H' b = some o) → H D = none → H' D = some (.lst (us'.map fun u : Nat => V.int (u : Int))) → Q (.ref D) H') :
    wpAny (model X.prog X.w) X.A (call (.builtin "sorted") [.ref d] [(Str.ofString "key", .ref f)]) (EP X pins σ Q) E s := by
  obtain ⟨hz, hsm, ws, kv, hdict⟩ := dk_of I.hok hd
  obtain ⟨ep, hat⟩ := hdict.dictAt
  have hl : (dN m).length = ws.length := kv.length
  have hus : (m.map (·.1)).length ≤ sizeLine := by rw [List.length_map] at hz ⊢; exact hz
  refine call_function_entry_kw kind_sorted plain_sorted entry_sorted (ksk_s1 _ _) ?_
  unfold Builtin.«sorted»
  refine wpAny_bind (m := checkCount "sorted" 1 1 _) (wpAny_pure ?_)
  refine wpAny_bind (collect_src (A := X.A.in1) (PySem.W.kdl_dict (knd := mixKind X.prog X.w) (kvs := ws) (ep := ep) hsm) (I.ok.hd hc) hat (by rw [← hl]; exact hz) fun h1 tk acc hk hacc hlt => ?_)
  have hi : IntsAre acc.toList ((m.map (·.1)).map fun u : Nat => (u : Int)) := by
    have := ints_of_items kv hacc
    rw [List.map_map]
    exact this
  have hz2 : acc.toList.length ≤ sizeLine := by rw [Array.length_toList, hacc.1, ← hl]; exact hz
  refine wpAny_bind (wpAny_newList ?_ hz2)
  have hoL : (h1.push (seqObj "list" acc.toList.toArray 0)).get? h1.objs.size = some (seqObj "list" acc.toList.toArray 0) := Heap.get?_push_size _ rfl
  show wpAny _ _ _ _ _ { s with heap := h1.push (seqObj "list" acc.toList.toArray 0), toks := tk }
  refine wpAny_bind (wpAny_holding (wpAny_call_entry_kw slot_list_sort ⟨_, hoL, rfl⟩ entry_list_sort ?body (ksk_l1 _ _)))
  case body =>
    show wpAny (model X.prog X.w) X.A.in1.in1 (Builtin.«list.sort» ⟨[.ref h1.objs.size], [(Str.ofString "key", .ref f)]⟩) _ _ _
    rw [ksk_t1]
    unfold ksk_tree
    refine wpAny_bind (listItems_at hoL rfl ?_)
    refine wpAny_bind (listUpdate_at hoL rfl ?_ (by rw [List.size_toArray]; exact hz2) (Nat.zero_le _))
    obtain ⟨e1, ho1⟩ : ∃ e1, ((h1.push (seqObj "list" acc.toList.toArray 0)).update h1.objs.size (Obj.mapSeq fun _ => (#[] : Array Value))).get? h1.objs.size = some (seqObj "list" #[] e1) := ⟨_, get?_update_seq hoL fun _ => #[]⟩
    refine wpAny_bind (seqEpoch_at ho1 rfl ?_)
    have hle : s.heap.objs.size ≤ h1.objs.size := Nat.le_of_lt hlt
    have keep1 : ∀ b o, s.heap.get? b = some o → ((h1.push (seqObj "list" acc.toList.toArray 0)).update h1.objs.size (Obj.mapSeq fun _ => (#[] : Array Value))).get? b = some o := fun b o e => by
      have hb := Heap.lt_size (hk b o e)
      rw [Heap.get?_update_ne _ _ _ _ (Nat.ne_of_lt hb)]
      exact Heap.get?_push_of_some _ (hk b o e)
    have I1 := I.laid (t' := tk) (a := h1.objs.size) (o := .frz (seqObj "list" #[] e1) (.lst [])) keep1 hle ⟨ho1, Nat.zero_le _, [], e1, .nil, ho1⟩
    have ha0 : H h1.objs.size = none := I.hok.fresh hle
    refine wpAny_bind (wpAny_newTuple ?_ (by simpa using hz2))
    have I2 := I1.kept (t' := tk) (h' := ((h1.push (seqObj "list" acc.toList.toArray 0)).update h1.objs.size (Obj.mapSeq fun _ => (#[] : Array Value))).push (seqObj "tuple" acc.toList.toArray.toList.toArray 0)) fun b u e => Heap.get?_push_of_some _ e
    refine wpAny_bind (wpAny_newList ?_ (Nat.zero_le _))
    have I3 := I2.lnew (t' := tk) (its := []) (ys := []) .nil (Nat.zero_le _)
    refine wpAny_holding ?_
    have hsz : h1.objs.size < (((h1.push (seqObj "list" acc.toList.toArray 0)).update h1.objs.size (Obj.mapSeq fun _ => (#[] : Array Value))).push (seqObj "tuple" acc.toList.toArray.toList.toArray 0)).objs.size := by
      rw [size_push', Heap.size_update, size_push']
      omega
    generalize hkS : (((h1.push (seqObj "list" acc.toList.toArray 0)).update h1.objs.size (Obj.mapSeq fun _ => (#[] : Array Value))).push (seqObj "tuple" acc.toList.toArray.toList.toArray 0)).objs.size = kS at I3 hsz
    have hk0 : H kS = none := I.hok.fresh (by omega)
    have hka : kS ≠ h1.objs.size := Nat.ne_of_gt hsz
    have J0 : KeyInv X pins σ H h1.objs.size kS e1 (m.map (·.1)) k1 k2 0 (upd (upd H h1.objs.size (.frz (seqObj "list" #[] e1) (.lst []))) kS (.lst [])) [] _ := ⟨I3, fun b o e => by
        rw [upd_ne (ne_of_none e hk0), upd_ne (ne_of_none e ha0)]
        exact e, upd_same, by rw [upd_ne hka.symm, upd_same], rfl, fun j p u h => by simp at h⟩
    have hnf : ∀ o' u', X.H_0 h1.objs.size ≠ some (.frz o' u') := fun o' u' e => by
      have := I.base.frzs _ o' u' e
      rw [ha0] at this
      cases this
    refine key_rest J0 hi hus hka hnf turn hk0 ha0 fun us' H2 s2 p1 p2 I4 st hD => ⟨_, rfl, ?_⟩
    exact wpAny_pure ⟨_, rfl, .ref _, H2, I4, rfl, q us' _ H2 p1 p2 st ha0 hD⟩
end
end L2
end
section
set_option Elab.async false
set_option linter.all false
set_option maxRecDepth 100000
set_option maxHeartbeats 4000000
namespace L2
open PySem PySem.Spec PyProof.Rows
section
variable {p0 q0 q1 q2 q3 q4 q5 q6 lpos : Pos}
def lamArgs (p0 : Pos) : Arguments := { posonlyargs := [], args := [{ arg := "one", annotation := none, pos := p0 }], vararg := none, kwonlyargs := [], kw_defaults := [], kwarg := none, defaults := [] }
def lamScope : Scope := { kind := .function, names := [("one", .local), ("rates", .free)], isGenerator := false, isCoroutine := false, more := [] }
def lamBody (q1 q2 q3 q4 q5 q6 : Pos) : Expr := .Tuple [.UnaryOp .USub (.Subscript (.Name "rates" q1) (.Name "one" q2) q3) q4, .Name "one" q5] 0 q6
theorem lamScope_ok (c0 : Addr) : LamScope ["one", "rates"] ["one"] lamScope [("rates", c0)] := by
  refine ⟨rfl, rfl, rfl, by decide +kernel, rfl, by decide +kernel, by decide +kernel, fun x y c h1 h2 => ?_, fun x h => ?_⟩
  · rw [List.lookup_cons] at h1 h2
    by_cases ex : x = "rates"
    · by_cases ey : y = "rates"
      · rw [ex, ey]
      · rw [beq_eq_false_iff_ne.mpr ey] at h2; cases h2
    · rw [beq_eq_false_iff_ne.mpr ex] at h1; cases h1
  · have h' : (lamScope.names).lookup x = some .free := h
    unfold lamScope at h'
    dsimp only at h'
    rw [List.lookup_cons] at h'
    by_cases e1 : x = "one"
    · rw [e1, beq_self_eq_true] at h'; cases h'
    · rw [beq_eq_false_iff_ne.mpr e1, List.lookup_cons] at h'
      by_cases e2 : x = "rates"
      · rw [e2]
        exact ⟨c0, by rw [List.lookup_cons, beq_self_eq_true]⟩
      · rw [beq_eq_false_iff_ne.mpr e2] at h'; cases h'
theorem lam_bind {qual : Str} {pm cdv ctv : Value} {cl : List (Str × Addr)} {body : Expr} (v : Value) : bindArgs (PySem.W.kla_fn "<lambda>" qual (lamArgs p0) body lamScope cl pm cdv ctv) ⟨[v], []⟩ = pure ((["one"] : List Str).zip [v]) := by
  rfl
variable {X : Cx} {pins : List (Addr × Obj)} {σ : St}
theorem lam_turn {H : Hp} {d f c' c0 : Addr} {m : List (Nat × Nat)} {i k : Nat} {qual : Str} {pm ctv : Value} (hr : Room (k + 1) X.A.in1.in1) (hi : X.N[i]? = some ("rates" : Str)) (hkind : X.env.scope.names.lookup ("rates" : Str) = some .cell) (hc0 : X.env.cells.lookup ("rates" : Str) = some c0)
    (hσ : σ[i]? = some (some (.ref d))) (hd : H d = some (.dK (dN m))) (hnd : (m.map (·.1)).Nodup)
    (hf : H f = some (FunExt f (PySem.W.kla_obj "<lambda>" qual (lamArgs p0) (lamBody q1 q2 q3 q4 q5 q6) lamScope [("rates", c0)] pm c' ctv))) (hcd : H c' = some (CodeExt c' qual)) :
    KeyTurn X pins σ X.A.in1.in1 (.ref f) H (m.map (·.1)) (fun u => -((CM.rateOf m u : Nat) : Int)) (fun u => (u : Int)) := by
  intro u t s1 H1 hu I1 st
  obtain ⟨mm, hn, hl⟩ := I1.loc
  obtain ⟨ud, rd, lk⟩ := hl i "rates" (.ref d) hi hσ (.inr (.inl hkind))
  have hcell : s1.heap.IsCell c0 (some ud) := by
    rcases lk with ⟨hk, _⟩ | ⟨_, c, e, z⟩
    · have hk' : X.env.scope.names.lookup ("rates" : Str) = some .local := hk
      rw [hkind] at hk'
      cases hk'
    · rw [hc0] at e
      cases e
      exact z
  have hlk : ∃ r, m.lookup u = some r := by
    obtain ⟨q, hq, e⟩ := List.mem_map.mp hu
    obtain ⟨j, hj⟩ := List.mem_iff_getElem?.mp hq
    obtain ⟨a, b⟩ := q
    subst e
    exact ⟨b, lookup_of_get hnd hj⟩
  obtain ⟨r, hr'⟩ := hlk
  have er : CM.rateOf m u = r := by unfold CM.rateOf; rw [hr']; rfl
  have clu : ∀ x c, ([("rates", c0)] : List (Str × Addr)).lookup x = some c → x = "rates" ∧ c = c0 := fun x c h => by
    rw [List.lookup_cons] at h
    by_cases e : x = "rates"
    · rw [e, beq_self_eq_true] at h
      cases h
      exact ⟨e, rfl⟩
    · rw [beq_eq_false_iff_ne.mpr e] at h; cases h
  have hfo : s1.heap.get? f = some (PySem.W.kla_obj "<lambda>" qual (lamArgs p0) (lamBody q1 q2 q3 q4 q5 q6) lamScope [("rates", c0)] pm c' ctv) := (I1.hok f _ (st _ _ hf)).1
  have hcr : s1.heap.CodeRec (.ref c') qual := (I1.hok c' _ (st _ _ hcd)).1
  have hu1 := hu_of hr
  refine wpAny_call (codeAny_mono (lam_run (k := k) (N := ["one", "rates"]) (ps := ["one"]) (vs := [.int (u : Int)]) (σ := [some (.int (u : Int)), some (.ref d)]) (Q := fun v H2 => ∃ p, v = .ref p ∧ H1 p = none ∧ H2 = upd H1 p (.tup [.int (-((CM.rateOf m u : Nat) : Int)), .int (u : Int)])) (E := E0)
    (t := tTup (tCons (tUn (rU fun i => .int (-i)) (tDGet (tVar 1) (tVar 0))) (tCons (tVar 0) tNil)))
    (lamScope_ok c0) hr I1.env0.in1.in1 rfl (.cons ⟨t, rfl⟩ .nil) hfo rfl hcr (lam_bind _) (fun x c h => ?_) (fun x c h => ?_) rfl (fun j x v hx hv => ?_) ?_ ?_) fun r s' hq => ?_)
  · obtain ⟨_, rfl⟩ := clu x c h
    exact ⟨_, hcell⟩
  · obtain ⟨rfl, rfl⟩ := clu x c h
    exact I1.freeC _ _ hc0
  · match j, hx, hv with
    | 0, hx, hv => exact .inl ⟨by decide, Option.some.inj hv ▸ rfl⟩
    | 1, hx, hv =>
      have ex : ("rates" : Str) = x := Option.some.inj hx
      have ev : V.ref d = v := Option.some.inj (Option.some.inj hv)
      subst ex ev
      exact .inr ⟨rfl, c0, ud, by rw [List.lookup_cons, beq_self_eq_true], hcell, rd⟩
    | j + 2, hx, hv => simp at hx
  · exact pe_tup (pa_cons (pe_un un_neg (pe_dget (hu_of (hr.deeper _)) (pv 1) (pv 0) (fun _ _ => rfl))) (pa_cons (pv 0) pa_nil))
  · have g : DGet H1 d (V.int (u : Int)) (some (V.int (r : Int))) := .inl ⟨dN m, Sum.inl (u : Int), .inl (st _ _ hd), rfl, by rw [valV_dN, hr']; rfl⟩
    refine ⟨_, rfl, _, rfl, d, _, rfl, g, (r : Int), rfl, _, rfl, by show 2 ≤ sizeLine; decide, fun p hp => ⟨p, rfl, hp, ?_⟩⟩
    rw [er]
  · cases r with
    | error e => exact False.elim hq
    | ok fl =>
      cases fl with
      | ret u => exact I1.after hq
      | next => exact False.elim hq
      | brk => exact False.elim hq
      | cont => exact False.elim hq
end
end L2
end
section
set_option Elab.async false
set_option linter.all false
set_option maxRecDepth 100000
set_option maxHeartbeats 4000000
namespace L2
open PySem PySem.Spec PyProof.Rows
section
variable {p0 q1 q2 q3 q4 q5 q6 lpos p p1 pos kpos : Pos} {X : Cx}
def tSortLam (i : Nat) (P : Addr) (lpos : Pos) (qual : Str) : TE := fun σ H Q => ∃ (d : Addr) (m : List (Nat × Nat)), σ[i]? = some (some (.ref d)) ∧ H d = some (.dK (dN m)) ∧ (m.map (·.1)).Nodup ∧ d ≠ P ∧ LamOk P lpos qual H ∧
  ∀ (us' : List Nat) (D : Addr) (H' : Hp), us'.Perm (m.map (·.1)) → us'.Pairwise (fun x y => CM.rateOf m y < CM.rateOf m x ∨ (CM.rateOf m x = CM.rateOf m y ∧ x ≤ y)) → (∀ b o, H b = some o → b ≠ P → H' b = some o) → LamOk P lpos qual H' → H D = none →
    H' D = some (.lst (us'.map fun u : Nat => V.int (u : Int))) → Q (.ref D) H'
theorem pe_sortLam {c P c0 : Addr} {i k : Nat} (hr : Room (k + 3) X.A) (hcalm : X.calm = true) (hi : X.N[i]? = some ("rates" : Str)) (hkind : X.env.scope.names.lookup ("rates" : Str) = some .cell) (hc0 : X.env.cells.lookup ("rates" : Str) = some c0)
    (hcode : X.env.code = .ref c) (hC : ∀ h, X.K.In h → PySem.W.CodeHd h c P) (hB : X.base.BuiltinsAt X.mg P) (hg : Gl X "sorted") (hm : X.mg "sorted" = none) :
    PE X (.Call (.Name "sorted" p) [.Name "rates" p1] [⟨some "key", .Lambda (lamArgs p0) (lamBody q1 q2 q3 q4 q5 q6) lamScope lpos, kpos⟩] pos) (tSortLam i P lpos (X.env.qual ++ "<lambda>")) := by
  intro pins s σ H Q I h
  obtain ⟨d, m, hσ, hd, hnd, hdP, hL, q⟩ := h
  have hcl : closureFor lamScope X.env = pure [(("rates" : Str), c0)] := by
    have hx : ∀ y ∈ lamScope.names, y.2 = .free → ∃ c, X.env.cells.lookup y.1 = some c := fun y hy hf => by
      have hy' : y = (("one" : Str), NameKind.local) ∨ y = (("rates" : Str), NameKind.free) := by
        unfold lamScope at hy
        simpa using hy
      rcases hy' with rfl | rfl
      · cases hf
      · exact ⟨c0, hc0⟩
    rw [closure_ok hx]
    show pure (cloFrom X.env.cells [(("one" : Str), NameKind.local), (("rates" : Str), NameKind.free)] []) = _
    unfold cloFrom
    rw [if_neg (by decide)]
    unfold cloFrom
    rw [if_pos (by decide), hc0]
    rfl
  refine wpAny_Call_Name_kw (ld_blt I hg hm boot_sorted ?_)
  have PAx : PA X [.Name "rates" p1] (tCons (tVar i) tNil) := pa_cons (pe_var hi (.inr (.inl hkind))) pa_nil
  refine callWith_kw ?_
  refine thn (PAx pos pins s σ H (fun vs H1 => vs = [.ref d] ∧ H1 = H) I ⟨_, hσ, rfl, rfl⟩) fun us s1 ⟨vs, H1, I1, r1, ev, eH⟩ => ?_
  subst ev eH
  rw [Vals.ref1 r1]
  refine kws_cons ?_
  have PL := pe_lam (X := X) (c := c) (P := P) (params := lamArgs p0) (body := lamBody q1 q2 q3 q4 q5 q6) (scope := lamScope) (pos := lpos) hcode hC hB hcl rfl
  refine thn (PL pins s1 σ H1 (fun v H2 => ∃ f c' ctv, v = .ref f ∧ (∀ b o, H1 b = some o → b ≠ P → H2 b = some o) ∧ LamOk P lpos (X.env.qual ++ "<lambda>") H2 ∧ H1 f = none ∧ H2 f = some (FunExt f (PySem.W.kla_obj "<lambda>" (X.env.qual ++ "<lambda>") (lamArgs p0) (lamBody q1 q2 q3 q4 q5 q6) lamScope [("rates", c0)] ((X.mg "__name__").getD .none) c' ctv)) ∧ H2 c' = some (CodeExt c' (X.env.qual ++ "<lambda>"))) I1
    ⟨hL, fun f c' ctv H' a1 a2 a3 a4 a5 => ⟨f, c', ctv, rfl, a1, a2, a3, a4, a5⟩⟩) fun u s2 ⟨v, H2, I2, r2, f, c', ctv, ev, a1, a2, a3, a4, a5⟩ => ?_
  subst ev
  obtain rfl : u = Value.ref f := r2
  refine kws_nil ?_
  show wpAny (model X.prog X.w) X.A (call (.builtin "sorted") [.ref d] [(Str.ofString "key", .ref f)]) (EP X pins σ Q) X.xe s2
  have hd2 : H2 d = some (.dK (dN m)) := a1 _ _ hd hdP
  refine key_sorted I2 hcalm hd2 (lam_turn (k := k) hr.in1.in1 hi hkind hc0 hσ hd2 hnd a4 a5) fun us' D H' p1 p2 st hD hD' => q us' D H' p1 (p2.imp fun {x y} z => ?_) (fun b o e hb => st _ _ (a1 b o e hb)) (a2.mono st) ?_ hD'
  · omega
  · cases e : H1 D with
    | none => rfl
    | some o =>
      by_cases hb : D = P
      · obtain ⟨ps, hp, _⟩ := a2.ex
        rw [hb] at hD
        rw [hD] at hp
        cases hp
      · rw [a1 _ _ e hb] at hD
        cases hD
end
end L2
end
section
set_option Elab.async false
set_option linter.all false
set_option maxRecDepth 100000
set_option maxHeartbeats 4000000
namespace L2
open PySem PySem.Spec PyProof.Rows
structure FunC (K : PySem.W.Frag) (x qual : Str) (st : Stmt) (f : Addr) (fd : FuncData) (c : Addr) : Prop where
  ex : ∃ (oc : Value) (od : Option Addr) (kV doc pm : Value) (an : Option Addr) (ct : Value) (osl : Array (Option Value)),
    fd = PySem.W.fnOf x qual (defArgs st) (defBody st) (defScope st) .none kV doc pm an (.ref c) ct ∧ K.lookup f = some ⟨oc, od, .func fd, osl⟩ ∧ PySem.W.codeIn K (.ref c) qual = true
  kp : PySem.W.keepIn K (.ref f) = true
section
variable {P : Program} {w : World} {K : PySem.W.Frag} {mg : Str → Option Value} {base : Heap}
theorem FunC.ok {x qual : Str} {st : Stmt} {f c : Addr} {fd : FuncData} {N ps : List Str} {k : Nat} {sp : Sp} (F : FunC K x qual st f fd c) (S : FnScope N ps (defScope st)) (len : ∀ vs H Q E, sp vs H Q E → vs.length = ps.length)
    (hbody : ∀ (A : Around) (outer : List Env) (s : Shared) (H : Hp) (vs : List V) (Q : VK) (E : XK), Room k (A.deeper (envOfC qual (defScope st) s.heap.objs.size f (.ref c))) → sp vs H Q E →
      ∃ t, PSs (cxOf CX0 P w K mg base N qual (defScope st) f (.ref c) A outer s H E).nox (defBody st) t ∧ t { nx := fun _ H' => Q .non H', rt := Q } (start N vs) H) : FnOk P w K mg base CX0 (k + 1) f fd ps sp := by
  obtain ⟨oc, od, kV, doc, pm, an, ct, osl, rfl, lk, hcd⟩ := F.ex
  refine fn_of lk hcd S len fun A outer s H vs Q E hr hsp => ?_
  obtain ⟨t, h, q⟩ := hbody A outer s H vs Q E hr hsp
  exact ⟨t, h.nox, q⟩
end
theorem put_new {m : List (Nat × Nat)} {u k : Nat} (h : m.lookup u = none) : putK (dN m) (Sum.inl (u : Int)) (V.int (k : Int)) = dN (m ++ [(u, k)]) := by
  rw [putK_new _ (by rw [valV_dN, h]; rfl)]
  show (m.map fun p => ((Sum.inl (p.1 : Int) : Key), V.int (p.2 : Int))) ++ [((Sum.inl (u : Int) : Key), V.int (k : Int))] = (m ++ [(u, k)]).map fun p => ((Sum.inl (p.1 : Int) : Key), V.int (p.2 : Int))
  rw [List.map_append]
  rfl
theorem LamOk.mono_but {P p : Addr} {pos : Pos} {qual : Str} {H H' : Hp} {kvs : List (Key × V)} (h : LamOk P pos qual H) (k : ∀ b o, H b = some o → b ≠ p → H' b = some o) (hpP : p ≠ P) (hp : H p = some (.dK kvs)) : LamOk P pos qual H' := by
  obtain ⟨ps, h1, h2, h3⟩ := h.ex
  refine ⟨ps, k _ _ h1 (Ne.symm hpP), h2, ?_⟩
  rcases h3 with h3 | ⟨c', h3, h4⟩
  · exact .inl h3
  · exact .inr ⟨c', h3, k _ _ h4 fun z => by rw [z, hp] at h4; cases h4⟩
theorem lookup_none {m : List (Nat × Nat)} {u : Nat} (h : u ∉ m.map (·.1)) : m.lookup u = none := by
  induction m with
  | nil => rfl
  | cons p m ih =>
    obtain ⟨a, b⟩ := p
    have h' : ¬ u = a ∧ u ∉ m.map (·.1) := by simpa using h
    rw [List.lookup_cons, beq_eq_false_iff_ne.mpr h'.1]
    exact ih h'.2
end L2
namespace Cl
open PySem PySem.Spec PyProof.Rows L2 CM
abbrev sAnew : Stmt := top 7
def lamPos : Pos := ⟨25, 34, 25, 64⟩
def lamQual : Str := (("ks_anew" : Str) ++ ".<locals>.") ++ "<lambda>"
section
variable {P : Program} {w : World} {K : PySem.W.Frag} {mg : Str → Option Value} {base : Heap}
def spAnew (PT : Addr) : Sp := fun vs H Q _ => ∃ (a : Addr) (m : List (Nat × Nat)), vs = [.ref a] ∧ H a = some (.dK (dN m)) ∧ (m.map (·.1)).Nodup ∧ a ≠ PT ∧ (∀ x ∈ m, 0 < x.2 ∧ x.2 ≤ 256) ∧ m.length ≤ 256 ∧ LamOk PT lamPos lamQual H ∧
  ∀ (us' : List Nat) (p : Addr) (H' : Hp), us'.Perm (m.map (·.1)) → us'.Pairwise (fun x y => rateOf m y < rateOf m x ∨ (rateOf m x = rateOf m y ∧ x ≤ y)) → (∀ b o, H b = some o → b ≠ PT → H' b = some o) → LamOk PT lamPos lamQual H' → H p = none →
    H' p = some (.dK (dN (givenK m 0 us'))) → Q (.ref p) H'
theorem scAnew : FnScope ["rates", "ks", "tip", "user"] ["rates"] (defScope sAnew) := ⟨rfl, rfl, rfl, by decide +kernel, rfl, by decide +kernel, by decide +kernel⟩
theorem ok_anew {f c PT : Addr} {fd : FuncData} (F : FunC K "ks_anew" "ks_anew" sAnew f fd c) (hC : ∀ h, K.In h → PySem.W.CodeHd h c PT) (hB : base.BuiltinsAt mg PT) (hm : mg "sorted" = none) : FnOk P w K mg base CX0 5 f fd ["rates"] (spAnew PT) := by
  refine F.ok scAnew (fun vs H Q E h => ?_) (fun A outer s H vs Q E hr h => ?_)
  · obtain ⟨a, m, rfl, _⟩ := h
    rfl
  · obtain ⟨a, m, rfl, ha, hnd, haP, hpos, hlen, hL, k⟩ := h
    have hu := hu_of hr
    have nd := scAnew.nd
    refine ⟨_, pss_cons (ps_set (i := 1) nd rfl (Or.inl rfl) pe_dnewK)
      (pss_cons (ps_set (i := 2) nd rfl (Or.inl rfl) pe_int)
      (pss_cons (ps_for PassesOwn.never rfl (pi_list (pe_sortLam (k := 1) (i := 0) (c := c) (P := PT) (c0 := s.heap.objs.size + 1) hr rfl rfl rfl rfl rfl hC hB rfl hm)) (pg_name (i := 3) nd rfl (Or.inl rfl))
        (pss_cons (ps_dput hu (pv 1) (pv 3) (pe_op op_fdiv (pv 2) (pe_dget hu (pv 0) (pv 3) (fun _ _ => rfl))) rfl)
          (pss_one (ps_aug (i := 2) nd rfl (Or.inl rfl) (pe_dget hu (pv 0) (pv 3) (fun _ _ => rfl)) ip_add))))
      (pss_one (ps_ret (pv 1))))), ?_⟩
    intro p hp
    have s1 : Same H (upd H p (.dK [])) := fun b o e => by rw [upd_ne (ne_of_none e hp)]; exact e
    refine ⟨a, m, rfl, s1 _ _ ha, hnd, haP, hL.mono s1, fun us' D H1 pm pw st hL1 hD hD1 => ?_⟩
    have hpP : p ≠ PT := fun z => by
      obtain ⟨ps, e, _⟩ := hL.ex
      rw [z] at hp
      rw [hp] at e
      cases e
    have hpD : p ≠ D := fun z => by rw [← z, upd_same] at hD; cases hD
    have hD0 : H D = none := by rw [upd_ne (Ne.symm hpD)] at hD; exact hD
    have hp1 : H1 p = some (.dK (dN (givenK m 0 []))) := st p _ upd_same hpP
    have st1 : ∀ b o, H b = some o → b ≠ PT → H1 b = some o := fun b o e hb => st b o (s1 b o e) hb
    refine ⟨D, rfl, ⟨_, SqL.of hD1⟩, for_list (K := K) (a := D) (xs := us'.map fun u : Nat => V.int (u : Int)) (fun i σ H' => ∃ v3 : Option V, σ = [some (.ref a), some (.ref p), some (.int ((placeAt m (us'.take i) : Nat) : Int)), v3] ∧ (∀ b o, H b = some o → b ≠ PT → H' b = some o) ∧ LamOk PT lamPos lamQual H' ∧
      H' D = some (.lst (us'.map fun u : Nat => V.int (u : Int))) ∧ H' p = some (.dK (dN (givenK m 0 (us'.take i))))) ⟨none, rfl, st1, hL1, hD1, hp1⟩ (fun i σ H' _ ⟨_, _, _, _, h, _⟩ => SqL.of h) ?_ ?_⟩
    · rintro i y σ H' hi ⟨v3, rfl, st2, hL2, hD2, hp2⟩
      obtain ⟨u, hui, rfl⟩ : ∃ u, us'[i]? = some u ∧ y = V.int (u : Int) := by
        rw [List.getElem?_map] at hi
        cases e : us'[i]? with
        | none => rw [e] at hi; cases hi
        | some z => rw [e] at hi; exact ⟨z, rfl, (Option.some.inj hi).symm⟩
      have hmem : u ∈ m.map (·.1) := pm.mem_iff.mp (List.mem_of_getElem? hui)
      obtain ⟨q, hq, eq⟩ := List.mem_map.mp hmem
      obtain ⟨j, hj⟩ := List.mem_iff_getElem?.mp hq
      obtain ⟨qa, r⟩ := q
      dsimp only at eq
      subst eq
      have hlk := lookup_of_get hnd hj
      have er : rateOf m qa = r := by unfold rateOf; rw [hlk]; rfl
      have hrp := hpos _ hq
      dsimp only at hrp
      have ga : DGet H' a (V.int (qa : Int)) (some (V.int (r : Int))) := .inl ⟨dN m, Sum.inl (qa : Int), .inl (st2 _ _ ha haP), rfl, by rw [valV_dN, hlk]; rfl⟩
      have hnew : (givenK m 0 (us'.take i)).lookup qa = none := by
        refine lookup_none ?_
        rw [givenK_fst]
        intro hm'
        obtain ⟨j', hj'⟩ := List.mem_iff_getElem?.mp hm'
        have hj1 : j' < i := by
          have := (List.getElem?_eq_some_iff.mp hj').1
          rw [List.length_take] at this
          omega
        rw [List.getElem?_take_of_lt hj1] at hj'
        have hnd' : us'.Nodup := pm.nodup_iff.mpr hnd
        have := nd_ix hnd' hj' hui
        omega
      have e1 : ((placeAt m (us'.take i) : Nat) : Int) / (r : Int) = (((0 + placeAt m (us'.take i)) / rateOf m qa : Nat) : Int) := by rw [er, Nat.zero_add, Int.natCast_ediv]
      have hl1 : (dN (givenK m 0 (us'.take i))).length < sizeLine := by
        rw [List.length_map]
        have e2 : (givenK m 0 (us'.take i)).length = (us'.take i).length := by rw [← List.length_map (·.1), givenK_fst]
        rw [e2, List.length_take]
        have e3 : us'.length = m.length := by rw [pm.length_eq, List.length_map]
        have : 256 < sizeLine := by decide
        omega
      have hput : DPut H' p (V.int (qa : Int)) (V.int (((placeAt m (us'.take i) : Nat) : Int) / (r : Int))) (upd H' p (.dK (dN (givenK m 0 (us'.take (i + 1)))))) := by
        have := DPut.k (k := Sum.inl (qa : Int)) (v := V.int (((placeAt m (us'.take i) : Nat) : Int) / (r : Int))) hp2 hl1
        rw [e1, put_new hnew, ← givenK_snoc, ← take_snoc hui] at this
        rw [e1]
        exact this
      refine ⟨_, rfl, _, rfl, _, rfl, a, _, rfl, ga, _, _, rfl, rfl, ⟨by omega, by omega⟩, _, rfl, _, rfl, p, _, rfl, hput, ?_⟩
      have npa : a ≠ p := ne_of_none ha hp
      have ga2 : DGet (upd H' p (.dK (dN (givenK m 0 (us'.take (i + 1)))))) a (V.int (qa : Int)) (some (V.int (r : Int))) := .inl ⟨dN m, Sum.inl (qa : Int), .inl (by rw [upd_ne npa]; exact st2 _ _ ha haP), rfl, by rw [valV_dN, hlk]; rfl⟩
      refine ⟨_, rfl, _, rfl, _, rfl, a, _, rfl, ga2, _, _, rfl, rfl, ?_⟩
      refine ⟨some (V.int (qa : Int)), ?_, fun b o e hb => by rw [upd_ne (ne_of_none e hp)]; exact st2 b o e hb, ?_, by rw [upd_ne hpD.symm]; exact hD2, upd_same⟩
      · rw [take_snoc hui, placeAt_snoc, er]
        rfl
      · refine hL2.mono_but (p := p) (fun b o e hb => by rw [upd_ne hb]; exact e) ?_ hp2
        intro z
        exact hpP z
    · rintro σ H' ⟨v3, rfl, st2, hL2, hD2, hp2⟩
      rw [List.length_map, List.take_length] at hp2
      exact ⟨_, rfl, k us' p H' pm pw st2 hL2 hp hp2⟩
end
end Cl
end
section
set_option Elab.async false
set_option linter.all false
set_option maxRecDepth 100000
set_option maxHeartbeats 4000000
namespace L2
open PySem PySem.Spec PyProof.Rows
theorem LamOk.mono_own {P : Addr} {pos : Pos} {qual : Str} {H H' : Hp} {D : Addr → Prop} (h : LamOk P pos qual H) (k : ∀ b o, H b = some o → ¬ D b → H' b = some o) (hD : ∀ b, D b → (∃ C dx fs, H b = some (.ins C dx fs)) ∨ (∃ kvs, H b = some (.dK kvs)) ∨ H b = none) : LamOk P pos qual H' := by
  obtain ⟨ps, h1, h2, h3⟩ := h.ex
  have ht : ¬ D P := fun d => by
    rcases hD _ d with ⟨C, dx, fs, e⟩ | ⟨kvs, e⟩ | e <;> rw [e] at h1 <;> cases h1
  refine ⟨ps, k _ _ h1 ht, h2, ?_⟩
  rcases h3 with h3 | ⟨c', h3, h4⟩
  · exact .inl h3
  · refine .inr ⟨c', h3, k _ _ h4 fun d => ?_⟩
    rcases hD _ d with ⟨C, dx, fs, e⟩ | ⟨kvs, e⟩ | e <;> rw [e] at h4 <;> cases h4
end L2
namespace Cl
open PySem PySem.Spec PyProof.Rows L2 CM
open Kh297 (Abs doing begun)
theorem ne_rk : ¬ (("rates" : Str) = "ks") := by decide +kernel
theorem ne_rl : ¬ (("rates" : Str) = "row") := by decide +kernel
theorem ne_rs : ¬ (("rates" : Str) = "said") := by decide +kernel
theorem ne_kl : ¬ (("ks" : Str) = "row") := by decide +kernel
theorem ne_ks : ¬ (("ks" : Str) = "said") := by decide +kernel
theorem ne_ls : ¬ (("row" : Str) = "said") := by decide +kernel
def flds (R Kk L S : Addr) : List (Str × V) := [("rates", V.ref R), ("ks", V.ref Kk), ("row", V.ref L), ("said", V.ref S)]
theorem put_flds_ks (R Kk L S : Addr) (v : Addr) : putF "ks" (.ref v) (flds R Kk L S) = flds R v L S := by
  unfold flds
  rw [putF, if_neg ne_rk, putF, if_pos rfl]
theorem put_flds_row (R Kk L S : Addr) (v : Addr) : putF "row" (.ref v) (flds R Kk L S) = flds R Kk v S := by
  unfold flds
  rw [putF, if_neg ne_rl, putF, if_neg ne_kl, putF, if_pos rfl]
theorem put_flds_said (R Kk L S : Addr) (v : Addr) : putF "said" (.ref v) (flds R Kk L S) = flds R Kk L v := by
  unfold flds
  rw [putF, if_neg ne_rs, putF, if_neg ne_ks, putF, if_neg ne_ls, putF, if_pos rfl]
theorem put_flds_rates (R Kk L S : Addr) (v : Addr) : putF "rates" (.ref v) (flds R Kk L S) = flds v Kk L S := by
  unfold flds
  rw [putF, if_pos rfl]
theorem put_all {fs : List (Str × V)} (h : fs = [] ∨ ∃ R Kk L S, fs = flds R Kk L S) (R Kk L S : Addr) : putF "said" (.ref S) (putF "row" (.ref L) (putF "ks" (.ref Kk) (putF "rates" (.ref R) fs))) = flds R Kk L S := by
  rcases h with rfl | ⟨R0, K0, L0, S0, rfl⟩
  · have e1 : putF "rates" (.ref R) [] = [(("rates" : Str), V.ref R)] := rfl
    have e2 : putF "ks" (.ref Kk) [(("rates" : Str), V.ref R)] = [(("rates" : Str), V.ref R), ("ks", V.ref Kk)] := by
      rw [putF, if_neg ne_rk]
      rfl
    have e3 : putF "row" (.ref L) [(("rates" : Str), V.ref R), ("ks", V.ref Kk)] = [(("rates" : Str), V.ref R), ("ks", V.ref Kk), ("row", V.ref L)] := by
      rw [putF, if_neg ne_rl, putF, if_neg ne_kl]
      rfl
    have e4 : putF "said" (.ref S) [(("rates" : Str), V.ref R), ("ks", V.ref Kk), ("row", V.ref L)] = flds R Kk L S := by
      rw [putF, if_neg ne_rs, putF, if_neg ne_ks, putF, if_neg ne_ls]
      rfl
    rw [e1, e2, e3, e4]
  · rw [put_flds_rates, put_flds_ks, put_flds_row, put_flds_said]
theorem flds_rates (R Kk L S : Addr) : (flds R Kk L S).lookup ("rates" : Str) = some (V.ref R) := by rw [← put_all (.inl rfl), lookup_putF, if_neg ne_rs, lookup_putF, if_neg ne_rl, lookup_putF, if_neg ne_rk, lookup_putF, if_pos rfl]
theorem flds_ks (R Kk L S : Addr) : (flds R Kk L S).lookup ("ks" : Str) = some (V.ref Kk) := by rw [← put_all (.inl rfl), lookup_putF, if_neg ne_ks, lookup_putF, if_neg ne_kl, lookup_putF, if_pos rfl]
theorem flds_row (R Kk L S : Addr) : (flds R Kk L S).lookup ("row" : Str) = some (V.ref L) := by rw [← put_all (.inl rfl), lookup_putF, if_neg ne_ls, lookup_putF, if_pos rfl]
theorem flds_said (R Kk L S : Addr) : (flds R Kk L S).lookup ("said" : Str) = some (V.ref S) := by rw [← put_all (.inl rfl), lookup_putF, if_pos rfl]
theorem flds_no (R Kk L S : Addr) {m : Str} (h1 : ¬ m = "rates") (h2 : ¬ m = "ks") (h3 : ¬ m = "row") (h4 : ¬ m = "said") : (flds R Kk L S).lookup m = none := by
  rw [← put_all (.inl rfl), lookup_putF, if_neg h4, lookup_putF, if_neg h3, lookup_putF, if_neg h2, lookup_putF, if_neg h1]
  rfl
def dB (l : List Nat) : List (Key × V) := l.map fun u : Nat => ((Sum.inl (u : Int) : Key), V.bl true)
structure LineAt (C : Addr) (H : Hp) (p R Kk L S : Addr) (a : Abs) (rs ks : List (Nat × Nat)) : Prop where
  ob : ∃ dx, H p = some (.ins C dx (flds R Kk L S))
  hR : H R = some (.dK (dN rs))
  hK : H Kk = some (.dK (dN ks))
  hL : H L = some (lI a.line)
  hS : H S = some (.dK (dB a.said.reverse))
  rk : R ≠ Kk
  rS : R ≠ S
  kS : Kk ≠ S
  rel : Rel a.codes rs ks
  len : a.line.length = 256
theorem LineAt.mono {C : Addr} {H H' : Hp} {p R Kk L S : Addr} {a : Abs} {rs ks : List (Nat × Nat)} (D : LineAt C H p R Kk L S a rs ks) (s : Same H H') : LineAt C H' p R Kk L S a rs ks := by
  obtain ⟨⟨dx, h1⟩, h2, h3, h4, h5, h6, h7, h8, h9, h10⟩ := D
  exact ⟨⟨dx, s _ _ h1⟩, s _ _ h2, s _ _ h3, s _ _ h4, s _ _ h5, h6, h7, h8, h9, h10⟩
def Own (p R Kk S b : Addr) : Prop := b = p ∨ b = R ∨ b = Kk ∨ b = S
theorem LineAt.own {C : Addr} {H : Hp} {p R Kk L S : Addr} {a : Abs} {rs ks : List (Nat × Nat)} (D : LineAt C H p R Kk L S a rs ks) (b : Addr) (h : Own p R Kk S b) : (∃ C dx fs, H b = some (.ins C dx fs)) ∨ (∃ kvs, H b = some (.dK kvs)) ∨ H b = none := by
  rcases h with rfl | rfl | rfl | rfl
  · obtain ⟨dx, h⟩ := D.ob
    exact .inl ⟨_, _, _, h⟩
  · exact .inr (.inl ⟨_, D.hR⟩)
  · exact .inr (.inl ⟨_, D.hK⟩)
  · exact .inr (.inl ⟨_, D.hS⟩)
def After (C PT : Addr) (H : Hp) (p R Kk L S : Addr) (a' : Abs) (ans : List Int) (Q : VK) : Prop :=
  ∀ (H' : Hp) (R' Kk' L' S' q : Addr) (rs' ks' : List (Nat × Nat)), LineAt C H' p R' Kk' L' S' a' rs' ks' → LamOk PT lamPos lamQual H' → (∀ b z, H b = some z → ¬ Own p R Kk S b → b ≠ PT → H' b = some z) →
    (∀ b, Own p R' Kk' S' b → Own p R Kk S b ∨ H b = none) → (L' = L ∨ H L' = none) → H' q = some (lI ans) → H q = none → Q (.ref q) H'
theorem After.still {C PT : Addr} {H : Hp} {p R Kk L S : Addr} {a a' : Abs} {ans : List Int} {Q : VK} {rs ks : List (Nat × Nat)} (k : After C PT H p R Kk L S a' ans Q) (D : LineAt C H p R Kk L S a rs ks) (lam : LamOk PT lamPos lamQual H) (e : a' = a) {H' : Hp} (s : Same H H') {q : Addr} (hq : H q = none) (hq' : H' q = some (lI ans)) : Q (.ref q) H' := by
  subst e
  exact k H' R Kk L S q rs ks (D.mono s) (lam.mono s) (fun b z e _ _ => s b z e) (fun b h => .inl h) (.inl rfl) hq' hq
theorem After.one {C PT : Addr} {H : Hp} {p R Kk L S : Addr} {a a' : Abs} {ans : List Int} {Q : VK} {rs ks : List (Nat × Nat)} (k : After C PT H p R Kk L S a' ans Q) (D : LineAt C H p R Kk L S a rs ks) (lam : LamOk PT lamPos lamQual H) (e : a' = a) {z : Int} (ez : ans = [z]) {H1 : Hp} (s : Same H H1) {q : Addr} (hq : H1 q = none) : Q (.ref q) (upd H1 q (.lst [V.int z])) := by
  subst ez
  exact k.still D lam e (s.trans (same_new hq)) (s.free hq) upd_same
structure TxtC (K : PySem.W.Frag) (mg : Str → Option Value) (C : Addr) : Prop where
  cl : Cls K C
  nR : NoAttr K C "rates"
  nK : NoAttr K C "ks"
  nL : NoAttr K C "row"
  nS : NoAttr K C "said"
abbrev sInit : Stmt := inClass (top 28) 0
abbrev sBegin : Stmt := inClass (top 28) 1
abbrev sClear : Stmt := inClass (top 28) 2
abbrev sOpen : Stmt := inClass (top 28) 3
abbrev sGive : Stmt := inClass (top 28) 4
abbrev sClose : Stmt := inClass (top 28) 5
abbrev sCode : Stmt := inClass (top 28) 6
abbrev sSay : Stmt := inClass (top 28) 7
abbrev sTell : Stmt := inClass (top 28) 8
abbrev sHear : Stmt := inClass (top 28) 9
section
variable {P : Program} {w : World} {K : PySem.W.Frag} {mg : Str → Option Value} {base : Heap}
def spClear (C : Addr) : Sp := fun vs H Q _ => ∃ (p dx : Addr) (fs : List (Str × V)), vs = [.ref p] ∧ H p = some (.ins C dx fs) ∧ fs.length < 900 ∧ ∀ (L S : Addr) (H' : Hp), H L = none → H S = none → L ≠ S → (∀ b z, H b = some z → b ≠ p → H' b = some z) →
  H' p = some (.ins C dx (putF "said" (.ref S) (putF "row" (.ref L) fs))) → H' L = some (lI Kh297.zeros) → H' S = some (.dK []) → Q .non H'
theorem putF_len (f : Str) (v : V) : ∀ fs : List (Str × V), (putF f v fs).length ≤ fs.length + 1
  | [] => Nat.le_refl _
  | (g, x) :: r => by
    unfold putF
    split
    · exact Nat.le_succ _
    · exact Nat.succ_le_succ (putF_len f v r)
theorem scClear : FnScope ["self"] ["self"] (defScope sClear) := ⟨rfl, rfl, rfl, by decide +kernel, rfl, by decide +kernel, by decide +kernel⟩
theorem ok_clear {f C : Addr} {fd : FuncData} (F : Fun K "clear_line" "SharedLine.clear_line" sClear f fd) (T : Txt K mg) (TC : TxtC K mg C) : FnOk P w K mg base CX0 1 f fd ["self"] (spClear C) := by
  refine F.ok scClear (fun vs H Q E h => ?_) (fun cdv A outer s H vs Q E hr h => ?_)
  · obtain ⟨p, dx, fs, rfl, _⟩ := h
    rfl
  · obtain ⟨p, dx, fs, rfl, hp, hfs, k⟩ := h
    obtain ⟨tP, hP⟩ := T.places
    refine ⟨_, pss_cons (ps_fld (pv 0) (pe_op op_rep (pe_lst (pa_cons pe_int pa_nil)) (pe_glob (v := .int 256) rfl hP ⟨tP, rfl⟩)) rfl) (pss_one (ps_fld (pv 0) pe_dnewK rfl)), ?_⟩
    refine ⟨by show 1 ≤ sizeLine; decide, fun l hl => ?_⟩
    refine ⟨l, 256, [.int 0], rfl, rfl, upd_same, by decide, by decide, by show 1 * 256 ≤ sizeLine; decide, fun L hL => ?_⟩
    have hL0 : H L = none := (same_new hl).free hL
    have e0 : (List.replicate (256 : Int).toNat [V.int 0]).flatten = Kh297.zeros.map V.int := by
      rw [rep_flat]; unfold Kh297.zeros; rw [List.map_replicate]; rfl
    rw [e0]
    have s1 : Same H (upd (upd H l (.lst [.int 0])) L (.lst (Kh297.zeros.map V.int))) := (same_new hl).trans (same_new hL)
    generalize hH1 : upd (upd H l (.lst [.int 0])) L (.lst (Kh297.zeros.map V.int)) = H1 at s1
    have hL1 : H1 L = some (lI Kh297.zeros) := by rw [← hH1, upd_same]; rfl
    have hp1 := s1 _ _ hp
    refine ⟨_, rfl, p, C, dx, fs, rfl, hp1, TC.cl, TC.nL, by omega, ?_⟩
    intro S hS
    have npS : p ≠ S := fun z => by rw [← z, upd_same] at hS; cases hS
    have hS1 : H1 S = none := by rw [upd_ne npS.symm] at hS; exact hS
    have npL : p ≠ L := ne_of_none hp hL0
    have hlen := putF_len "row" (V.ref L) fs
    refine ⟨_, rfl, p, C, dx, _, rfl, by rw [upd_ne npS, upd_same], TC.cl, TC.nS, by omega, ?_⟩
    refine k L S _ hL0 (s1.free hS1) (ne_of_none hL1 hS1) (fun b z e hb => ?_) upd_same ?_ ?_
    · rw [upd_ne hb, upd_ne (ne_of_none (s1 _ _ e) hS1), upd_ne hb]
      exact s1 _ _ e
    · rw [upd_ne npL.symm, upd_ne (ne_of_none hL1 hS1), upd_ne npL.symm]
      exact hL1
    · rw [upd_ne npS.symm, upd_same]
end
end Cl
end
section
set_option Elab.async false
set_option linter.all false
set_option maxRecDepth 100000
set_option maxHeartbeats 4000000
namespace Cl
open PySem PySem.Spec PyProof.Rows L2 CM
open Kh297 (Abs doing begun)
theorem due_of {a : Abs} {c : Kh297.Call} {r : Abs × List Kh297.Ev × Kh297.Ans} (h : doing a c = r) : due a c = r.2.2.value :: ((r.2.1.flatMap fun e => [(e.user : Int), (e.level : Int), (e.k : Int)]) ++ r.2.2.out) := by
  subst h
  rfl
theorem rel_nil : Rel [] [] [] := ⟨.nil, fun x hx => by simp at hx, .refl _, .refl _, by decide⟩
theorem lookup_none_fs {fs : List (Str × V)} (h : fs = [] ∨ ∃ R Kk L S, fs = flds R Kk L S) {m : Str} (h1 : ¬ m = "rates") (h2 : ¬ m = "ks") (h3 : ¬ m = "row") (h4 : ¬ m = "said") : fs.lookup m = none := by
  rcases h with rfl | ⟨R, Kk, L, S, rfl⟩
  · rfl
  · exact flds_no _ _ _ _ h1 h2 h3 h4
theorem fs_len {fs : List (Str × V)} (h : fs = [] ∨ ∃ R Kk L S, fs = flds R Kk L S) : fs.length ≤ 4 := by
  rcases h with rfl | ⟨R, Kk, L, S, rfl⟩
  · decide
  · exact Nat.le_refl _
section
variable {P : Program} {w : World} {K : PySem.W.Frag} {mg : Str → Option Value} {base : Heap}
def spBegin (C : Addr) : Sp := fun vs H Q _ => ∃ (p dx : Addr) (fs : List (Str × V)), vs = [.ref p] ∧ H p = some (.ins C dx fs) ∧ (fs = [] ∨ ∃ R Kk L S, fs = flds R Kk L S) ∧ ∀ (R Kk L S q : Addr) (H' : Hp), H R = none → H Kk = none → H L = none → H S = none → H q = none → LineAt C H' p R Kk L S begun [] [] →
  (∀ b z, H b = some z → b ≠ p → H' b = some z) → H' q = some (lI [0]) → Q (.ref q) H'
theorem scBegin : FnScope ["self"] ["self"] (defScope sBegin) := ⟨rfl, rfl, rfl, by decide +kernel, rfl, by decide +kernel, by decide +kernel⟩
theorem ok_begin {f f1 C : Addr} {fd fd1 : FuncData} (F : Fun K "begin" "SharedLine.begin" sBegin f fd) (T : Txt K mg) (TC : TxtC K mg C) (G : FnOk P w K mg base CX0 1 f1 fd1 ["self"] (spClear C)) (bG : Binds K fd1 ["self"] []) (mG : Meth K C "clear_line" f1) : FnOk P w K mg base CX0 2 f fd ["self"] (spBegin C) := by
  refine F.ok scBegin (fun vs H Q E h => ?_) (fun cdv A outer s H vs Q E hr h => ?_)
  · obtain ⟨p, dx, fs, rfl, _⟩ := h
    rfl
  · obtain ⟨p, dx, fs, rfl, hp, hfs, k⟩ := h
    obtain ⟨tD, hD⟩ := T.done
    refine ⟨_, pss_cons (ps_fld (pv 0) pe_dnewK rfl) (pss_cons (ps_fld (pv 0) pe_dnewK rfl) (pss_cons (ps_expr (pe_meth0 (pv 0) TC.cl mG G hr bG .nil pass0)) (pss_one (ps_ret (pe_lst (pa_cons (pe_glob (v := .int 0) rfl hD ⟨tD, rfl⟩) pa_nil)))))), ?_⟩
    have hlen := fs_len hfs
    have l1 := putF_len "rates"
    have l2 := putF_len "ks"
    intro R hR
    have npR : p ≠ R := ne_of_none hp hR
    refine ⟨_, rfl, p, C, dx, fs, rfl, by rw [upd_ne npR]; exact hp, TC.cl, TC.nR, by omega, ?_⟩
    intro Kk hKk
    have npK : p ≠ Kk := fun z => by rw [← z, upd_same] at hKk; cases hKk
    have hKk1 : upd H R (.dK []) Kk = none := by rw [upd_ne npK.symm] at hKk; exact hKk
    have nRK : R ≠ Kk := fun z => by rw [← z, upd_same] at hKk1; cases hKk1
    have hKk0 : H Kk = none := (same_new hR).free hKk1
    refine ⟨_, rfl, p, C, dx, _, rfl, by rw [upd_ne npK, upd_same], TC.cl, TC.nK, by have := l1 (.ref R) fs; omega, ?_⟩
    generalize hH1 : upd (upd (upd (upd H R (.dK [])) p (.ins C dx (putF "rates" (.ref R) fs))) Kk (.dK [])) p (.ins C dx (putF "ks" (.ref Kk) (putF "rates" (.ref R) fs))) = H1
    have hp1 : H1 p = some (.ins C dx (putF "ks" (.ref Kk) (putF "rates" (.ref R) fs))) := by rw [← hH1, upd_same]
    have hR1 : H1 R = some (.dK []) := by rw [← hH1, upd_ne npR.symm, upd_ne nRK, upd_ne npR.symm, upd_same]
    have hK1 : H1 Kk = some (.dK []) := by rw [← hH1, upd_ne npK.symm, upd_same]
    have k1 : ∀ b z, H b = some z → b ≠ p → H1 b = some z := fun b z e hb => by
      rw [← hH1, upd_ne hb, upd_ne (ne_of_none e hKk0), upd_ne hb, upd_ne (ne_of_none e hR)]
      exact e
    have f1 : ∀ b, H1 b = none → H b = none := fun b hb => by
      cases e : H b with
      | none => rfl
      | some z =>
        by_cases hbp : b = p
        · rw [hbp, hp1] at hb; cases hb
        · rw [k1 b z e hbp] at hb; cases hb
    refine ⟨_, rfl, p, dx, _, rfl, hp1, ?_, p, dx, _, rfl, hp1, by have := l1 (.ref R) fs; have := l2 (.ref Kk) (putF "rates" (.ref R) fs); omega, fun L S H2 hL hS nLS k2 hp2 hL2 hS2 => ?_⟩
    · rw [lookup_putF, if_neg (by decide +kernel), lookup_putF, if_neg (by decide +kernel)]
      exact lookup_none_fs hfs (by decide +kernel) (by decide +kernel) (by decide +kernel) (by decide +kernel)
    · rw [put_all hfs] at hp2
      refine ⟨by show 1 ≤ sizeLine; decide, fun q hq => ?_⟩
      have hq1 : H1 q = none := by
        cases e : H1 q with
        | none => rfl
        | some z =>
          by_cases hb : q = p
          · rw [hb, hp2] at hq; cases hq
          · rw [k2 q z e hb] at hq; cases hq
      have hR2 := k2 _ _ hR1 npR.symm
      have hK2 := k2 _ _ hK1 npK.symm
      have D2 : LineAt C H2 p R Kk L S begun [] [] := ⟨⟨dx, hp2⟩, hR2, hK2, hL2, hS2, nRK, ne_of_none hR1 hS, ne_of_none hK1 hS, rel_nil, by decide⟩
      refine k R Kk L S q _ hR hKk0 (f1 _ hL) (f1 _ hS) (f1 _ hq1) (D2.mono (same_new hq)) (fun b z e hb => ?_) upd_same
      exact same_new hq _ _ (k2 _ _ (k1 b z e hb) hb)
def spInit (C : Addr) : Sp := fun vs H Q _ => ∃ (p dx : Addr), vs = [.ref p] ∧ H p = some (.ins C dx []) ∧ ∀ (R Kk L S : Addr) (H' : Hp), H R = none → H Kk = none → H L = none → H S = none → LineAt C H' p R Kk L S begun [] [] → (∀ b z, H b = some z → b ≠ p → H' b = some z) → Q .non H'
theorem scInit : FnScope ["self"] ["self"] (defScope sInit) := ⟨rfl, rfl, rfl, by decide +kernel, rfl, by decide +kernel, by decide +kernel⟩
theorem ok_init {f f1 C : Addr} {fd fd1 : FuncData} (F : Fun K "__init__" "SharedLine.__init__" sInit f fd) (TC : TxtC K mg C) (G : FnOk P w K mg base CX0 2 f1 fd1 ["self"] (spBegin C)) (bG : Binds K fd1 ["self"] []) (mG : Meth K C "begin" f1) : FnOk P w K mg base CX0 3 f fd ["self"] (spInit C) := by
  refine F.ok scInit (fun vs H Q E h => ?_) (fun cdv A outer s H vs Q E hr h => ?_)
  · obtain ⟨p, dx, rfl, _⟩ := h
    rfl
  · obtain ⟨p, dx, rfl, hp, k⟩ := h
    refine ⟨_, pss_one (ps_expr (pe_meth0 (pv 0) TC.cl mG G hr bG .nil pass0)), ?_⟩
    refine ⟨_, rfl, p, dx, _, rfl, hp, rfl, p, dx, _, rfl, hp, .inl rfl, fun R Kk L S q H' hR hK hL hS hq D k2 _ => ?_⟩
    exact k R Kk L S H' hR hK hL hS D k2
def spCode (C PT : Addr) : Sp := fun vs H Q _ => ∃ (p R Kk L S : Addr) (a : Abs) (rs ks : List (Nat × Nat)) (u : Nat), vs = [.ref p, .int (u : Int)] ∧ LineAt C H p R Kk L S a rs ks ∧ LamOk PT lamPos lamQual H ∧ After C PT H p R Kk L S (doing a (.code u)).1 (due a (.code u)) Q
theorem scCode : FnScope ["self", "user"] ["self", "user"] (defScope sCode) := ⟨rfl, rfl, rfl, by decide +kernel, rfl, by decide +kernel, by decide +kernel⟩
theorem ok_code {f f1 C PT : Addr} {fd fd1 : FuncData} (F : Fun K "code_of" "SharedLine.code_of" sCode f fd) (T : Txt K mg) (TC : TxtC K mg C) (G : FnOk P w K mg base CX0 1 f1 fd1 ["rate"] spLevel) (bG : Binds K fd1 ["rate"] []) (mG : mg "level_of" = some (.ref f1)) (kG : PySem.W.keepIn K (.ref f1) = true) :
    FnOk P w K mg base CX0 2 f fd ["self", "user"] (spCode C PT) := by
  refine F.ok scCode (fun vs H Q E h => ?_) (fun cdv A outer s H vs Q E hr h => ?_)
  · obtain ⟨p, R, Kk, L, S, a, rs, ks, u, rfl, _⟩ := h
    rfl
  · obtain ⟨p, R, Kk, L, S, a, rs, ks, u, rfl, D, lam, k⟩ := h
    obtain ⟨tL, hL⟩ := T.last
    obtain ⟨tW, hW⟩ := T.wrong
    obtain ⟨tN, hN⟩ := T.noCode
    obtain ⟨tD, hD⟩ := T.done
    have hu := hu_of hr
    refine ⟨_, pss_cons (ps_if (pt_cmpR op_gt (pv 1) (pe_glob (v := .int 255) rfl hL ⟨tL, rfl⟩) (nomark _)) (pss_one (ps_ret (pe_lst (pa_cons (pe_glob (v := .int (-22)) rfl hW ⟨tW, rfl⟩) pa_nil)))) pss_nil)
      (pss_cons (ps_if (pt_cmp (pc_dnotin hu (pv 1) (pe_fld (pv 0) rfl))) (pss_one (ps_ret (pe_lst (pa_cons (pe_glob (v := .int (-2)) rfl hN ⟨tN, rfl⟩) pa_nil)))) pss_nil)
      (pss_one (ps_ret (pe_lst (pa_cons (pe_glob (v := .int 0) rfl hD ⟨tD, rfl⟩) (pa_cons (pe_call G hr rfl mG kG bG .nil pass0 (pa_cons (pe_dget hu (pe_fld (pv 0) rfl) (pv 1) (fun _ _ => rfl)) pa_nil)) (pa_cons (pe_dget hu (pe_fld (pv 0) rfl) (pv 1) (fun _ _ => rfl)) pa_nil))))))), ?_⟩
    obtain ⟨dx, hob⟩ := D.ob
    refine ⟨_, rfl, _, _, rfl, rfl, _, rfl, ?_⟩
    refine ite2 (fun h1 => ?_) (fun h1 => ?_)
    · have h1' : 255 < u := by have := of_decide_eq_true h1; omega
      have e : doing a (.code u) = (a, [], Kh297.say (-22)) := if_pos h1'
      rw [due_of e, e] at k
      exact ⟨by show 1 ≤ sizeLine; decide, fun q hq => k.one D lam rfl rfl (Same.refl _) hq⟩
    have h1' : ¬ 255 < u := fun z => h1 (decide_eq_true (by omega))
    refine ⟨_, rfl, _, rfl, p, C, dx, _, _, rfl, hob, TC.cl, TC.nR, flds_rates .., R, _, rfl, DGet.k (k := Sum.inl (u : Int)) D.hR, _, rfl, ?_⟩
    have hr' := D.rel.rate_at u
    have hk' := D.rel.k_at u
    rw [← has_lookup] at hr' hk'
    rw [valV_dN, hr']
    cases hc : a.has u with
    | none =>
      have e : doing a (.code u) = (a, [], Kh297.say (-2)) := by
        show (if 255 < u then _ else match a.has u with | none => _ | some c => _) = _
        rw [if_neg h1', hc]
      rw [due_of e, e] at k
      exact iteT ⟨by show 1 ≤ sizeLine; decide, fun q hq => k.one D lam rfl rfl (Same.refl _) hq⟩
    | some c =>
      have e : doing a (.code u) = (a, [], ⟨0, [(c.level : Int), (c.k : Int)]⟩) := by
        show (if 255 < u then _ else match a.has u with | none => _ | some c => _) = _
        rw [if_neg h1', hc]
      rw [due_of e, e] at k
      rw [hc] at hr' hk'
      have hmem : (u, c) ∈ a.codes := by rw [has_lookup] at hc; exact (lookup_mem D.rel.nd).mpr hc
      have hok := (D.rel.ok _ hmem).2.1
      have g1 : DGet H R (V.int (u : Int)) (some (V.int ((wid c.level : Nat) : Int))) := by
        have := DGet.k (k := Sum.inl (u : Int)) D.hR
        rw [valV_dN, hr'] at this
        exact this
      have g2 : DGet H Kk (V.int (u : Int)) (some (V.int ((c.k : Nat) : Int))) := by
        have := DGet.k (k := Sum.inl (u : Int)) D.hK
        rw [valV_dN, hk'] at this
        exact this
      refine iteF ?_
      refine ⟨_, rfl, p, C, dx, _, _, rfl, hob, TC.cl, TC.nR, flds_rates .., _, rfl, R, _, rfl, g1, _, _, rfl, levels_wid hok, ?_⟩
      refine ⟨_, rfl, p, C, dx, _, _, rfl, hob, TC.cl, TC.nK, flds_ks .., _, rfl, Kk, _, rfl, g2, ?_⟩
      exact ⟨by show 3 ≤ sizeLine; decide, fun q hq => k.still D lam rfl (same_new hq) hq upd_same⟩
end
end Cl
end
section
set_option Elab.async false
set_option linter.all false
set_option maxRecDepth 100000
set_option maxHeartbeats 4000000
namespace Cl
open PySem PySem.Spec PyProof.Rows L2 CM
open Kh297 (Abs doing begun levelOf)
theorem drop_dN (u : Nat) : ∀ m : List (Nat × Nat), dropK (dN m) (Sum.inl (u : Int)) = dN (m.filter fun x => x.1 != u)
  | [] => rfl
  | (a, b) :: m => by
    show dropK ((Sum.inl (a : Int), V.int (b : Int)) :: dN m) (Sum.inl (u : Int)) = _
    by_cases h : a = u
    · subst h
      rw [dropK_pos rfl, drop_dN a m, List.filter_cons]
      simp
    · rw [dropK_neg (fun z => h (Int.ofNat.inj (Sum.inl.inj z))), drop_dN u m, List.filter_cons]
      have : ((a, b).1 != u) = true := by simpa using h
      rw [if_pos this]
      rfl
theorem valV_dB (u : Nat) : ∀ l : List Nat, valV (dB l) (Sum.inl (u : Int)) = if u ∈ l then some (V.bl true) else none
  | [] => rfl
  | a :: l => by
    show valV ((Sum.inl (a : Int), V.bl true) :: dB l) (Sum.inl (u : Int)) = _
    by_cases h : a = u
    · subst h
      rw [valV_pos rfl, if_pos (List.mem_cons_self ..)]
    · rw [valV_neg (fun z => h (Int.ofNat.inj (Sum.inl.inj z))), valV_dB u l]
      have e : (u ∈ a :: l) ↔ u ∈ l := by
        rw [List.mem_cons]
        exact ⟨fun z => z.resolve_left fun q => h q.symm, .inr⟩
      simp only [e]
section
variable {P : Program} {w : World} {K : PySem.W.Frag} {mg : Str → Option Value} {base : Heap}
def spClose (C PT : Addr) : Sp := fun vs H Q _ => ∃ (p R Kk L S : Addr) (a : Abs) (rs ks : List (Nat × Nat)) (u : Nat), vs = [.ref p, .int (u : Int)] ∧ LineAt C H p R Kk L S a rs ks ∧ LamOk PT lamPos lamQual H ∧ After C PT H p R Kk L S (doing a (.close u)).1 (due a (.close u)) Q
theorem scClose : FnScope ["self", "user"] ["self", "user"] (defScope sClose) := ⟨rfl, rfl, rfl, by decide +kernel, rfl, by decide +kernel, by decide +kernel⟩
theorem ok_close {f C PT : Addr} {fd : FuncData} (F : Fun K "close_user" "SharedLine.close_user" sClose f fd) (T : Txt K mg) (TC : TxtC K mg C) : FnOk P w K mg base CX0 1 f fd ["self", "user"] (spClose C PT) := by
  refine F.ok scClose (fun vs H Q E h => ?_) (fun cdv A outer s H vs Q E hr h => ?_)
  · obtain ⟨p, R, Kk, L, S, a, rs, ks, u, rfl, _⟩ := h
    rfl
  · obtain ⟨p, R, Kk, L, S, a, rs, ks, u, rfl, D, lam, k⟩ := h
    obtain ⟨tL, hL⟩ := T.last
    obtain ⟨tW, hW⟩ := T.wrong
    obtain ⟨tN, hN⟩ := T.noCode
    obtain ⟨tD, hD⟩ := T.done
    obtain ⟨tS, hS⟩ := T.said
    have hu := hu_of hr
    refine ⟨_, pss_cons (ps_if (pt_cmpR op_gt (pv 1) (pe_glob (v := .int 255) rfl hL ⟨tL, rfl⟩) (nomark _)) (pss_one (ps_ret (pe_lst (pa_cons (pe_glob (v := .int (-22)) rfl hW ⟨tW, rfl⟩) pa_nil)))) pss_nil)
      (pss_cons (ps_if (pt_cmpR op_gt (pe_callB call_lenD (by rfl) T.len PySem.boot_len (pa_cons (pe_fld (pv 0) rfl) pa_nil)) pe_int (nomark _)) (pss_one (ps_ret (pe_lst (pa_cons (pe_glob (v := .int (-16)) rfl hS ⟨tS, rfl⟩) pa_nil)))) pss_nil)
      (pss_cons (ps_if (pt_cmp (pc_dnotin hu (pv 1) (pe_fld (pv 0) rfl))) (pss_one (ps_ret (pe_lst (pa_cons (pe_glob (v := .int (-2)) rfl hN ⟨tN, rfl⟩) pa_nil)))) pss_nil)
      (pss_cons (ps_expr (pe_dpop1 (pe_fld (pv 0) rfl) (pv 1) ⟨rfl, rfl, rfl, rfl⟩))
      (pss_cons (ps_expr (pe_dpop1 (pe_fld (pv 0) rfl) (pv 1) ⟨rfl, rfl, rfl, rfl⟩))
      (pss_one (ps_ret (pe_lst (pa_cons (pe_glob (v := .int 0) rfl hD ⟨tD, rfl⟩) pa_nil)))))))), ?_⟩
    obtain ⟨dx, hob⟩ := D.ob
    refine ⟨_, rfl, _, _, rfl, rfl, _, rfl, ?_⟩
    refine ite2 (fun h1 => ?_) (fun h1 => ?_)
    · have h1' : 255 < u := by have := of_decide_eq_true h1; omega
      have e : doing a (.close u) = (a, [], Kh297.say (-22)) := if_pos h1'
      rw [due_of e, e] at k
      exact ⟨by show 1 ≤ sizeLine; decide, fun q hq => k.one D lam rfl rfl (Same.refl _) hq⟩
    have h1' : ¬ 255 < u := fun z => h1 (decide_eq_true (by omega))
    have e1 : doing a (.close u) = (if a.said ≠ [] then (a, [], Kh297.say (-16)) else if (a.has u).isNone then (a, [], Kh297.say (-2)) else ({ a with codes := a.codes.filter fun x => x.1 != u }, [], Kh297.say 0)) := if_neg h1'
    refine ⟨_, rfl, p, C, dx, _, _, rfl, hob, TC.cl, TC.nS, flds_said .., S, _, rfl, D.hS, _, _, rfl, rfl, _, rfl, ?_⟩
    have hlen : (dB a.said.reverse).length = a.said.length := by unfold dB; rw [List.length_map, List.length_reverse]
    refine ite2 (fun h2 => ?_) (fun h2 => ?_)
    · have h2' : a.said ≠ [] := by
        have := of_decide_eq_true h2
        intro z
        rw [hlen, z, List.length_nil] at this
        omega
      rw [if_pos h2'] at e1
      rw [due_of e1, e1] at k
      exact ⟨by show 1 ≤ sizeLine; decide, fun q hq => k.one D lam rfl rfl (Same.refl _) hq⟩
    have h2' : ¬ a.said ≠ [] := fun z => h2 (decide_eq_true (by
      have : 0 < a.said.length := List.length_pos_iff.mpr z
      rw [hlen]
      omega))
    rw [if_neg h2'] at e1
    refine ⟨_, rfl, _, rfl, p, C, dx, _, _, rfl, hob, TC.cl, TC.nR, flds_rates .., R, _, rfl, DGet.k (k := Sum.inl (u : Int)) D.hR, _, rfl, ?_⟩
    have hr' := D.rel.rate_at u
    have hk' := D.rel.k_at u
    rw [← has_lookup] at hr' hk'
    rw [valV_dN, hr']
    cases hc : a.has u with
    | none =>
      rw [hc, if_pos (by decide)] at e1
      rw [due_of e1, e1] at k
      exact iteT ⟨by show 1 ≤ sizeLine; decide, fun q hq => k.one D lam rfl rfl (Same.refl _) hq⟩
    | some c =>
      rw [hc, if_neg (by intro z; cases z)] at e1
      rw [due_of e1, e1] at k
      rw [hc] at hr' hk'
      have npR : p ≠ R := ne_of hob D.hR (by intro z; cases z)
      have npK : p ≠ Kk := ne_of hob D.hK (by intro z; cases z)
      have npS : p ≠ S := ne_of hob D.hS (by intro z; cases z)
      have nRL : R ≠ L := ne_of D.hR D.hL (by intro z; cases z)
      have nKL : Kk ≠ L := ne_of D.hK D.hL (by intro z; cases z)
      have g1 : valV (dN rs) (Sum.inl (u : Int)) = some (V.int ((wid c.level : Nat) : Int)) := by rw [valV_dN, hr']; rfl
      have g2 : valV (dN ks) (Sum.inl (u : Int)) = some (V.int ((c.k : Nat) : Int)) := by rw [valV_dN, hk']; rfl
      refine iteF ?_
      refine ⟨_, rfl, p, C, dx, _, _, rfl, hob, TC.cl, TC.nR, flds_rates .., R, rfl, .inl ⟨_, .inl D.hR⟩, _, rfl, dN rs, Sum.inl (u : Int), _, D.hR, rfl, g1, ?_⟩
      rw [drop_dN]
      have hK1 : ∀ o, upd H R o Kk = some (.dK (dN ks)) := fun o => by rw [upd_ne D.rk.symm]; exact D.hK
      refine ⟨_, rfl, p, C, dx, _, _, rfl, by rw [upd_ne npR]; exact hob, TC.cl, TC.nK, flds_ks .., Kk, rfl, .inl ⟨_, .inl (hK1 _)⟩, _, rfl, dN ks, Sum.inl (u : Int), _, hK1 _, rfl, g2, ?_⟩
      rw [drop_dN]
      have hD2 : LineAt C (upd (upd H R (.dK (dN (rs.filter fun x => x.1 != u)))) Kk (.dK (dN (ks.filter fun x => x.1 != u)))) p R Kk L S { a with codes := a.codes.filter fun x => x.1 != u } (rs.filter fun x => x.1 != u) (ks.filter fun x => x.1 != u) :=
        ⟨⟨dx, by rw [upd_ne npK, upd_ne npR]; exact hob⟩, by rw [upd_ne D.rk, upd_same], upd_same, by rw [upd_ne nKL.symm, upd_ne nRL.symm]; exact D.hL, by rw [upd_ne D.kS.symm, upd_ne D.rS.symm]; exact D.hS, D.rk, D.rS, D.kS, D.rel.close u, D.len⟩
      have k2 : ∀ b z, H b = some z → ¬ Own p R Kk S b → (upd (upd H R (.dK (dN (rs.filter fun x => x.1 != u)))) Kk (.dK (dN (ks.filter fun x => x.1 != u)))) b = some z := fun b z e hb => by
        rw [upd_ne (fun z => hb (.inr (.inr (.inl z)))), upd_ne (fun z => hb (.inr (.inl z)))]
        exact e
      have lam2 := lam.mono_own (D := Own p R Kk S) k2 D.own
      generalize upd (upd H R (.dK (dN (rs.filter fun x => x.1 != u)))) Kk (.dK (dN (ks.filter fun x => x.1 != u))) = H2 at *
      refine ⟨by show 1 ≤ sizeLine; decide, fun q hq => ?_⟩
      have hq0 : H q = none := by
        cases e : H q with
        | none => rfl
        | some z =>
          by_cases ho : Own p R Kk S q
          · exfalso
            rcases ho with rfl | rfl | rfl | rfl
            · obtain ⟨_, h⟩ := hD2.ob; rw [h] at hq; cases hq
            · rw [hD2.hR] at hq; cases hq
            · rw [hD2.hK] at hq; cases hq
            · rw [hD2.hS] at hq; cases hq
          · rw [k2 q z e ho] at hq; cases hq
      exact k _ R Kk L S q _ _ (hD2.mono (same_new hq)) (lam2.mono (same_new hq)) (fun b z e hb _ => same_new hq _ _ (k2 b z e hb)) (fun b hb => .inl hb) (.inl rfl) upd_same hq0
def spTell (C PT : Addr) : Sp := fun vs H Q _ => ∃ (p R Kk L S : Addr) (a : Abs) (rs ks : List (Nat × Nat)), vs = [.ref p] ∧ LineAt C H p R Kk L S a rs ks ∧ LamOk PT lamPos lamQual H ∧ After C PT H p R Kk L S (doing a .line).1 (due a .line) Q
theorem scTell : FnScope ["self", "answer"] ["self"] (defScope sTell) := ⟨rfl, rfl, rfl, by decide +kernel, rfl, by decide +kernel, by decide +kernel⟩
theorem ok_tell {f f1 C PT : Addr} {fd fd1 : FuncData} (F : Fun K "tell_line" "SharedLine.tell_line" sTell f fd) (T : Txt K mg) (TC : TxtC K mg C) (G : FnOk P w K mg base CX0 1 f1 fd1 ["self"] (spClear C)) (bG : Binds K fd1 ["self"] []) (mG : Meth K C "clear_line" f1) : FnOk P w K mg base CX0 2 f fd ["self"] (spTell C PT) := by
  refine F.ok scTell (fun vs H Q E h => ?_) (fun cdv A outer s H vs Q E hr h => ?_)
  · obtain ⟨p, R, Kk, L, S, a, rs, ks, rfl, _⟩ := h
    rfl
  · obtain ⟨p, R, Kk, L, S, a, rs, ks, rfl, D, lam, k⟩ := h
    have nd := scTell.nd
    refine ⟨_, pss_cons (ps_set (i := 1) nd rfl (Or.inl rfl) (pe_op op_cat (pe_lst (pa_cons (pe_callB call_lenD (by rfl) T.len PySem.boot_len (pa_cons (pe_fld (pv 0) rfl) pa_nil)) pa_nil)) (pe_fld (pv 0) rfl)))
      (pss_cons (ps_expr (pe_meth0 (pv 0) TC.cl mG G hr bG .nil pass0)) (pss_one (ps_ret (pv 1)))), ?_⟩
    obtain ⟨dx, hob⟩ := D.ob
    have hlen : (dB a.said.reverse).length = a.said.length := by unfold dB; rw [List.length_map, List.length_reverse]
    refine ⟨_, rfl, p, C, dx, _, _, rfl, hob, TC.cl, TC.nS, flds_said .., S, _, rfl, D.hS, by show 1 ≤ sizeLine; decide, fun l hl => ?_⟩
    rw [hlen]
    have s1 : Same H (upd H l (.lst [V.int (a.said.length : Int)])) := same_new hl
    refine ⟨_, rfl, p, C, dx, _, _, rfl, s1 _ _ hob, TC.cl, TC.nL, flds_row .., l, L, _, _, rfl, rfl, upd_same, s1 _ _ D.hL, ?_, fun q hq => ?_⟩
    · rw [List.length_map, D.len]
      show 1 + 256 ≤ sizeLine
      decide
    have hq0 : H q = none := s1.free hq
    have s2 : Same H (upd (upd H l (.lst [V.int (a.said.length : Int)])) q (.lst ([V.int (a.said.length : Int)] ++ a.line.map V.int))) := s1.trans (same_new hq)
    have hqa : upd (upd H l (.lst [V.int (a.said.length : Int)])) q (.lst ([V.int (a.said.length : Int)] ++ a.line.map V.int)) q = some (lI ((a.said.length : Int) :: a.line)) := upd_same
    generalize upd (upd H l (.lst [V.int (a.said.length : Int)])) q (.lst ([V.int (a.said.length : Int)] ++ a.line.map V.int)) = H1 at *
    have D1 := D.mono s2
    have hob1 := s2 _ _ hob
    refine ⟨_, rfl, p, dx, _, rfl, hob1, flds_no _ _ _ _ (by decide +kernel) (by decide +kernel) (by decide +kernel) (by decide +kernel), p, dx, _, rfl, hob1, by show 4 < 900; decide, fun L2 S2 H2 hL2 hS2 nLS k2 hp2 hL3 hS3 => ?_⟩
    rw [put_flds_row, put_flds_said] at hp2
    have npR : p ≠ R := ne_of hob D.hR (by intro z; cases z)
    have npK : p ≠ Kk := ne_of hob D.hK (by intro z; cases z)
    have npq : p ≠ q := ne_of_none hob hq0
    have D2 : LineAt C H2 p R Kk L2 S2 { a with line := Kh297.zeros, said := [] } rs ks :=
      ⟨⟨dx, hp2⟩, k2 _ _ D1.hR npR.symm, k2 _ _ D1.hK npK.symm, hL3, hS3, D.rk, ne_of_none D1.hR hS2, ne_of_none D1.hK hS2, D.rel, by show Kh297.zeros.length = 256; decide⟩
    have kk : ∀ b z, H b = some z → ¬ Own p R Kk S b → H2 b = some z := fun b z e hb => k2 _ _ (s2 _ _ e) fun z => hb (.inl z)
    refine ⟨_, rfl, k H2 R Kk L2 S2 q rs ks D2 (lam.mono_own (D := Own p R Kk S) kk D.own) (fun b z e hb _ => kk b z e hb) (fun b hb => ?_) (.inr (s2.free hL2)) ?_ hq0⟩
    · rcases hb with rfl | rfl | rfl | rfl
      · exact .inl (.inl rfl)
      · exact .inl (.inr (.inl rfl))
      · exact .inl (.inr (.inr (.inl rfl)))
      · exact .inr (s2.free hS2)
    · rw [k2 _ _ hqa npq.symm]
      rfl
end
end Cl
end
section
set_option Elab.async false
set_option linter.all false
set_option maxRecDepth 100000
set_option maxHeartbeats 4000000
namespace Cl
open PySem PySem.Spec PyProof.Rows L2 CM
open Kh297 (Abs doing begun levelOf)
theorem isRate_eq (r : Nat) : (levels.lookup (r : Int)).isSome = (levelOf r).isSome := by
  rw [← levelOf_eq, Option.isSome_map]
theorem put_dB {l : List Nat} {u : Nat} (h : u ∉ l) : putK (dB l) (Sum.inl (u : Int)) (V.bl true) = dB (l ++ [u]) := by
  rw [putK_new _ (by rw [valV_dB, if_neg h])]
  unfold dB
  rw [List.map_append]
  rfl
section
variable {P : Program} {w : World} {K : PySem.W.Frag} {mg : Str → Option Value} {base : Heap}
def spSay (C PT : Addr) : Sp := fun vs H Q _ => ∃ (p R Kk L S b : Addr) (a : Abs) (rs ks : List (Nat × Nat)) (u r : Nat) (v : List Int), vs = [.ref p, .int (u : Int), .int (r : Int), .ref b] ∧ H b = some (lI v) ∧ ((levelOf r).isSome = true → v.length = r) ∧ v.length ≤ 256 ∧ a.said.length < 1000 ∧
  LineAt C H p R Kk L S a rs ks ∧ LamOk PT lamPos lamQual H ∧ After C PT H p R Kk L S (doing a (.say u r v)).1 (due a (.say u r v)) Q
theorem scSay : FnScope ["self", "user", "rate", "symbols"] ["self", "user", "rate", "symbols"] (defScope sSay) := ⟨rfl, rfl, rfl, by decide +kernel, rfl, by decide +kernel, by decide +kernel⟩
theorem ok_say {f f1 f2 f3 f4 C PT : Addr} {fd fd1 fd2 fd3 fd4 : FuncData} (F : Fun K "say" "SharedLine.say" sSay f fd) (T : Txt K mg) (TC : TxtC K mg C)
    (G1 : FnOk P w K mg base CX0 1 f1 fd1 ["number"] spIsRate) (b1 : Binds K fd1 ["number"] []) (m1 : mg "is_rate" = some (.ref f1)) (k1 : PySem.W.keepIn K (.ref f1) = true)
    (G2 : FnOk P w K mg base CX0 1 f2 fd2 ["rate"] spLevel) (b2 : Binds K fd2 ["rate"] []) (m2 : mg "level_of" = some (.ref f2)) (k2 : PySem.W.keepIn K (.ref f2) = true)
    (G3 : FnOk P w K mg base CX0 1 f3 fd3 ["numbers", "most"] spWithin) (b3 : Binds K fd3 ["numbers", "most"] []) (m3 : mg "are_within" = some (.ref f3)) (k3 : PySem.W.keepIn K (.ref f3) = true)
    (G4 : FnOk P w K mg base CX0 2 f4 fd4 ["row", "level", "k", "symbols"] spLaid) (b4 : Binds K fd4 ["row", "level", "k", "symbols"] []) (m4 : mg "laid" = some (.ref f4)) (k4 : PySem.W.keepIn K (.ref f4) = true) :
    FnOk P w K mg base CX0 3 f fd ["self", "user", "rate", "symbols"] (spSay C PT) := by
  refine F.ok scSay (fun vs H Q E h => ?_) (fun cdv A outer s H vs Q E hr h => ?_)
  · obtain ⟨p, R, Kk, L, S, b, a, rs, ks, u, r, v, rfl, _⟩ := h
    rfl
  · obtain ⟨p, R, Kk, L, S, b, a, rs, ks, u, r, v, rfl, hb, hv, hv2, hsl, D, lam, k⟩ := h
    obtain ⟨tL, hL⟩ := T.last
    obtain ⟨tW, hW⟩ := T.wrong
    obtain ⟨tN, hN⟩ := T.noCode
    obtain ⟨tO, hO⟩ := T.otherRate
    obtain ⟨tF, hF⟩ := T.tooFar
    obtain ⟨tM, hM⟩ := T.mostSaid
    obtain ⟨tD, hD⟩ := T.done
    obtain ⟨tS, hS⟩ := T.said
    have hu := hu_of hr
    have hr1 : Room 1 _ := hr.mono (by decide)
    refine ⟨_, pss_cons (ps_if (PW.pt (pw_or (pt_cmpR op_gt (pv 1) (pe_glob (v := .int 255) rfl hL ⟨tL, rfl⟩) (nomark _)) (pw_or1 (pt_not (pt_val (pe_call G1 hr1 rfl m1 k1 b1 .nil pass0 (pa_cons (pv 2) pa_nil))))))) (pss_one (ps_ret (pe_lst (pa_cons (pe_glob (v := .int (-22)) rfl hW ⟨tW, rfl⟩) pa_nil)))) pss_nil)
      (pss_cons (ps_if (pt_cmp (pc_dnotin hu (pv 1) (pe_fld (pv 0) rfl))) (pss_one (ps_ret (pe_lst (pa_cons (pe_glob (v := .int (-2)) rfl hN ⟨tN, rfl⟩) pa_nil)))) pss_nil)
      (pss_cons (ps_if (pt_cmpR op_ne (pe_dget hu (pe_fld (pv 0) rfl) (pv 1) (fun _ _ => rfl)) (pv 2) (nomark _)) (pss_one (ps_ret (pe_lst (pa_cons (pe_glob (v := .int (-33)) rfl hO ⟨tO, rfl⟩) pa_nil)))) pss_nil)
      (pss_cons (ps_if (pt_cmp (pc_din hu (pv 1) (pe_fld (pv 0) rfl))) (pss_one (ps_ret (pe_lst (pa_cons (pe_glob (v := .int (-16)) rfl hS ⟨tS, rfl⟩) pa_nil)))) pss_nil)
      (pss_cons (ps_if (pt_not (pt_val (pe_call G3 hr1 rfl m3 k3 b3 .nil pass0 (pa_cons (pv 3) (pa_cons (pe_glob (v := .int 2047) rfl hM ⟨tM, rfl⟩) pa_nil))))) (pss_one (ps_ret (pe_lst (pa_cons (pe_glob (v := .int (-34)) rfl hF ⟨tF, rfl⟩) pa_nil)))) pss_nil)
      (pss_cons (ps_fld (pv 0) (pe_call G4 hr rfl m4 k4 b4 .nil pass0 (pa_cons (pe_fld (pv 0) rfl) (pa_cons (pe_call G2 hr1 rfl m2 k2 b2 .nil pass0 (pa_cons (pv 2) pa_nil)) (pa_cons (pe_dget hu (pe_fld (pv 0) rfl) (pv 1) (fun _ _ => rfl)) (pa_cons (pv 3) pa_nil))))) rfl)
      (pss_cons (ps_dput hu (pe_fld (pv 0) rfl) (pv 1) pe_bl rfl)
      (pss_one (ps_ret (pe_lst (pa_cons (pe_glob (v := .int 0) rfl hD ⟨tD, rfl⟩) pa_nil)))))))))), ?_⟩
    obtain ⟨dx, hob⟩ := D.ob
    refine ⟨_, rfl, _, _, rfl, rfl, _, rfl, ?_⟩
    refine ite2 (fun h1 => ?_) (fun h1 => ?_)
    · have h1' : 255 < u := by have := of_decide_eq_true h1; omega
      have e : doing a (.say u r v) = (a, [], Kh297.say (-22)) := if_pos (.inl h1')
      rw [due_of e, e] at k
      exact iteT ⟨by show 1 ≤ sizeLine; decide, fun q hq => k.one D lam rfl rfl (Same.refl _) hq⟩
    have h1' : ¬ 255 < u := fun z => h1 (decide_eq_true (by omega))
    refine ⟨_, rfl, (r : Int), rfl, _, rfl, ?_⟩
    rw [isRate_eq]
    cases hlv : levelOf r with
    | none =>
      have e : doing a (.say u r v) = (a, [], Kh297.say (-22)) := if_pos (.inr (by rw [hlv]; rfl))
      rw [due_of e, e] at k
      exact iteT ⟨by show 1 ≤ sizeLine; decide, fun q hq => k.one D lam rfl rfl (Same.refl _) hq⟩
    | some l =>
    rw [hlv] at hv
    have hvl : v.length = r := hv rfl
    obtain ⟨hl8, hrw⟩ := levelOf_some hlv
    have e0 : doing a (.say u r v) = (match a.has u with
      | none => (a, [], Kh297.say (-2))
      | some c => if Kh297.rate c ≠ r then (a, [], Kh297.say (-33)) else if a.said.contains u then (a, [], Kh297.say (-16)) else if (v.all fun x => decide (-Kh296.MOST ≤ x) && decide (x ≤ Kh296.MOST)) = false then (a, [], Kh297.say (-34)) else ({ a with line := Kh296.lay c v a.line, said := u :: a.said }, [], Kh297.say 0)) :=
      if_neg fun z => z.elim h1' fun z => by rw [hlv] at z; cases z
    refine iteF ?_
    refine ⟨_, rfl, _, rfl, p, C, dx, _, _, rfl, hob, TC.cl, TC.nR, flds_rates .., R, _, rfl, DGet.k (k := Sum.inl (u : Int)) D.hR, _, rfl, ?_⟩
    have hr' := D.rel.rate_at u
    have hk' := D.rel.k_at u
    rw [← has_lookup] at hr' hk'
    rw [valV_dN, hr']
    cases hc : a.has u with
    | none =>
      rw [hc] at e0
      dsimp only at e0
      rw [due_of e0, e0] at k
      exact iteT ⟨by show 1 ≤ sizeLine; decide, fun q hq => k.one D lam rfl rfl (Same.refl _) hq⟩
    | some c =>
    rw [hc] at e0
    dsimp only at e0
    rw [hc] at hr' hk'
    have hmem : (u, c) ∈ a.codes := by rw [has_lookup] at hc; exact (lookup_mem D.rel.nd).mpr hc
    have hok := D.rel.ok _ hmem
    have g1 : DGet H R (V.int (u : Int)) (some (V.int ((wid c.level : Nat) : Int))) := by
      have := DGet.k (k := Sum.inl (u : Int)) D.hR
      rw [valV_dN, hr'] at this
      exact this
    have g2 : ∀ H', Same H H' → DGet H' Kk (V.int (u : Int)) (some (V.int ((c.k : Nat) : Int))) := fun H' s => by
      have := DGet.k (k := Sum.inl (u : Int)) (s _ _ D.hK)
      rw [valV_dN, hk'] at this
      exact this
    refine iteF ?_
    refine ⟨_, rfl, p, C, dx, _, _, rfl, hob, TC.cl, TC.nR, flds_rates .., _, rfl, R, _, rfl, g1, _, rfl, rfl, _, rfl, ?_⟩
    by_cases hrc : wid c.level = r
    · have hcl : c.level = l := wid_inj hok.2.1 hl8 (by rw [hrc, hrw])
      rw [if_neg (show ¬ Kh297.rate c ≠ r from fun z => z hrc)] at e0
      refine iteNS (by rw [hrc]) ?_
      refine ⟨_, rfl, _, rfl, p, C, dx, _, _, rfl, hob, TC.cl, TC.nS, flds_said .., S, _, rfl, DGet.k (k := Sum.inl (u : Int)) D.hS, _, rfl, ?_⟩
      rw [valV_dB]
      by_cases hs : u ∈ a.said
      · rw [if_pos (by simpa using hs)] at e0
        rw [due_of e0, e0] at k
        rw [if_pos (List.mem_reverse.mpr hs)]
        exact iteT ⟨by show 1 ≤ sizeLine; decide, fun q hq => k.one D lam rfl rfl (Same.refl _) hq⟩
      rw [if_neg (by simpa using hs)] at e0
      rw [if_neg (fun z => hs (List.mem_reverse.mp z))]
      refine iteF ?_
      refine ⟨_, rfl, b, v, 2047, rfl, hb, hv2, fun H1 s1 => ?_⟩
      refine ⟨_, rfl, ?_⟩
      have hall : (v.all fun x => decide (-(2047 : Int) ≤ x) && decide (x ≤ 2047)) = (v.all fun x => decide (-Kh296.MOST ≤ x) && decide (x ≤ Kh296.MOST)) := rfl
      rw [hall]
      cases hw : (v.all fun x => decide (-Kh296.MOST ≤ x) && decide (x ≤ Kh296.MOST)) with
      | false =>
        rw [if_pos hw] at e0
        rw [due_of e0, e0] at k
        exact iteT ⟨by show 1 ≤ sizeLine; decide, fun q hq => k.one D lam rfl rfl s1 hq⟩
      | true =>
        rw [if_neg (by rw [hw]; decide)] at e0
        rw [due_of e0, e0] at k
        refine iteF ?_
        have D1 := D.mono s1
        have hob1 := s1 _ _ hob
        have hlw : levels.lookup (r : Int) = some (c.level : Int) := by rw [hrw, hcl]; exact levels_wid hl8
        refine ⟨_, rfl, p, C, dx, _, _, rfl, hob1, TC.cl, TC.nL, flds_row .., ?_⟩
        refine ⟨_, rfl, _, _, rfl, hlw, ?_⟩
        refine ⟨_, rfl, p, C, dx, _, _, rfl, hob1, TC.cl, TC.nK, flds_ks .., _, rfl, Kk, _, rfl, g2 H1 s1, _, rfl, ?_⟩
        refine ⟨L, b, c.level, c.k, a.line, v, rfl, D1.hL, s1 _ _ hb, hok.2.1, hok.2.2, D.len, by rw [hvl, ← hrc], fun H2 q2 s2 hq2 hq3 => ?_⟩
        have s12 := s1.trans s2
        have hob2 := s12 _ _ hob
        have npq : p ≠ q2 := ne_of_none hob1 hq2
        have npS : p ≠ S := ne_of hob D.hS (by intro z; cases z)
        have npR : p ≠ R := ne_of hob D.hR (by intro z; cases z)
        have npK : p ≠ Kk := ne_of hob D.hK (by intro z; cases z)
        have nSq : S ≠ q2 := ne_of_none D1.hS hq2
        have hS2 : ∀ o, upd H2 p o S = some (.dK (dB a.said.reverse)) := fun o => by rw [upd_ne npS.symm]; exact s12 _ _ D.hS
        refine ⟨_, rfl, p, C, dx, _, rfl, hob2, TC.cl, TC.nL, by show 4 < 1000; decide, ?_⟩
        rw [put_flds_row]
        refine ⟨_, rfl, p, C, dx, _, _, rfl, upd_same, TC.cl, TC.nS, flds_said .., _, rfl, S, _, rfl, DPut.k (k := Sum.inl (u : Int)) (hS2 _) ?_, ?_⟩
        · unfold dB
          rw [List.length_map, List.length_reverse]
          exact small1000 (by omega)
        rw [put_dB (fun z => hs (List.mem_reverse.mp z)), ← List.reverse_cons]
        have kk : ∀ b z, H b = some z → ¬ Own p R Kk S b → upd (upd H2 p (.ins C dx (flds R Kk q2 S))) S (.dK (dB (u :: a.said).reverse)) b = some z := fun b z e hb => by
          rw [upd_ne (fun z => hb (.inr (.inr (.inr z)))), upd_ne (fun z => hb (.inl z))]
          exact s12 _ _ e
        have D2 : LineAt C (upd (upd H2 p (.ins C dx (flds R Kk q2 S))) S (.dK (dB (u :: a.said).reverse))) p R Kk q2 S { a with line := Kh296.lay c v a.line, said := u :: a.said } rs ks := by
          refine ⟨⟨dx, by rw [upd_ne npS, upd_same]⟩, ?_, ?_, ?_, upd_same, D.rk, D.rS, D.kS, D.rel, ?_⟩
          · rw [upd_ne D.rS, upd_ne npR.symm]; exact s12 _ _ D.hR
          · rw [upd_ne D.kS, upd_ne npK.symm]; exact s12 _ _ D.hK
          · rw [upd_ne nSq.symm, upd_ne npq.symm]; exact hq3
          · show (Kh296.lay c v a.line).length = 256
            unfold Kh296.lay
            rw [List.length_map, List.length_range]
        have lam2 := lam.mono_own (D := Own p R Kk S) kk D.own
        generalize upd (upd H2 p (.ins C dx (flds R Kk q2 S))) S (.dK (dB (u :: a.said).reverse)) = H3 at *
        refine ⟨by show 1 ≤ sizeLine; decide, fun q hq => ?_⟩
        have hq0 : H q = none := by
          cases e : H q with
          | none => rfl
          | some z =>
            by_cases ho : Own p R Kk S q
            · exfalso
              rcases ho with rfl | rfl | rfl | rfl
              · obtain ⟨_, h⟩ := D2.ob; rw [h] at hq; cases hq
              · rw [D2.hR] at hq; cases hq
              · rw [D2.hK] at hq; cases hq
              · rw [D2.hS] at hq; cases hq
            · rw [kk q z e ho] at hq; cases hq
        exact k _ R Kk q2 S q _ _ (D2.mono (same_new hq)) (lam2.mono (same_new hq)) (fun b z e hb _ => same_new hq _ _ (kk b z e hb)) (fun b hb => .inl hb) (.inr (s1.free hq2)) upd_same hq0
    · rw [if_pos (show Kh297.rate c ≠ r from hrc)] at e0
      rw [due_of e0, e0] at k
      have hne : ¬ (V.int ((wid c.level : Nat) : Int) = V.int (r : Int)) := fun z => hrc (Int.ofNat.inj (intV z))
      have : (!decide (V.int ((wid c.level : Nat) : Int) = V.int (r : Int))) = true := by rw [decide_eq_false hne]; rfl
      rw [if_pos this]
      exact ⟨by show 1 ≤ sizeLine; decide, fun q hq => k.one D lam rfl rfl (Same.refl _) hq⟩
end
end Cl
end
section
set_option Elab.async false
set_option linter.all false
set_option maxRecDepth 100000
set_option maxHeartbeats 4000000
namespace Cl
open PySem PySem.Spec PyProof.Rows L2 CM
open Kh297 (Abs doing begun levelOf)
section
variable {P : Program} {w : World} {K : PySem.W.Frag} {mg : Str → Option Value} {base : Heap}
def spHear (C PT : Addr) : Sp := fun vs H Q _ => ∃ (p R Kk L S b : Addr) (a : Abs) (rs ks : List (Nat × Nat)) (u r : Nat) (v : List Int), vs = [.ref p, .int (u : Int), .int (r : Int), .ref b] ∧ H b = some (lI v) ∧ v.length = 256 ∧
  LineAt C H p R Kk L S a rs ks ∧ LamOk PT lamPos lamQual H ∧ After C PT H p R Kk L S (doing a (.hear u r v)).1 (due a (.hear u r v)) Q
theorem scHear : FnScope ["self", "user", "rate", "row", "size", "sums", "number"] ["self", "user", "rate", "row"] (defScope sHear) := ⟨rfl, rfl, rfl, by decide +kernel, rfl, by decide +kernel, by decide +kernel⟩
theorem div_wid {l : Nat} (h : l ≤ 8) : (256 : Int) / ((wid l : Nat) : Int) = ((2 ^ l : Nat) : Int) := by
  have : l = 0 ∨ l = 1 ∨ l = 2 ∨ l = 3 ∨ l = 4 ∨ l = 5 ∨ l = 6 ∨ l = 7 ∨ l = 8 := by omega
  rcases this with rfl | rfl | rfl | rfl | rfl | rfl | rfl | rfl | rfl <;> decide
theorem ok_hear {f f1 f2 f3 f4 f5 C PT : Addr} {fd fd1 fd2 fd3 fd4 fd5 : FuncData} (F : Fun K "hear" "SharedLine.hear" sHear f fd) (T : Txt K mg) (TC : TxtC K mg C)
    (G1 : FnOk P w K mg base CX0 1 f1 fd1 ["number"] spIsRate) (b1 : Binds K fd1 ["number"] []) (m1 : mg "is_rate" = some (.ref f1)) (k1 : PySem.W.keepIn K (.ref f1) = true)
    (G2 : FnOk P w K mg base CX0 1 f2 fd2 ["rate"] spLevel) (b2 : Binds K fd2 ["rate"] []) (m2 : mg "level_of" = some (.ref f2)) (k2 : PySem.W.keepIn K (.ref f2) = true)
    (G3 : FnOk P w K mg base CX0 1 f3 fd3 ["numbers", "most"] spWithin) (b3 : Binds K fd3 ["numbers", "most"] []) (m3 : mg "are_within" = some (.ref f3)) (k3 : PySem.W.keepIn K (.ref f3) = true)
    (G4 : FnOk P w K mg base CX0 2 f4 fd4 ["row", "level", "k"] spHeard) (b4 : Binds K fd4 ["row", "level", "k"] []) (m4 : mg "heard" = some (.ref f4)) (k4 : PySem.W.keepIn K (.ref f4) = true)
    (G5 : FnOk P w K mg base CX0 1 f5 fd5 ["number", "size"] spNearest) (b5 : Binds K fd5 ["number", "size"] []) (m5 : mg "divided_to_nearest" = some (.ref f5)) (k5 : PySem.W.keepIn K (.ref f5) = true) :
    FnOk P w K mg base CX0 3 f fd ["self", "user", "rate", "row"] (spHear C PT) := by
  refine F.ok scHear (fun vs H Q E h => ?_) (fun cdv A outer s H vs Q E hr h => ?_)
  · obtain ⟨p, R, Kk, L, S, b, a, rs, ks, u, r, v, rfl, _⟩ := h
    rfl
  · obtain ⟨p, R, Kk, L, S, b, a, rs, ks, u, r, v, rfl, hb, hv, D, lam, k⟩ := h
    obtain ⟨tL, hL⟩ := T.last
    obtain ⟨tW, hW⟩ := T.wrong
    obtain ⟨tN, hN⟩ := T.noCode
    obtain ⟨tO, hO⟩ := T.otherRate
    obtain ⟨tM, hM⟩ := T.mostHeard
    obtain ⟨tD, hD⟩ := T.done
    obtain ⟨tP, hP⟩ := T.places
    have hu := hu_of hr
    have nd := scHear.nd
    have hr1 : Room 1 _ := hr.mono (by decide)
    refine ⟨_, pss_cons (ps_if (PW.pt (pw_or (pt_cmpR op_gt (pv 1) (pe_glob (v := .int 255) rfl hL ⟨tL, rfl⟩) (nomark _)) (pw_or (pt_not (pt_val (pe_call G1 hr1 rfl m1 k1 b1 .nil pass0 (pa_cons (pv 2) pa_nil)))) (pw_or1 (pt_not (pt_val (pe_call G3 hr1 rfl m3 k3 b3 .nil pass0 (pa_cons (pv 3) (pa_cons (pe_glob (v := .int 1000000) rfl hM ⟨tM, rfl⟩) pa_nil))))))))) (pss_one (ps_ret (pe_lst (pa_cons (pe_glob (v := .int (-22)) rfl hW ⟨tW, rfl⟩) pa_nil)))) pss_nil)
      (pss_cons (ps_if (pt_cmp (pc_dnotin hu (pv 1) (pe_fld (pv 0) rfl))) (pss_one (ps_ret (pe_lst (pa_cons (pe_glob (v := .int (-2)) rfl hN ⟨tN, rfl⟩) pa_nil)))) pss_nil)
      (pss_cons (ps_if (pt_cmpR op_ne (pe_dget hu (pe_fld (pv 0) rfl) (pv 1) (fun _ _ => rfl)) (pv 2) (nomark _)) (pss_one (ps_ret (pe_lst (pa_cons (pe_glob (v := .int (-33)) rfl hO ⟨tO, rfl⟩) pa_nil)))) pss_nil)
      (pss_cons (ps_set (i := 4) nd rfl (Or.inr rfl) (pe_op op_fdiv (pe_glob (v := .int 256) rfl hP ⟨tP, rfl⟩) (pv 2)))
      (pss_cons (ps_set (i := 5) nd rfl (Or.inl rfl) (pe_call G4 hr rfl m4 k4 b4 .nil pass0 (pa_cons (pv 3) (pa_cons (pe_call G2 hr1 rfl m2 k2 b2 .nil pass0 (pa_cons (pv 2) pa_nil)) (pa_cons (pe_dget hu (pe_fld (pv 0) rfl) (pv 1) (fun _ _ => rfl)) pa_nil)))))
      (pss_one (ps_ret (pe_op op_cat (pe_lst (pa_cons (pe_glob (v := .int 0) rfl hD ⟨tD, rfl⟩) pa_nil))
        (pe_lc (own := [("number", 6)]) rfl nd (pi_list (pv 5)) (by show BlkOk ["self", "user", "rate", "row", "size", "sums", "number"] (defScope sHear) _ [("number", 6)]; exact ⟨rfl, by decide +kernel, by decide +kernel, by decide +kernel, by decide +kernel⟩) (fun _ _ _ _ _ => pg_name (i := 6) nd rfl (Or.inl rfl)) (fun _ _ _ _ _ => pts_nil)
          (fun _ _ _ _ _ => pe_call G5 hr1 rfl m5 k5 b5 .nil pass0 (pa_cons (pv 6) (pa_cons (pv 4) pa_nil))))))))))), ?_⟩
    obtain ⟨dx, hob⟩ := D.ob
    refine ⟨_, rfl, _, _, rfl, rfl, _, rfl, ?_⟩
    refine ite2 (fun h1 => ?_) (fun h1 => ?_)
    · have h1' : 255 < u := by have := of_decide_eq_true h1; omega
      have e : doing a (.hear u r v) = (a, [], Kh297.say (-22)) := if_pos (.inl h1')
      rw [due_of e, e] at k
      exact iteT ⟨by show 1 ≤ sizeLine; decide, fun q hq => k.one D lam rfl rfl (Same.refl _) hq⟩
    have h1' : ¬ 255 < u := fun z => h1 (decide_eq_true (by omega))
    refine ⟨_, rfl, (r : Int), rfl, _, rfl, ?_⟩
    rw [isRate_eq]
    cases hlv : levelOf r with
    | none =>
      have e : doing a (.hear u r v) = (a, [], Kh297.say (-22)) := if_pos (.inr (.inl (by rw [hlv]; rfl)))
      rw [due_of e, e] at k
      exact iteT (iteT ⟨by show 1 ≤ sizeLine; decide, fun q hq => k.one D lam rfl rfl (Same.refl _) hq⟩)
    | some l =>
    obtain ⟨hl8, hrw⟩ := levelOf_some hlv
    refine iteF ?_
    refine ⟨_, rfl, b, v, 1000000, rfl, hb, by omega, fun H1 s1 => ?_⟩
    refine ⟨_, rfl, ?_⟩
    have hall : (v.all fun x => decide (-(1000000 : Int) ≤ x) && decide (x ≤ 1000000)) = Kh296.okLine v := rfl
    rw [hall]
    cases hw : Kh296.okLine v with
    | false =>
      have e : doing a (.hear u r v) = (a, [], Kh297.say (-22)) := if_pos (.inr (.inr hw))
      rw [due_of e, e] at k
      exact iteT ⟨by show 1 ≤ sizeLine; decide, fun q hq => k.one D lam rfl rfl s1 hq⟩
    | true =>
    have e0 : doing a (.hear u r v) = (match a.has u with
      | none => (a, [], Kh297.say (-2))
      | some c => if Kh297.rate c ≠ r then (a, [], Kh297.say (-33)) else (a, [], ⟨0, (Kh296.hear c v).map fun x => Kh297.nearest x c.level⟩)) :=
      if_neg fun z => z.elim h1' fun z => z.elim (fun z => by rw [hlv] at z; cases z) fun z => by rw [hw] at z; cases z
    refine iteF ?_
    have D1 := D.mono s1
    have hob1 := s1 _ _ hob
    have lam1 := lam.mono s1
    refine ⟨_, rfl, _, rfl, p, C, dx, _, _, rfl, hob1, TC.cl, TC.nR, flds_rates .., R, _, rfl, DGet.k (k := Sum.inl (u : Int)) D1.hR, _, rfl, ?_⟩
    have hr' := D.rel.rate_at u
    have hk' := D.rel.k_at u
    rw [← has_lookup] at hr' hk'
    rw [valV_dN, hr']
    cases hc : a.has u with
    | none =>
      rw [hc] at e0
      dsimp only at e0
      rw [due_of e0, e0] at k
      exact iteT ⟨by show 1 ≤ sizeLine; decide, fun q hq => k.one D lam rfl rfl s1 hq⟩
    | some c =>
    rw [hc] at e0
    dsimp only at e0
    rw [hc] at hr' hk'
    have hmem : (u, c) ∈ a.codes := by rw [has_lookup] at hc; exact (lookup_mem D.rel.nd).mpr hc
    have hok := D.rel.ok _ hmem
    have g1 : DGet H1 R (V.int (u : Int)) (some (V.int ((wid c.level : Nat) : Int))) := by
      have := DGet.k (k := Sum.inl (u : Int)) D1.hR
      rw [valV_dN, hr'] at this
      exact this
    have g2 : DGet H1 Kk (V.int (u : Int)) (some (V.int ((c.k : Nat) : Int))) := by
      have := DGet.k (k := Sum.inl (u : Int)) D1.hK
      rw [valV_dN, hk'] at this
      exact this
    refine iteF ?_
    refine ⟨_, rfl, p, C, dx, _, _, rfl, hob1, TC.cl, TC.nR, flds_rates .., _, rfl, R, _, rfl, g1, _, rfl, rfl, _, rfl, ?_⟩
    by_cases hrc : wid c.level = r
    · have hcl : c.level = l := wid_inj hok.2.1 hl8 (by rw [hrc, hrw])
      rw [if_neg (show ¬ Kh297.rate c ≠ r from fun z => z hrc)] at e0
      rw [due_of e0, e0] at k
      refine iteNS (by rw [hrc]) ?_
      have hrp : 0 < r := by rw [← hrc]; exact wid_pos _
      have hr256 : r ≤ 256 := by rw [← hrc]; exact wid_le _
      have hlw : levels.lookup (r : Int) = some (c.level : Int) := by rw [← hrc]; exact levels_wid hok.2.1
      refine ⟨_, rfl, _, _, rfl, rfl, ⟨by omega, by omega⟩, ?_⟩
      refine ⟨_, rfl, _, rfl, _, _, rfl, hlw, ?_⟩
      refine ⟨_, rfl, p, C, dx, _, _, rfl, hob1, TC.cl, TC.nK, flds_ks .., _, rfl, Kk, _, rfl, g2, ?_⟩
      refine ⟨b, c, v, rfl, s1 _ _ hb, hok.2.1, hok.2.2, hv, fun H2 q2 s2 hq2 hq3 => ?_⟩
      have s12 := s1.trans s2
      have hlen : (Kh296.hear c v).length ≤ 256 := by rw [hear_eq, List.length_map, List.length_range]; exact wid_le _
      have hsz : 512 ≤ sizeLine := by decide
      refine ⟨by show 1 ≤ sizeLine; decide, fun q4 hq4 => ?_⟩
      have s3 := same_new (o := .lst [V.int 0]) hq4
      have hq34 := s3 _ _ hq3
      refine ⟨_, rfl, q2, rfl, ⟨_, SqL.of hq34⟩, fun D' hD' => ?_⟩
      refine lc_listF (K := K) (a := q2) (i := 6) (xs := (Kh296.hear c v).map V.int) (ys := ((Kh296.hear c v).map fun x => Kh297.nearest x c.level).map V.int) hD' (SqL.of hq34) (by rw [List.length_map, List.length_map, List.length_map]) (by rw [List.length_map]; omega) (fun j x y H5 Q5 hx hy s5 k5 => ?_) (fun H5 s5 hD5 => ?_)
      · obtain ⟨z, hz, rfl⟩ := get_mapC hx
        obtain ⟨z1, hz1, rfl⟩ := get_mapC hy
        obtain ⟨z2, hz2, rfl⟩ := get_mapC hz1
        rw [hz] at hz2
        obtain rfl := Option.some.inj hz2
        have ed : (256 : Int) / (r : Int) = ((2 ^ c.level : Nat) : Int) := by rw [← hrc]; exact div_wid hok.2.1
        refine ⟨_, rfl, _, rfl, z, c.level, ?_, hok.2.1, k5 _ (Same.refl _)⟩
        show [V.int z, V.int ((256 : Int) / (r : Int))] = _
        rw [ed]
      · refine ⟨q4, D', _, _, rfl, rfl, s5 _ _ upd_same, hD5, ?_, fun q5 hq5 => ?_⟩
        · rw [List.length_map, List.length_map]
          show 1 + (Kh296.hear c v).length ≤ sizeLine
          omega
        · have sall := ((s12.trans s3).trans s5).trans (same_new (o := .lst ([V.int 0] ++ ((Kh296.hear c v).map fun x => Kh297.nearest x c.level).map V.int)) hq5)
          exact k.still D lam rfl sall (((s12.trans s3).trans s5).free hq5) upd_same
    · rw [if_pos (show Kh297.rate c ≠ r from hrc)] at e0
      rw [due_of e0, e0] at k
      have hne : ¬ (V.int ((wid c.level : Nat) : Int) = V.int (r : Int)) := fun z => hrc (Int.ofNat.inj (intV z))
      have : (!decide (V.int ((wid c.level : Nat) : Int) = V.int (r : Int))) = true := by rw [decide_eq_false hne]; rfl
      rw [if_pos this]
      exact ⟨by show 1 ≤ sizeLine; decide, fun q hq => k.one D lam rfl rfl s1 hq⟩
end
end Cl
end
section
set_option Elab.async false
set_option linter.all false
set_option maxRecDepth 100000
set_option maxHeartbeats 4000000
namespace Cl
open PySem PySem.Spec PyProof.Rows L2 CM
open Kh297 (Abs doing begun levelOf)
theorem iteS {b : Bool} {A B : Prop} (hb : b = true) (h : A) : if b = true then A else B := by
  rw [if_pos hb]
  exact h
theorem bootSorted : bootBuiltins "sorted" = some (.builtin "sorted") := by decide +kernel
def toldAnew (codes : List (Nat × Kh296.Code)) (u l : Nat) : List Int := (kOf (give 0 (order (want codes u l))) u : Int) :: codes.flatMap (toldOf (kOf (give 0 (order (want codes u l)))))
section
variable {P : Program} {w : World} {K : PySem.W.Frag} {mg : Str → Option Value} {base : Heap}
def spGive (C PT : Addr) : Sp := fun vs H Q _ => ∃ (p dx R Kk L S : Addr) (codes : List (Nat × Kh296.Code)) (rs ks : List (Nat × Nat)) (u l : Nat), vs = [.ref p, .int (u : Int)] ∧ H p = some (.ins C dx (flds R Kk L S)) ∧ H R = some (.dK (dN (rs ++ [(u, wid l)]))) ∧ H Kk = some (.dK (dN ks)) ∧
  Rel codes rs ks ∧ Wanted codes u l ∧ LamOk PT lamPos lamQual H ∧
  ∀ (Kn q : Addr) (H' : Hp), H Kn = none → H' p = some (.ins C dx (flds R Kn L S)) → H' Kn = some (.dK (dN (newK codes u l))) → LamOk PT lamPos lamQual H' → (∀ b z, H b = some z → b ≠ p → b ≠ PT → H' b = some z) → H q = none → H' q = some (lI (toldAnew codes u l)) → Q (.ref q) H'
theorem scGive : FnScope ["self", "new_user", "before", "answer", "user"] ["self", "new_user"] (defScope sGive) := ⟨rfl, rfl, rfl, by decide +kernel, rfl, by decide +kernel, by decide +kernel⟩
theorem ok_give {f f1 f2 C PT : Addr} {fd fd1 fd2 : FuncData} (F : Fun K "give_anew" "SharedLine.give_anew" sGive f fd) (T : Txt K mg) (TC : TxtC K mg C)
    (G1 : FnOk P w K mg base CX0 5 f1 fd1 ["rates"] (spAnew PT)) (b1 : Binds K fd1 ["rates"] []) (m1 : mg "ks_anew" = some (.ref f1)) (k1 : PySem.W.keepIn K (.ref f1) = true)
    (G2 : FnOk P w K mg base CX0 1 f2 fd2 ["rate"] spLevel) (b2 : Binds K fd2 ["rate"] []) (m2 : mg "level_of" = some (.ref f2)) (k2 : PySem.W.keepIn K (.ref f2) = true) :
    FnOk P w K mg base CX0 6 f fd ["self", "new_user"] (spGive C PT) := by
  refine F.ok scGive (fun vs H Q E h => ?_) (fun cdv A outer s H vs Q E hr h => ?_)
  · obtain ⟨p, dx, R, Kk, L, S, codes, rs, ks, u, l, rfl, _⟩ := h
    rfl
  · obtain ⟨p, dx, R, Kk, L, S, codes, rs, ks, u, l, rfl, hob, hR, hK, rel, W, lam, k⟩ := h
    have hu := hu_of hr
    have nd := scGive.nd
    have hr1 : Room 1 _ := hr.mono (by decide)
    refine ⟨_, pss_cons (ps_set (i := 2) nd rfl (Or.inl rfl) (pe_fld (pv 0) rfl))
      (pss_cons (ps_fld (pv 0) (pe_call G1 hr rfl m1 k1 b1 .nil pass0 (pa_cons (pe_fld (pv 0) rfl) pa_nil)) rfl)
      (pss_cons (ps_set (i := 3) nd rfl (Or.inl rfl) (pe_lst (pa_cons (pe_dget hu (pe_fld (pv 0) rfl) (pv 1) (fun _ _ => rfl)) pa_nil)))
      (pss_cons (ps_for PassesOwn.never rfl (pi_list (pe_callB (cr_sortedD rfl) (by rfl) T.sorted bootSorted (pa_cons (pv 2) pa_nil))) (pg_name (i := 4) nd rfl (Or.inl rfl))
        (pss_one (ps_if (pt_cmpR op_ne (pe_dget hu (pe_fld (pv 0) rfl) (pv 4) (fun _ _ => rfl)) (pe_dget hu (pv 2) (pv 4) (fun _ _ => rfl)) (nomark _))
          (pss_one (ps_expr (pe_bm PySem.F.plainAttrs_list PySem.F.slot_list_extend PySem.F.type_list_extend mt_extend (pv 3) (pa_cons (pe_lst (pa_cons (pv 4) (pa_cons (pe_call G2 hr1 rfl m2 k2 b2 .nil pass0 (pa_cons (pe_dget hu (pe_fld (pv 0) rfl) (pv 4) (fun _ _ => rfl)) pa_nil)) (pa_cons (pe_dget hu (pe_fld (pv 0) rfl) (pv 4) (fun _ _ => rfl)) pa_nil)))) pa_nil)))) pss_nil)))
      (pss_one (ps_ret (pv 3)))))), ?_⟩
    obtain ⟨pst, hPT, _⟩ := lam.ex
    have npR : p ≠ R := ne_of hob hR (by intro z; cases z)
    have npK : p ≠ Kk := ne_of hob hK (by intro z; cases z)
    have npPT : p ≠ PT := ne_of hob hPT (by intro z; cases z)
    have nRPT : R ≠ PT := ne_of hR hPT (by intro z; cases z)
    have nKPT : Kk ≠ PT := ne_of hK hPT (by intro z; cases z)
    refine ⟨_, rfl, p, C, dx, _, _, rfl, hob, TC.cl, TC.nK, flds_ks .., ?_⟩
    refine ⟨_, rfl, p, C, dx, _, _, rfl, hob, TC.cl, TC.nR, flds_rates .., R, _, rfl, hR, rel.rs_nd W, nRPT, rel.rs_pos, rel.rs_len W, lam, fun us' Kn H1 pm pw st hL1 hKn hKn1 => ?_⟩
    rw [rel.sorted_order W pm pw, rel.anew_ks W] at hKn1
    have hKn1 : H1 Kn = some (.dK (dN (newK codes u l))) := hKn1
    have hob1 := st _ _ hob npPT
    have npKn : p ≠ Kn := ne_of_none hob hKn
    refine ⟨_, rfl, p, C, dx, _, rfl, hob1, TC.cl, TC.nK, by show 4 < 1000; decide, ?_⟩
    rw [put_flds_ks]
    have hob2 : upd H1 p (.ins C dx (flds R Kn L S)) p = some (.ins C dx (flds R Kn L S)) := upd_same
    have hKn2 : upd H1 p (.ins C dx (flds R Kn L S)) Kn = some (.dK (dN (newK codes u l))) := by rw [upd_ne npKn.symm]; exact hKn1
    have hR2 : upd H1 p (.ins C dx (flds R Kn L S)) R = some (.dK (dN (rs ++ [(u, wid l)]))) := by rw [upd_ne npR.symm]; exact st _ _ hR nRPT
    have hK2 : upd H1 p (.ins C dx (flds R Kn L S)) Kk = some (.dK (dN ks)) := by rw [upd_ne npK.symm]; exact st _ _ hK nKPT
    have lam2 : LamOk PT lamPos lamQual (upd H1 p (.ins C dx (flds R Kn L S))) := hL1.mono_own (D := fun b => b = p) (fun b o e hb => by rw [upd_ne hb]; exact e) fun b hb => by subst hb; exact .inl ⟨_, _, _, hob1⟩
    have st2 : ∀ b z, H b = some z → b ≠ p → b ≠ PT → upd H1 p (.ins C dx (flds R Kn L S)) b = some z := fun b z e h1 h2 => by rw [upd_ne h1]; exact st b z e h2
    generalize upd H1 p (.ins C dx (flds R Kn L S)) = H2 at *
    have f2 : ∀ b, H2 b = none → H b = none := fun b hb => by
      cases e : H b with
      | none => rfl
      | some z =>
        by_cases h1 : b = p
        · rw [h1, hob2] at hb; cases hb
        · by_cases h2 : b = PT
          · obtain ⟨_, h, _⟩ := lam2.ex
            rw [h2, h] at hb; cases hb
          · rw [st2 b z e h1 h2] at hb; cases hb
    have hwu : (u, l) ∈ want codes u l := mem_iw.mpr (.inl rfl)
    have gu := newK_at W hwu
    have gk : ∀ H', Same H2 H' → ∀ x ∈ want codes u l, DGet H' Kn (V.int (x.1 : Int)) (some (V.int ((kOf (give 0 (order (want codes u l))) x.1 : Nat) : Int))) := fun H' s x hx => by
      have := DGet.k (k := Sum.inl (x.1 : Int)) (s _ _ hKn2)
      rw [valV_dN, newK_at W hx] at this
      exact this
    refine ⟨_, rfl, p, C, dx, _, _, rfl, hob2, TC.cl, TC.nK, flds_ks .., _, rfl, Kn, _, rfl, gk H2 (Same.refl _) _ hwu, by show 1 ≤ sizeLine; decide, fun Aa hAa => ?_⟩
    have s3 := same_new (o := .lst [V.int ((kOf (give 0 (order (want codes u l))) u : Nat) : Int)]) hAa
    have hA3 : upd H2 Aa (.lst [V.int ((kOf (give 0 (order (want codes u l))) u : Nat) : Int)]) Aa = some (lI ((kOf (give 0 (order (want codes u l))) u : Int) :: (codes.take 0).flatMap (toldOf (kOf (give 0 (order (want codes u l))))))) := upd_same
    generalize upd H2 Aa (.lst [V.int ((kOf (give 0 (order (want codes u l))) u : Nat) : Int)]) = H3 at *
    generalize hk' : kOf (give 0 (order (want codes u l))) = k' at *
    refine ⟨_, rfl, Kk, ks, rfl, s3 _ _ hK2, fun ns' Dd pm' ps' hDd => ?_⟩
    rw [sorted_codes rel pm' ps']
    have s4 := same_new (o := .lst ((codes.map fun x => (x.1 : Int)).map V.int)) hDd
    have hD4 : upd H3 Dd (.lst ((codes.map fun x => (x.1 : Int)).map V.int)) Dd = some (.lst ((codes.map fun x => (x.1 : Int)).map V.int)) := upd_same
    have s24 := s3.trans s4
    have hA4 := s4 _ _ hA3
    have nAD : Aa ≠ Dd := ne_of_none hA3 hDd
    generalize upd H3 Dd (.lst ((codes.map fun x => (x.1 : Int)).map V.int)) = H4 at *
    refine ⟨Dd, rfl, ⟨_, SqL.of hD4⟩, for_list (K := K) (a := Dd) (xs := (codes.map fun x => (x.1 : Int)).map V.int) (fun i σ H' => ∃ v4 : Option V, σ = [some (.ref p), some (.int (u : Int)), some (.ref Kk), some (.ref Aa), v4] ∧ (∀ b z, H4 b = some z → b ≠ Aa → H' b = some z) ∧ H' Aa = some (lI ((k' u : Int) :: (codes.take i).flatMap (toldOf k'))))
      ⟨none, rfl, fun b z e _ => e, hA4⟩ (fun i σ H' _ ⟨_, _, h, _⟩ => SqL.of (h _ _ hD4 nAD.symm)) ?_ ?_⟩
    · rintro i y σ H' hi ⟨v4, rfl, sm, hA'⟩
      obtain ⟨z, hz, rfl⟩ := get_mapC hi
      obtain ⟨⟨w', c⟩, hx, rfl⟩ := get_mapC hz
      dsimp only at hi hz ⊢
      have hmem : (w', c) ∈ codes := List.mem_of_getElem? hx
      have hwant : (w', c.level) ∈ want codes u l := mem_iw.mpr (.inr (List.mem_map.mpr ⟨(w', c), hmem, rfl⟩))
      have hok := rel.ok _ hmem
      have nAp : Aa ≠ p := (ne_of_none hob2 hAa).symm
      have nAKn : Aa ≠ Kn := (ne_of_none hKn2 hAa).symm
      have nAK : Aa ≠ Kk := (ne_of_none hK2 hAa).symm
      have nAR : Aa ≠ R := (ne_of_none hR2 hAa).symm
      have mk : ∀ H'', (∀ b z, H4 b = some z → b ≠ Aa → H'' b = some z) → H'' p = some (.ins C dx (flds R Kn L S)) ∧ DGet H'' Kn (V.int (w' : Int)) (some (V.int ((k' w' : Nat) : Int))) ∧ DGet H'' Kk (V.int (w' : Int)) (some (V.int ((c.k : Nat) : Int))) ∧ DGet H'' R (V.int (w' : Int)) (some (V.int ((wid c.level : Nat) : Int))) := by
        intro H'' sm
        refine ⟨sm _ _ (s24 _ _ hob2) nAp.symm, ?_, ?_, ?_⟩
        · have := DGet.k (k := Sum.inl (w' : Int)) (sm _ _ (s24 _ _ hKn2) nAKn.symm)
          rw [valV_dN, newK_at W hwant, hk'] at this
          exact this
        · have := DGet.k (k := Sum.inl (w' : Int)) (sm _ _ (s24 _ _ hK2) nAK.symm)
          rw [valV_dN, rel.k_at w', (lookup_mem rel.nd).mp hmem] at this
          exact this
        · have := DGet.k (k := Sum.inl (w' : Int)) (sm _ _ (s24 _ _ hR2) nAR.symm)
          rw [valV_dN, rel.rs_lookup W _ hwant] at this
          exact this
      obtain ⟨q1, q2, q3, q4⟩ := mk H' sm
      refine ⟨_, rfl, p, C, dx, _, _, rfl, q1, TC.cl, TC.nK, flds_ks .., _, rfl, Kn, _, rfl, q2, _, rfl, _, rfl, Kk, _, rfl, q3, rfl, _, rfl, ?_⟩
      by_cases hne : k' w' = c.k
      · refine iteNS (by rw [hne]) ?_
        refine ⟨_, rfl, sm, ?_⟩
        rw [hA', told_snoc hx]
        unfold toldOf
        rw [if_neg (fun z => z hne), List.append_nil]
      · have hne' : ¬ (V.int ((k' w' : Nat) : Int) = V.int ((c.k : Nat) : Int)) := fun z => hne (Int.ofNat.inj (intV z))
        have : (!decide (V.int ((k' w' : Nat) : Int) = V.int ((c.k : Nat) : Int))) = true := by rw [decide_eq_false hne']; rfl
        refine iteS this ?_
        refine ⟨_, rfl, .inl ⟨rfl, _, SqL.of hA'⟩, _, rfl, ?_⟩
        refine ⟨_, rfl, p, C, dx, _, _, rfl, q1, TC.cl, TC.nR, flds_rates .., _, rfl, R, _, rfl, q4, _, _, rfl, levels_wid hok.2.1, ?_⟩
        refine ⟨_, rfl, p, C, dx, _, _, rfl, q1, TC.cl, TC.nK, flds_ks .., _, rfl, Kn, _, rfl, q2, by show 3 ≤ sizeLine; decide, fun Bb hBb => ?_⟩
        have nAB : Aa ≠ Bb := ne_of_none hA' hBb
        have hl1 : (codes.take i).length ≤ 256 := Nat.le_trans (by rw [List.length_take]; exact Nat.min_le_right _ _) rel.len
        have hl2 := told_len k' (codes.take i)
        refine ⟨Aa, Bb, _, _, rfl, rfl, same_new hBb _ _ hA', upd_same, ?_, ?_⟩
        · rw [List.length_map, List.length_cons]
          have : 10000 ≤ sizeLine := by decide
          show _ + 3 ≤ sizeLine
          omega
        · refine ⟨_, rfl, fun b z e hb => ?_, ?_⟩
          · rw [upd_ne hb]
            exact same_new hBb _ _ (sm b z e hb)
          · rw [upd_same, told_snoc hx]
            have et : toldOf k' (w', c) = [(w' : Int), (c.level : Int), (k' w' : Int)] := if_pos hne
            rw [et]
            show _ = some (HO.lst ((((k' u : Int) :: _) ++ _).map V.int))
            rw [List.map_append]
            rfl
    · rintro σ H' ⟨v4, rfl, sm, hA'⟩
      rw [List.length_map, List.length_map, List.take_length] at hA'
      have nAp : Aa ≠ p := (ne_of_none hob2 hAa).symm
      have nAKn : Aa ≠ Kn := (ne_of_none hKn2 hAa).symm
      refine ⟨_, rfl, k Kn Aa H' hKn (sm _ _ (s24 _ _ hob2) nAp.symm) (sm _ _ (s24 _ _ hKn2) nAKn.symm) ?_ (fun b z e h1 h2 => ?_) (f2 _ hAa) ?_⟩
      · exact lam2.mono fun b o e => sm _ _ (s24 _ _ e) (ne_of_none e hAa)
      · have e2 := st2 b z e h1 h2
        exact sm _ _ (s24 _ _ e2) (ne_of_none e2 hAa)
      · rw [hA']
        unfold toldAnew
        rw [hk']
end
end Cl
end
section
set_option Elab.async false
set_option linter.all false
set_option maxRecDepth 100000
set_option maxHeartbeats 4000000
namespace Cl
open PySem PySem.Spec PyProof.Rows L2 CM
open Kh297 (Abs doing begun levelOf)
theorem iteN {c : Prop} [Decidable c] {A B : Prop} (hb : ¬ c) (h : B) : if decide c = true then A else B := by
  rw [if_neg (fun z => hb (of_decide_eq_true z))]
  exact h
section
variable {P : Program} {w : World} {K : PySem.W.Frag} {mg : Str → Option Value} {base : Heap}
def spOpen (C PT : Addr) : Sp := fun vs H Q _ => ∃ (p R Kk L S : Addr) (a : Abs) (rs ks : List (Nat × Nat)) (u r : Nat), vs = [.ref p, .int (u : Int), .int (r : Int)] ∧ LineAt C H p R Kk L S a rs ks ∧ LamOk PT lamPos lamQual H ∧ After C PT H p R Kk L S (doing a (.open_ u r)).1 (due a (.open_ u r)) Q
theorem scOpen : FnScope ["self", "user", "rate", "k"] ["self", "user", "rate"] (defScope sOpen) := ⟨rfl, rfl, rfl, by decide +kernel, rfl, by decide +kernel, by decide +kernel⟩
theorem ok_open {f f1 f2 f3 C PT : Addr} {fd fd1 fd2 fd3 : FuncData} (F : Fun K "open_user" "SharedLine.open_user" sOpen f fd) (T : Txt K mg) (TC : TxtC K mg C)
    (G1 : FnOk P w K mg base CX0 1 f1 fd1 ["number"] spIsRate) (b1 : Binds K fd1 ["number"] []) (m1 : mg "is_rate" = some (.ref f1)) (k1 : PySem.W.keepIn K (.ref f1) = true)
    (G2 : FnOk P w K mg base CX0 2 f2 fd2 ["rates", "ks", "rate"] spLeast) (b2 : Binds K fd2 ["rates", "ks", "rate"] []) (m2 : mg "least_free_k" = some (.ref f2)) (k2 : PySem.W.keepIn K (.ref f2) = true)
    (G3 : FnOk P w K mg base CX0 6 f3 fd3 ["self", "new_user"] (spGive C PT)) (b3 : Binds K fd3 ["self", "new_user"] []) (m3 : Meth K C "give_anew" f3) :
    FnOk P w K mg base CX0 7 f fd ["self", "user", "rate"] (spOpen C PT) := by
  refine F.ok scOpen (fun vs H Q E h => ?_) (fun cdv A outer s H vs Q E hr h => ?_)
  · obtain ⟨p, R, Kk, L, S, a, rs, ks, u, r, rfl, _⟩ := h
    rfl
  · obtain ⟨p, R, Kk, L, S, a, rs, ks, u, r, rfl, D, lam, k⟩ := h
    obtain ⟨tL, hL⟩ := T.last
    obtain ⟨tW, hW⟩ := T.wrong
    obtain ⟨tC, hC⟩ := T.hasCode
    obtain ⟨tN, hN⟩ := T.noRoom
    obtain ⟨tP, hP⟩ := T.tips
    obtain ⟨tS, hS⟩ := T.said
    have hu := hu_of hr
    have nd := scOpen.nd
    have hr1 : Room 1 _ := hr.mono (by decide)
    have hr2 : Room 2 _ := hr.mono (by decide)
    refine ⟨_, pss_cons (ps_if (PW.pt (pw_or (pt_cmpR op_gt (pv 1) (pe_glob (v := .int 255) rfl hL ⟨tL, rfl⟩) (nomark _)) (pw_or1 (pt_not (pt_val (pe_call G1 hr1 rfl m1 k1 b1 .nil pass0 (pa_cons (pv 2) pa_nil))))))) (pss_one (ps_ret (pe_lst (pa_cons (pe_glob (v := .int (-22)) rfl hW ⟨tW, rfl⟩) pa_nil)))) pss_nil)
      (pss_cons (ps_if (pt_cmpR op_gt (pe_callB call_lenD (by rfl) T.len PySem.boot_len (pa_cons (pe_fld (pv 0) rfl) pa_nil)) pe_int (nomark _)) (pss_one (ps_ret (pe_lst (pa_cons (pe_glob (v := .int (-16)) rfl hS ⟨tS, rfl⟩) pa_nil)))) pss_nil)
      (pss_cons (ps_if (pt_cmp (pc_din hu (pv 1) (pe_fld (pv 0) rfl))) (pss_one (ps_ret (pe_lst (pa_cons (pe_glob (v := .int (-17)) rfl hC ⟨tC, rfl⟩) pa_nil)))) pss_nil)
      (pss_cons (ps_if (pt_cmpR op_gt (pe_op op_add (pe_callB (cr_sumV rfl) (by rfl) T.sum bootSum (pa_cons (pe_dvals (pe_fld (pv 0) rfl)) pa_nil)) (pv 2)) (pe_glob (v := .int 256) rfl hP ⟨tP, rfl⟩) (nomark _)) (pss_one (ps_ret (pe_lst (pa_cons (pe_glob (v := .int (-28)) rfl hN ⟨tN, rfl⟩) pa_nil)))) pss_nil)
      (pss_cons (ps_set (i := 3) nd rfl (Or.inl rfl) (pe_call G2 hr2 rfl m2 k2 b2 .nil pass0 (pa_cons (pe_fld (pv 0) rfl) (pa_cons (pe_fld (pv 0) rfl) (pa_cons (pv 2) pa_nil)))))
      (pss_cons (ps_dput hu (pe_fld (pv 0) rfl) (pv 1) (pv 2) rfl)
      (pss_cons (ps_if (pt_cmp (pc_isN (pv 3))) (pss_one (ps_ret (pe_meth (pv 0) TC.cl m3 G3 hr b3 .nil pass0 (pa_cons (pv 1) pa_nil)))) pss_nil)
      (pss_cons (ps_dput hu (pe_fld (pv 0) rfl) (pv 1) (pv 3) rfl)
      (pss_one (ps_ret (pe_lst (pa_cons (pv 3) pa_nil))))))))))), ?_⟩
    obtain ⟨dx, hob⟩ := D.ob
    refine ⟨_, rfl, _, _, rfl, rfl, _, rfl, ?_⟩
    refine ite2 (fun h1 => ?_) (fun h1 => ?_)
    · have h1' : 255 < u := by have := of_decide_eq_true h1; omega
      have e : doing a (.open_ u r) = (a, [], Kh297.say (-22)) := by
        show (match levelOf r with | none => _ | some l => _) = _
        cases levelOf r with
        | none => rfl
        | some l => exact if_pos h1'
      rw [due_of e, e] at k
      exact iteT ⟨by show 1 ≤ sizeLine; decide, fun q hq => k.one D lam rfl rfl (Same.refl _) hq⟩
    have h1' : ¬ 255 < u := fun z => h1 (decide_eq_true (by omega))
    refine ⟨_, rfl, (r : Int), rfl, _, rfl, ?_⟩
    rw [isRate_eq]
    cases hlv : levelOf r with
    | none =>
      have e : doing a (.open_ u r) = (a, [], Kh297.say (-22)) := by
        show (match levelOf r with | none => _ | some l => _) = _
        rw [hlv]
      rw [due_of e, e] at k
      exact iteT ⟨by show 1 ≤ sizeLine; decide, fun q hq => k.one D lam rfl rfl (Same.refl _) hq⟩
    | some l =>
    obtain ⟨hl8, hrw⟩ := levelOf_some hlv
    have e0 : doing a (.open_ u r) = (if a.said ≠ [] then (a, [], Kh297.say (-16)) else if (a.has u).isSome then (a, [], Kh297.say (-17)) else if 256 < Kh297.rates a + r then (a, [], Kh297.say (-28)) else ((Kh297.opened a u l).1, (Kh297.opened a u l).2.1, Kh297.say ((Kh297.opened a u l).2.2 : Nat))) := by
      show (match levelOf r with | none => _ | some l => _) = _
      rw [hlv]
      exact if_neg h1'
    refine iteF ?_
    refine ⟨_, rfl, p, C, dx, _, _, rfl, hob, TC.cl, TC.nS, flds_said .., S, _, rfl, D.hS, _, _, rfl, rfl, _, rfl, ?_⟩
    have hlen : (dB a.said.reverse).length = a.said.length := by unfold dB; rw [List.length_map, List.length_reverse]
    refine ite2 (fun h2 => ?_) (fun h2 => ?_)
    · have h2' : a.said ≠ [] := by
        have := of_decide_eq_true h2
        intro z
        rw [hlen, z, List.length_nil] at this
        omega
      rw [if_pos h2'] at e0
      rw [due_of e0, e0] at k
      exact ⟨by show 1 ≤ sizeLine; decide, fun q hq => k.one D lam rfl rfl (Same.refl _) hq⟩
    have h2' : ¬ a.said ≠ [] := fun z => h2 (decide_eq_true (by
      have : 0 < a.said.length := List.length_pos_iff.mpr z
      rw [hlen]
      omega))
    rw [if_neg h2'] at e0
    refine ⟨_, rfl, _, rfl, p, C, dx, _, _, rfl, hob, TC.cl, TC.nR, flds_rates .., R, _, rfl, DGet.k (k := Sum.inl (u : Int)) D.hR, _, rfl, ?_⟩
    have hr' := D.rel.rate_at u
    rw [← has_lookup] at hr'
    rw [valV_dN, hr']
    cases hc : a.has u with
    | some c =>
      rw [hc, if_pos (show (some c).isSome = true from rfl)] at e0
      rw [due_of e0, e0] at k
      exact iteT ⟨by show 1 ≤ sizeLine; decide, fun q hq => k.one D lam rfl rfl (Same.refl _) hq⟩
    | none =>
    rw [hc, if_neg (by intro z; cases z)] at e0
    rw [hc] at hr'
    have hcl : a.codes.lookup u = none := by rw [← has_lookup]; exact hc
    refine iteF ?_
    refine ⟨_, rfl, p, C, dx, _, _, rfl, hob, TC.cl, TC.nR, flds_rates .., R, _, rfl, D.hR, fun vv hvv => ?_⟩
    have s1 := same_new (o := ViewV vv R) hvv
    have hv1 : upd H vv (ViewV vv R) vv = some (ViewV vv R) := upd_same
    generalize upd H vv (ViewV vv R) = H1 at *
    have D1 := D.mono s1
    have hob1 := s1 _ _ hob
    have hsum : ((rs.map (·.2)).sum : Nat) = Kh297.rates a := D.rel.sum
    refine ⟨vv, R, rs, rfl, hv1, D1.hR, _, rfl, _, _, rfl, rfl, _, _, rfl, rfl, _, rfl, ?_⟩
    rw [hsum]
    refine ite2 (fun h3 => ?_) (fun h3 => ?_)
    · have h3' : 256 < Kh297.rates a + r := by have := of_decide_eq_true h3; omega
      rw [if_pos h3'] at e0
      rw [due_of e0, e0] at k
      exact ⟨by show 1 ≤ sizeLine; decide, fun q hq => k.one D lam rfl rfl s1 hq⟩
    have h3' : ¬ 256 < Kh297.rates a + r := fun z => h3 (decide_eq_true (by omega))
    rw [if_neg h3'] at e0
    have htot : (a.codes.map fun x => wid x.2.level).sum + wid l ≤ 256 := by
      have : Kh297.rates a = (a.codes.map fun x => wid x.2.level).sum := rfl
      rw [← this, ← hrw]
      omega
    have hrp : 0 < r := by rw [hrw]; exact wid_pos _
    have hr256 : r ≤ 256 := by rw [hrw]; exact wid_le _
    refine ⟨_, rfl, p, C, dx, _, _, rfl, hob1, TC.cl, TC.nR, flds_rates .., _, rfl, p, C, dx, _, _, rfl, hob1, TC.cl, TC.nK, flds_ks .., _, rfl, ?_⟩
    refine ⟨R, Kk, rs, ks, r, rfl, D1.hR, D1.hK, D.rk, D.rel.ndk, D.rel.fits, hrp, hr256, fun H2 s2 => ?_⟩
    rw [hrw, D.rel.least hl8]
    have s12 := s1.trans s2
    have D2 := D.mono s12
    have hob2 := s12 _ _ hob
    have lam2 := lam.mono s12
    have npR : p ≠ R := ne_of hob D.hR (by intro z; cases z)
    have npK : p ≠ Kk := ne_of hob D.hK (by intro z; cases z)
    have nRL : R ≠ L := ne_of D.hR D.hL (by intro z; cases z)
    have nKL : Kk ≠ L := ne_of D.hK D.hL (by intro z; cases z)
    have hrl : rs.lookup u = none := hr'
    have hkl : ks.lookup u = none := by rw [D.rel.k_at u, hcl]; rfl
    have hl1 : (dN rs).length < sizeLine := by rw [List.length_map]; exact small1000 (Nat.le_trans D.rel.lenr (by decide))
    have hl2 : (dN ks).length < sizeLine := by rw [List.length_map]; exact small1000 (Nat.le_trans D.rel.lenk (by decide))
    have hput : DPut H2 R (V.int (u : Int)) (V.int ((wid l : Nat) : Int)) (upd H2 R (.dK (dN (rs ++ [(u, wid l)])))) := by
      have := DPut.k (k := Sum.inl (u : Int)) (v := V.int ((wid l : Nat) : Int)) D2.hR hl1
      rw [put_new hrl] at this
      exact this
    refine ⟨_, rfl, _, rfl, p, C, dx, _, _, rfl, hob2, TC.cl, TC.nR, flds_rates .., _, rfl, R, _, rfl, hput, ?_⟩
    have hob3 : upd H2 R (.dK (dN (rs ++ [(u, wid l)]))) p = some (.ins C dx (flds R Kk L S)) := by rw [upd_ne npR]; exact hob2
    have hR3 : upd H2 R (.dK (dN (rs ++ [(u, wid l)]))) R = some (.dK (dN (rs ++ [(u, wid l)]))) := upd_same
    have hK3 : upd H2 R (.dK (dN (rs ++ [(u, wid l)]))) Kk = some (.dK (dN ks)) := by rw [upd_ne D.rk.symm]; exact D2.hK
    have hL3 : upd H2 R (.dK (dN (rs ++ [(u, wid l)]))) L = some (lI a.line) := by rw [upd_ne nRL.symm]; exact D2.hL
    have hS3 : upd H2 R (.dK (dN (rs ++ [(u, wid l)]))) S = some (.dK (dB a.said.reverse)) := by rw [upd_ne D.rS.symm]; exact D2.hS
    have kk3 : ∀ b z, H b = some z → b ≠ R → upd H2 R (.dK (dN (rs ++ [(u, wid l)]))) b = some z := fun b z e hb => by rw [upd_ne hb]; exact s12 _ _ e
    have lam3 : LamOk PT lamPos lamQual (upd H2 R (.dK (dN (rs ++ [(u, wid l)])))) := lam.mono_own (D := fun b => b = R) kk3 fun b hb => by subst hb; exact .inr (.inl ⟨_, D.hR⟩)
    generalize upd H2 R (.dK (dN (rs ++ [(u, wid l)]))) = H3 at *
    have f3 : ∀ b, H3 b = none → H b = none := fun b hb => by
      cases e : H b with
      | none => rfl
      | some z =>
        by_cases h1 : b = R
        · rw [h1, hR3] at hb; cases hb
        · rw [kk3 b z e h1] at hb; cases hb
    refine ⟨_, rfl, _, rfl, ?_⟩
    cases hk : Kh297.leastK l (a.codes.map Prod.snd) with
    | none =>
      have eo : Kh297.opened a u l = ({ a with codes := Kh297.anew (want a.codes u l) }, (Kh297.moved a.codes (Kh297.anew (want a.codes u l))).map Kh297.ev, (((Kh297.anew (want a.codes u l)).find? fun x => x.1 == u).map fun x => x.2.k).getD 0) := by
        unfold Kh297.opened
        rw [hk]
        rfl
      have W : Wanted a.codes u l := D.rel.wanted hcl hl8 htot
      rw [eo] at e0
      rw [due_of e0, e0] at k
      dsimp only at k
      rw [moved_told D.rel hcl W, new_k W] at k
      refine iteS (decide_eq_true rfl) ?_
      refine ⟨_, rfl, p, dx, _, rfl, hob3, flds_no _ _ _ _ (by decide +kernel) (by decide +kernel) (by decide +kernel) (by decide +kernel), _, rfl, p, dx, R, Kk, L, S, a.codes, rs, ks, u, l, rfl, hob3, hR3, hK3, D.rel, W, lam3, fun Kn q H' hKn hp' hKn' lam' st hq hq' => ?_⟩
      obtain ⟨pst, hPT, _⟩ := lam.ex
      have nRPT : R ≠ PT := ne_of D.hR hPT (by intro z; cases z)
      have nLPT : L ≠ PT := ne_of D.hL hPT (by intro z; cases z)
      have nSPT : S ≠ PT := ne_of D.hS hPT (by intro z; cases z)
      have npS : p ≠ S := ne_of hob D.hS (by intro z; cases z)
      have npL : p ≠ L := ne_of hob D.hL (by intro z; cases z)
      refine k H' R Kn L S q _ _ ⟨⟨dx, hp'⟩, st _ _ hR3 npR.symm nRPT, hKn', st _ _ hL3 npL.symm nLPT, st _ _ hS3 npS.symm nSPT, ne_of_none hR3 hKn, D.rS, (ne_of_none hS3 hKn).symm, D.rel.open_anew (by omega) W, D.len⟩ lam' (fun b z e hb hbP => ?_) (fun b hb => ?_) (.inl rfl) ?_ (f3 _ hq)
      · exact st b z (kk3 b z e fun z => hb (.inr (.inl z))) (fun z => hb (.inl z)) hbP
      · rcases hb with rfl | rfl | rfl | rfl
        · exact .inl (.inl rfl)
        · exact .inl (.inr (.inl rfl))
        · exact .inr (f3 _ hKn)
        · exact .inl (.inr (.inr (.inr rfl)))
      · rw [hq']
        unfold toldAnew
        show _ = some (lI (_ :: (_ ++ [])))
        rw [List.append_nil]
        rfl
    | some kn =>
      have eo : Kh297.opened a u l = ({ a with codes := Kh297.insert (u, ⟨l, kn⟩) a.codes }, [], kn) := by
        unfold Kh297.opened
        rw [hk]
      rw [eo] at e0
      rw [due_of e0, e0] at k
      refine iteN (by intro z; cases z) ?_
      have hput2 : DPut H3 Kk (V.int (u : Int)) (V.int (kn : Int)) (upd H3 Kk (.dK (dN (ks ++ [(u, kn)])))) := by
        have := DPut.k (k := Sum.inl (u : Int)) (v := V.int (kn : Int)) hK3 hl2
        rw [put_new hkl] at this
        exact this
      refine ⟨_, rfl, _, rfl, p, C, dx, _, _, rfl, hob3, TC.cl, TC.nK, flds_ks .., _, rfl, Kk, _, rfl, hput2, ?_⟩
      have kk4 : ∀ b z, H b = some z → ¬ Own p R Kk S b → upd H3 Kk (.dK (dN (ks ++ [(u, kn)]))) b = some z := fun b z e hb => by
        rw [upd_ne (fun z => hb (.inr (.inr (.inl z))))]
        exact kk3 b z e fun z => hb (.inr (.inl z))
      have D4 : LineAt C (upd H3 Kk (.dK (dN (ks ++ [(u, kn)])))) p R Kk L S { a with codes := Kh297.insert (u, ⟨l, kn⟩) a.codes } (rs ++ [(u, wid l)]) (ks ++ [(u, kn)]) :=
        ⟨⟨dx, by rw [upd_ne npK]; exact hob3⟩, by rw [upd_ne D.rk]; exact hR3, upd_same, by rw [upd_ne nKL.symm]; exact hL3, by rw [upd_ne D.kS.symm]; exact hS3, D.rk, D.rS, D.kS, D.rel.open_free (by omega) hcl hl8 hk htot, D.len⟩
      have lam4 := lam.mono_own (D := Own p R Kk S) kk4 D.own
      have f4 : ∀ b, upd H3 Kk (.dK (dN (ks ++ [(u, kn)]))) b = none → H b = none := fun b hb => by
        by_cases h1 : b = Kk
        · rw [h1, upd_same] at hb; cases hb
        · rw [upd_ne h1] at hb; exact f3 _ hb
      generalize upd H3 Kk (.dK (dN (ks ++ [(u, kn)]))) = H4 at *
      refine ⟨_, rfl, by show 1 ≤ sizeLine; decide, fun q hq => ?_⟩
      exact k _ R Kk L S q _ _ (D4.mono (same_new hq)) (lam4.mono (same_new hq)) (fun b z e hb _ => same_new hq _ _ (kk4 b z e hb)) (fun b hb => .inl hb) (.inl rfl) upd_same (f4 _ hq)
end
end Cl
end
section
set_option Elab.async false
set_option linter.all false
set_option maxRecDepth 100000
set_option maxHeartbeats 4000000
namespace Cl
open PySem PySem.Spec PyProof.Rows L2 CM
open Kh297 (Abs doing begun levelOf)
abbrev sHasRow : Stmt := top 38
abbrev sOne : Stmt := top 39
abbrev sAns : Stmt := top 40
inductive Asks : Int → List Int → List Int → Kh297.Call → Prop where
  | begin_ : Asks 0 [] [] .begin_
  | open_ (u r : Nat) : Asks 1 [(u : Int), (r : Int)] [] (.open_ u r)
  | close (u : Nat) : Asks 2 [(u : Int)] [] (.close u)
  | code (u : Nat) : Asks 3 [(u : Int)] [] (.code u)
  | say (u r : Nat) (v : List Int) (h : (levelOf r).isSome = true → v.length = r) (h2 : v.length ≤ 256) : Asks 4 [(u : Int), (r : Int)] v (.say u r v)
  | line : Asks 5 [] [] .line
  | hear (u r : Nat) (v : List Int) (h : v.length = 256) : Asks 6 [(u : Int), (r : Int)] v (.hear u r v)
section
variable {P : Program} {w : World} {K : PySem.W.Frag} {mg : Str → Option Value} {base : Heap}
def spHasRow : Sp := fun vs H Q _ => ∃ c : Int, vs = [.int c] ∧ Q (.bl (decide (c = 4) || decide (c = 6))) H
theorem scHasRow : FnScope ["call"] ["call"] (defScope sHasRow) := ⟨rfl, rfl, rfl, by decide +kernel, rfl, by decide +kernel, by decide +kernel⟩
theorem dec_int (a b : Int) : decide (V.int a = V.int b) = decide (a = b) := by
  by_cases h : a = b
  · rw [h, decide_eq_true rfl, decide_eq_true rfl]
  · rw [decide_eq_false h, decide_eq_false fun z => h (intV z)]
theorem ok_hasRow {f : Addr} {fd : FuncData} (F : Fun K "has_row" "has_row" sHasRow f fd) (T : Txt K mg) : FnOk P w K mg base CX0 1 f fd ["call"] spHasRow := by
  refine F.ok scHasRow (fun vs H Q E h => ?_) (fun cdv A outer s H vs Q E hr h => ?_)
  · obtain ⟨c, rfl, _⟩ := h
    rfl
  · obtain ⟨c, rfl, k⟩ := h
    obtain ⟨t4, h4⟩ := T.call4
    obtain ⟨t6, h6⟩ := T.call6
    refine ⟨_, pss_one (ps_ret (pe_or (pe_cmpR op_eq (pv 0) (pe_glob (v := .int 4) rfl h4 ⟨t4, rfl⟩) (nomark _)) (pe_one (pe_cmpR op_eq (pv 0) (pe_glob (v := .int 6) rfl h6 ⟨t6, rfl⟩) (nomark _))))), ?_⟩
    refine ⟨_, rfl, rfl, _, rfl, ?_⟩
    rw [dec_int]
    cases hc : decide (c = 4) with
    | true =>
      rw [hc] at k
      exact iteT k
    | false =>
      rw [hc, Bool.false_or, ← dec_int] at k
      exact iteF ⟨_, rfl, rfl, k⟩
def spOne (C PT : Addr) : Sp := fun vs H Q _ => ∃ (p R Kk L S nb rb : Addr) (a : Abs) (rs ks : List (Nat × Nat)) (c : Int) (ns row : List Int) (cl : Kh297.Call), vs = [.ref p, .int c, .ref nb, .ref rb] ∧ H nb = some (lI ns) ∧ H rb = some (lI row) ∧ Asks c ns row cl ∧ a.said.length < 1000 ∧
  LineAt C H p R Kk L S a rs ks ∧ LamOk PT lamPos lamQual H ∧ After C PT H p R Kk L S (doing a cl).1 (due a cl) Q
theorem scOne : FnScope ["shared", "call", "numbers", "row"] ["shared", "call", "numbers", "row"] (defScope sOne) := ⟨rfl, rfl, rfl, by decide +kernel, rfl, by decide +kernel, by decide +kernel⟩
theorem ok_one {f fB fO fX fC fS fT fH C PT : Addr} {fd gB gO gX gC gS gT gH : FuncData} (F : Fun K "answer_one" "answer_one" sOne f fd) (T : Txt K mg) (TC : TxtC K mg C)
    (GB : FnOk P w K mg base CX0 2 fB gB ["self"] (spBegin C)) (bB : Binds K gB ["self"] []) (mB : Meth K C "begin" fB)
    (GO : FnOk P w K mg base CX0 7 fO gO ["self", "user", "rate"] (spOpen C PT)) (bO : Binds K gO ["self", "user", "rate"] []) (mO : Meth K C "open_user" fO)
    (GX : FnOk P w K mg base CX0 1 fX gX ["self", "user"] (spClose C PT)) (bX : Binds K gX ["self", "user"] []) (mX : Meth K C "close_user" fX)
    (GC : FnOk P w K mg base CX0 2 fC gC ["self", "user"] (spCode C PT)) (bC : Binds K gC ["self", "user"] []) (mC : Meth K C "code_of" fC)
    (GS : FnOk P w K mg base CX0 3 fS gS ["self", "user", "rate", "symbols"] (spSay C PT)) (bS : Binds K gS ["self", "user", "rate", "symbols"] []) (mS : Meth K C "say" fS)
    (GT : FnOk P w K mg base CX0 2 fT gT ["self"] (spTell C PT)) (bT : Binds K gT ["self"] []) (mT : Meth K C "tell_line" fT)
    (GH : FnOk P w K mg base CX0 3 fH gH ["self", "user", "rate", "row"] (spHear C PT)) (bH : Binds K gH ["self", "user", "rate", "row"] []) (mH : Meth K C "hear" fH) :
    FnOk P w K mg base CX0 8 f fd ["shared", "call", "numbers", "row"] (spOne C PT) := by
  refine F.ok scOne (fun vs H Q E h => ?_) (fun cdv A outer s H vs Q E hr h => ?_)
  · obtain ⟨p, R, Kk, L, S, nb, rb, a, rs, ks, c, ns, row, cl, rfl, _⟩ := h
    rfl
  · obtain ⟨p, R, Kk, L, S, nb, rb, a, rs, ks, c, ns, row, cl, rfl, hn, hrow, as, hsl, D, lam, k⟩ := h
    obtain ⟨t0, h0⟩ := T.call0
    obtain ⟨t1, h1⟩ := T.call1
    obtain ⟨t2, h2⟩ := T.call2
    obtain ⟨t3, h3⟩ := T.call3
    obtain ⟨t4, h4⟩ := T.call4
    obtain ⟨t5, h5⟩ := T.call5
    have hr1 : Room 1 _ := hr.mono (by decide)
    have hr2 : Room 2 _ := hr.mono (by decide)
    have hr3 : Room 3 _ := hr.mono (by decide)
    refine ⟨_, pss_cons (ps_if (pt_cmpR op_eq (pv 1) (pe_glob (v := .int 0) rfl h0 ⟨t0, rfl⟩) (nomark _)) (pss_one (ps_ret (pe_meth0 (pv 0) TC.cl mB GB hr2 bB .nil pass0))) pss_nil)
      (pss_cons (ps_if (pt_cmpR op_eq (pv 1) (pe_glob (v := .int 1) rfl h1 ⟨t1, rfl⟩) (nomark _)) (pss_one (ps_ret (pe_meth (pv 0) TC.cl mO GO hr bO .nil pass0 (pa_cons (pe_ix ix_list (pv 2) pe_int (fun _ _ => rfl)) (pa_cons (pe_ix ix_list (pv 2) pe_int (fun _ _ => rfl)) pa_nil))))) pss_nil)
      (pss_cons (ps_if (pt_cmpR op_eq (pv 1) (pe_glob (v := .int 2) rfl h2 ⟨t2, rfl⟩) (nomark _)) (pss_one (ps_ret (pe_meth (pv 0) TC.cl mX GX hr1 bX .nil pass0 (pa_cons (pe_ix ix_list (pv 2) pe_int (fun _ _ => rfl)) pa_nil)))) pss_nil)
      (pss_cons (ps_if (pt_cmpR op_eq (pv 1) (pe_glob (v := .int 3) rfl h3 ⟨t3, rfl⟩) (nomark _)) (pss_one (ps_ret (pe_meth (pv 0) TC.cl mC GC hr2 bC .nil pass0 (pa_cons (pe_ix ix_list (pv 2) pe_int (fun _ _ => rfl)) pa_nil)))) pss_nil)
      (pss_cons (ps_if (pt_cmpR op_eq (pv 1) (pe_glob (v := .int 4) rfl h4 ⟨t4, rfl⟩) (nomark _)) (pss_one (ps_ret (pe_meth (pv 0) TC.cl mS GS hr3 bS .nil pass0 (pa_cons (pe_ix ix_list (pv 2) pe_int (fun _ _ => rfl)) (pa_cons (pe_ix ix_list (pv 2) pe_int (fun _ _ => rfl)) (pa_cons (pv 3) pa_nil)))))) pss_nil)
      (pss_cons (ps_if (pt_cmpR op_eq (pv 1) (pe_glob (v := .int 5) rfl h5 ⟨t5, rfl⟩) (nomark _)) (pss_one (ps_ret (pe_meth0 (pv 0) TC.cl mT GT hr2 bT .nil pass0))) pss_nil)
      (pss_one (ps_ret (pe_meth (pv 0) TC.cl mH GH hr3 bH .nil pass0 (pa_cons (pe_ix ix_list (pv 2) pe_int (fun _ _ => rfl)) (pa_cons (pe_ix ix_list (pv 2) pe_int (fun _ _ => rfl)) (pa_cons (pv 3) pa_nil))))))))))), ?_⟩
    obtain ⟨dx, hob⟩ := D.ob
    have fl : ∀ m : Str, ¬ m = "rates" → ¬ m = "ks" → ¬ m = "row" → ¬ m = "said" → (flds R Kk L S).lookup m = none := fun m => flds_no R Kk L S
    have gN : SqL K H nb (ns.map V.int) := SqL.of hn
    refine ⟨_, rfl, rfl, _, rfl, ?_⟩
    rw [dec_int]
    cases as with
    | begin_ =>
      refine iteS rfl ?_
      refine ⟨_, rfl, p, dx, _, rfl, hob, fl _ (by decide +kernel) (by decide +kernel) (by decide +kernel) (by decide +kernel), p, dx, _, rfl, hob, .inr ⟨_, _, _, _, rfl⟩, fun R' Kk' L' S' q H' hR' hK' hL' hS' hq D' st hq' => ?_⟩
      have kk : ∀ b z, H b = some z → ¬ Own p R Kk S b → H' b = some z := fun b z e hb => st b z e fun z => hb (.inl z)
      refine k H' R' Kk' L' S' q [] [] D' (lam.mono_own (D := Own p R Kk S) kk D.own) (fun b z e hb _ => kk b z e hb) (fun b hb => ?_) (.inr hL') hq' hq
      rcases hb with rfl | rfl | rfl | rfl
      · exact .inl (.inl rfl)
      · exact .inr hR'
      · exact .inr hK'
      · exact .inr hS'
    | open_ u r =>
      refine iteN (by decide) ?_
      refine ⟨_, rfl, rfl, _, rfl, ?_⟩
      rw [dec_int]
      refine iteS rfl ?_
      refine ⟨_, rfl, p, dx, _, rfl, hob, fl _ (by decide +kernel) (by decide +kernel) (by decide +kernel) (by decide +kernel), ?_⟩
      refine ⟨_, rfl, nb, _, _, _, rfl, rfl, gN, at_int (j := 0) rfl, _, rfl, nb, _, _, _, rfl, rfl, gN, at_int (j := 1) rfl, ?_⟩
      exact ⟨p, R, Kk, L, S, a, rs, ks, u, r, rfl, D, lam, k⟩
    | close u =>
      refine iteN (by decide) ?_
      refine ⟨_, rfl, rfl, _, rfl, ?_⟩
      rw [dec_int]
      refine iteN (by decide) ?_
      refine ⟨_, rfl, rfl, _, rfl, ?_⟩
      rw [dec_int]
      refine iteS rfl ?_
      refine ⟨_, rfl, p, dx, _, rfl, hob, fl _ (by decide +kernel) (by decide +kernel) (by decide +kernel) (by decide +kernel), ?_⟩
      refine ⟨_, rfl, nb, _, _, _, rfl, rfl, gN, at_int (j := 0) rfl, ?_⟩
      exact ⟨p, R, Kk, L, S, a, rs, ks, u, rfl, D, lam, k⟩
    | code u =>
      refine iteN (by decide) ?_
      refine ⟨_, rfl, rfl, _, rfl, ?_⟩
      rw [dec_int]
      refine iteN (by decide) ?_
      refine ⟨_, rfl, rfl, _, rfl, ?_⟩
      rw [dec_int]
      refine iteN (by decide) ?_
      refine ⟨_, rfl, rfl, _, rfl, ?_⟩
      rw [dec_int]
      refine iteS rfl ?_
      refine ⟨_, rfl, p, dx, _, rfl, hob, fl _ (by decide +kernel) (by decide +kernel) (by decide +kernel) (by decide +kernel), ?_⟩
      refine ⟨_, rfl, nb, _, _, _, rfl, rfl, gN, at_int (j := 0) rfl, ?_⟩
      exact ⟨p, R, Kk, L, S, a, rs, ks, u, rfl, D, lam, k⟩
    | say u r _ hv hv2 =>
      refine iteN (by decide) ?_
      refine ⟨_, rfl, rfl, _, rfl, ?_⟩
      rw [dec_int]
      refine iteN (by decide) ?_
      refine ⟨_, rfl, rfl, _, rfl, ?_⟩
      rw [dec_int]
      refine iteN (by decide) ?_
      refine ⟨_, rfl, rfl, _, rfl, ?_⟩
      rw [dec_int]
      refine iteN (by decide) ?_
      refine ⟨_, rfl, rfl, _, rfl, ?_⟩
      rw [dec_int]
      refine iteS rfl ?_
      refine ⟨_, rfl, p, dx, _, rfl, hob, fl _ (by decide +kernel) (by decide +kernel) (by decide +kernel) (by decide +kernel), ?_⟩
      refine ⟨_, rfl, nb, _, _, _, rfl, rfl, gN, at_int (j := 0) rfl, _, rfl, nb, _, _, _, rfl, rfl, gN, at_int (j := 1) rfl, _, rfl, ?_⟩
      exact ⟨p, R, Kk, L, S, rb, a, rs, ks, u, r, _, rfl, hrow, hv, hv2, hsl, D, lam, k⟩
    | line =>
      refine iteN (by decide) ?_
      refine ⟨_, rfl, rfl, _, rfl, ?_⟩
      rw [dec_int]
      refine iteN (by decide) ?_
      refine ⟨_, rfl, rfl, _, rfl, ?_⟩
      rw [dec_int]
      refine iteN (by decide) ?_
      refine ⟨_, rfl, rfl, _, rfl, ?_⟩
      rw [dec_int]
      refine iteN (by decide) ?_
      refine ⟨_, rfl, rfl, _, rfl, ?_⟩
      rw [dec_int]
      refine iteN (by decide) ?_
      refine ⟨_, rfl, rfl, _, rfl, ?_⟩
      rw [dec_int]
      refine iteS rfl ?_
      refine ⟨_, rfl, p, dx, _, rfl, hob, fl _ (by decide +kernel) (by decide +kernel) (by decide +kernel) (by decide +kernel), ?_⟩
      exact ⟨p, R, Kk, L, S, a, rs, ks, rfl, D, lam, k⟩
    | hear u r _ hv =>
      refine iteN (by decide) ?_
      refine ⟨_, rfl, rfl, _, rfl, ?_⟩
      rw [dec_int]
      refine iteN (by decide) ?_
      refine ⟨_, rfl, rfl, _, rfl, ?_⟩
      rw [dec_int]
      refine iteN (by decide) ?_
      refine ⟨_, rfl, rfl, _, rfl, ?_⟩
      rw [dec_int]
      refine iteN (by decide) ?_
      refine ⟨_, rfl, rfl, _, rfl, ?_⟩
      rw [dec_int]
      refine iteN (by decide) ?_
      refine ⟨_, rfl, rfl, _, rfl, ?_⟩
      rw [dec_int]
      refine iteN (by decide) ?_
      refine ⟨_, rfl, p, dx, _, rfl, hob, fl _ (by decide +kernel) (by decide +kernel) (by decide +kernel) (by decide +kernel), ?_⟩
      refine ⟨_, rfl, nb, _, _, _, rfl, rfl, gN, at_int (j := 0) rfl, _, rfl, nb, _, _, _, rfl, rfl, gN, at_int (j := 1) rfl, _, rfl, ?_⟩
      exact ⟨p, R, Kk, L, S, rb, a, rs, ks, u, r, _, rfl, hrow, hv, D, lam, k⟩
end
end Cl
end
section
set_option Elab.async false
set_option linter.all false
set_option maxRecDepth 100000
set_option maxHeartbeats 4000000
namespace Cl
open PySem PySem.Spec PyProof.Rows L2 CM
open Kh297 (Abs doing begun levelOf)
theorem call_some {p : Int} {r t : List Int} {c : List (List Int)} {n k : Nat} (hs : PyKh297.shape p = some (n, k)) (h : PyFlat.call PyKh297.shape (p :: r) = some (c, t)) : n ≤ r.length ∧ ∃ xs, PyFlat.rows k (r.drop n) = some (xs, t) ∧ c = (p :: r.take n) :: xs := by
  unfold PyFlat.call at h
  dsimp only at h
  rw [hs] at h
  dsimp only at h
  by_cases hn : r.length < n
  · rw [if_pos hn] at h
    cases h
  · rw [if_neg hn] at h
    refine ⟨by omega, ?_⟩
    cases e : PyFlat.rows k (r.drop n) with
    | none => rw [e] at h; cases h
    | some q =>
      obtain ⟨xs, t'⟩ := q
      rw [e] at h
      have h2 : ((p :: r.take n) :: xs, t') = (c, t) := Option.some.inj h
      cases h2
      exact ⟨xs, rfl, rfl⟩
theorem rows0 {r t : List Int} {xs : List (List Int)} (h : PyFlat.rows 0 r = some (xs, t)) : xs = [] ∧ t = r := by
  have h2 : (([] : List (List Int)), r) = (xs, t) := Option.some.inj h
  cases h2
  exact ⟨rfl, rfl⟩
theorem rows1 {r t : List Int} {xs : List (List Int)} (h : PyFlat.rows 1 r = some (xs, t)) : ∃ v : List Int, xs = [v] ∧ r = (v.length : Int) :: (v ++ t) := by
  cases r with
  | nil => cases h
  | cons n r =>
    unfold PyFlat.rows at h
    unfold PyFlat.row at h
    dsimp only at h
    by_cases hn : 0 ≤ n ∧ n.toNat ≤ r.length
    · rw [if_pos hn] at h
      have h2 : ([r.take n.toNat], r.drop n.toNat) = (xs, t) := Option.some.inj h
      cases h2
      refine ⟨_, rfl, ?_⟩
      rw [List.take_append_drop, List.length_take, Nat.min_eq_left hn.2]
      congr 1
      omega
    · rw [if_neg hn] at h
      cases h
theorem two {r : List Int} (h : 2 ≤ r.length) : ∃ x y r', r = x :: y :: r' := by
  match r, h with
  | x :: y :: r', _ => exact ⟨x, y, r', rfl⟩
theorem one {r : List Int} (h : 1 ≤ r.length) : ∃ x r', r = x :: r' := by
  match r, h with
  | x :: r', _ => exact ⟨x, r', rfl⟩
theorem nat_of {x : Int} (h : Kh297Neutral.natural x 32 = true) : ∃ u : Nat, x = (u : Int) := by
  unfold Kh297Neutral.natural at h
  rw [Bool.and_eq_true] at h
  have := of_decide_eq_true h.1
  exact ⟨x.toNat, by omega⟩
theorem step_of {p : Int} {r t : List Int} {c : List (List Int)} (h : PyFlat.call PyKh297.shape (p :: r) = some (c, t)) (ha : Kh297Neutral.asked1 (PyKh297.whole c) = true) :
    ∃ (ns row : List Int) (cl : Kh297.Call), behinds.lookup p = some (ns.length : Int) ∧ Asks p ns row cl ∧ (∀ s, Kh297Neutral.step s (PyKh297.whole c) = ((doing s cl).1, due s cl)) ∧
      (((p = 4 ∨ p = 6) ∧ r = ns ++ ((row.length : Int) :: (row ++ t))) ∨ (¬ (p = 4 ∨ p = 6) ∧ r = ns ++ t ∧ row = [])) := by
  by_cases h0 : p = 0
  · subst h0
    obtain ⟨_, xs, hx, rfl⟩ := call_some (n := 0) (k := 0) rfl h
    obtain ⟨rfl, rfl⟩ := rows0 hx
    exact ⟨[], [], .begin_, rfl, .begin_, fun s => rfl, .inr ⟨by decide, rfl, rfl⟩⟩
  by_cases h1 : p = 1
  · subst h1
    obtain ⟨hl, xs, hx, rfl⟩ := call_some (n := 2) (k := 0) rfl h
    obtain ⟨rfl, rfl⟩ := rows0 hx
    obtain ⟨x, y, r', rfl⟩ := two hl
    have ha : (Kh297Neutral.natural x 32 && Kh297Neutral.natural y 32) = true := ha
    rw [Bool.and_eq_true] at ha
    obtain ⟨u, rfl⟩ := nat_of ha.1
    obtain ⟨v, rfl⟩ := nat_of ha.2
    exact ⟨[(u : Int), (v : Int)], [], .open_ u v, rfl, .open_ u v, fun s => rfl, .inr ⟨by decide, rfl, rfl⟩⟩
  by_cases h2 : p = 2
  · subst h2
    obtain ⟨hl, xs, hx, rfl⟩ := call_some (n := 1) (k := 0) rfl h
    obtain ⟨rfl, rfl⟩ := rows0 hx
    obtain ⟨x, r', rfl⟩ := one hl
    have ha : Kh297Neutral.natural x 32 = true := ha
    obtain ⟨u, rfl⟩ := nat_of ha
    exact ⟨[(u : Int)], [], .close u, rfl, .close u, fun s => rfl, .inr ⟨by decide, rfl, rfl⟩⟩
  by_cases h3 : p = 3
  · subst h3
    obtain ⟨hl, xs, hx, rfl⟩ := call_some (n := 1) (k := 0) rfl h
    obtain ⟨rfl, rfl⟩ := rows0 hx
    obtain ⟨x, r', rfl⟩ := one hl
    have ha : Kh297Neutral.natural x 32 = true := ha
    obtain ⟨u, rfl⟩ := nat_of ha
    exact ⟨[(u : Int)], [], .code u, rfl, .code u, fun s => rfl, .inr ⟨by decide, rfl, rfl⟩⟩
  by_cases h4 : p = 4
  · subst h4
    obtain ⟨hl, xs, hx, rfl⟩ := call_some (n := 2) (k := 1) rfl h
    obtain ⟨x, y, r', rfl⟩ := two hl
    obtain ⟨v, rfl, hv⟩ := rows1 hx
    have ha : ((Kh297Neutral.natural x 32 && Kh297Neutral.natural y 32) && (v.length == (if (Kh297.levelOf (Kh297Neutral.nat y)).isSome then Kh297Neutral.nat y else 0)) && v.all fun x => decide (-32768 ≤ x) && decide (x ≤ 32767)) = true := ha
    rw [Bool.and_eq_true, Bool.and_eq_true, Bool.and_eq_true] at ha
    obtain ⟨u, rfl⟩ := nat_of ha.1.1.1
    obtain ⟨w, rfl⟩ := nat_of ha.1.1.2
    have hlen : v.length = (if (levelOf w).isSome then w else 0) := eq_of_beq ha.1.2
    refine ⟨[(u : Int), (w : Int)], v, .say u w v, rfl, .say u w v (fun z => by rw [hlen, if_pos z]) ?_, fun s => rfl, .inl ⟨.inl rfl, ?_⟩⟩
    · rw [hlen]
      cases e : levelOf w with
      | none => exact Nat.zero_le _
      | some l =>
        obtain ⟨_, rfl⟩ := levelOf_some e
        exact wid_le l
    · have hv : r' = (v.length : Int) :: (v ++ t) := hv
      rw [hv]
      rfl
  by_cases h5 : p = 5
  · subst h5
    obtain ⟨_, xs, hx, rfl⟩ := call_some (n := 0) (k := 0) rfl h
    obtain ⟨rfl, rfl⟩ := rows0 hx
    exact ⟨[], [], .line, rfl, .line, fun s => rfl, .inr ⟨by decide, rfl, rfl⟩⟩
  by_cases h6 : p = 6
  · subst h6
    obtain ⟨hl, xs, hx, rfl⟩ := call_some (n := 2) (k := 1) rfl h
    obtain ⟨x, y, r', rfl⟩ := two hl
    obtain ⟨v, rfl, hv⟩ := rows1 hx
    have ha : ((Kh297Neutral.natural x 32 && Kh297Neutral.natural y 32) && (v.length == 256) && v.all Kh297Neutral.whole32) = true := ha
    rw [Bool.and_eq_true, Bool.and_eq_true, Bool.and_eq_true] at ha
    obtain ⟨u, rfl⟩ := nat_of ha.1.1.1
    obtain ⟨w, rfl⟩ := nat_of ha.1.1.2
    have hlen : v.length = 256 := eq_of_beq ha.1.2
    refine ⟨[(u : Int), (w : Int)], v, .hear u w v, rfl, .hear u w v hlen, fun s => rfl, .inl ⟨.inr rfl, ?_⟩⟩
    have hv : r' = (v.length : Int) :: (v ++ t) := hv
    rw [hv]
    rfl
  · exfalso
    have e : PyKh297.shape p = none := by
      unfold PyKh297.shape
      rw [if_neg h0, if_neg h1, if_neg h2, if_neg h3, if_neg h4, if_neg h5, if_neg h6]
    unfold PyFlat.call at h
    dsimp only at h
    rw [e] at h
    cases h
theorem said_len (a : Abs) (cl : Kh297.Call) : (doing a cl).1.said.length ≤ a.said.length + 1 := by
  cases cl with
  | begin_ => exact Nat.zero_le _
  | open_ u r =>
    unfold doing
    dsimp only
    repeat' split
    all_goals first
      | exact Nat.le_succ _
      | (show (Kh297.opened a u _).1.said.length ≤ _; unfold Kh297.opened; split <;> exact Nat.le_succ _)
  | close u =>
    unfold doing
    dsimp only
    repeat' split
    all_goals exact Nat.le_succ _
  | code u =>
    unfold doing
    dsimp only
    repeat' split
    all_goals exact Nat.le_succ _
  | say u r v =>
    unfold doing
    dsimp only
    repeat' split
    all_goals first
      | exact Nat.le_succ _
      | exact Nat.le_refl _
  | line => exact Nat.zero_le _
  | hear u r v =>
    unfold doing
    dsimp only
    repeat' split
    all_goals exact Nat.le_succ _
theorem flat3 : ∀ l : List Kh297.Ev, (l.flatMap fun e => [(e.user : Int), (e.level : Int), (e.k : Int)]).length = 3 * l.length
  | [] => rfl
  | e :: l => by
    rw [List.flatMap_cons, List.length_append, flat3 l, List.length_cons]
    show 3 + 3 * l.length = 3 * (l.length + 1)
    omega
theorem due_len {a : Abs} {cl : Kh297.Call} (h1 : (doing a cl).1.codes.length ≤ 256) (h2 : a.line.length = 256) : (due a cl).length ≤ 1000 := by
  unfold due
  rw [List.length_cons, List.length_append, flat3]
  cases cl with
  | begin_ => show 3 * 0 + 0 + 1 ≤ 1000; decide
  | open_ u r =>
    have e : doing a (.open_ u r) = (match levelOf r with
      | none => (a, [], Kh297.say (-22))
      | some l => if 255 < u then (a, [], Kh297.say (-22)) else if a.said ≠ [] then (a, [], Kh297.say (-16)) else if (a.has u).isSome then (a, [], Kh297.say (-17)) else if 256 < Kh297.rates a + r then (a, [], Kh297.say (-28)) else ((Kh297.opened a u l).1, (Kh297.opened a u l).2.1, Kh297.say ((Kh297.opened a u l).2.2 : Nat))) := rfl
    rw [e] at h1 ⊢
    cases hl : levelOf r with
    | none => show 3 * 0 + 0 + 1 ≤ 1000; decide
    | some l =>
      rw [hl] at h1
      dsimp only at h1 ⊢
      by_cases c1 : 255 < u
      · rw [if_pos c1]; show 3 * 0 + 0 + 1 ≤ 1000; decide
      rw [if_neg c1] at h1 ⊢
      by_cases c2 : a.said ≠ []
      · rw [if_pos c2]; show 3 * 0 + 0 + 1 ≤ 1000; decide
      rw [if_neg c2] at h1 ⊢
      by_cases c3 : (a.has u).isSome = true
      · rw [if_pos c3]; show 3 * 0 + 0 + 1 ≤ 1000; decide
      rw [if_neg c3] at h1 ⊢
      by_cases c4 : 256 < Kh297.rates a + r
      · rw [if_pos c4]; show 3 * 0 + 0 + 1 ≤ 1000; decide
      rw [if_neg c4] at h1 ⊢
      have h1 : (Kh297.opened a u l).1.codes.length ≤ 256 := h1
      show 3 * (Kh297.opened a u l).2.1.length + 0 + 1 ≤ 1000
      have : (Kh297.opened a u l).2.1.length ≤ 256 := by
        unfold Kh297.opened at h1 ⊢
        split
        · exact Nat.zero_le _
        · rename_i hk
          rw [hk] at h1
          dsimp only at h1 ⊢
          rw [List.length_map]
          unfold Kh297.moved
          exact Nat.le_trans (List.length_filter_le _ _) h1
      omega
  | close u =>
    unfold doing
    dsimp only
    repeat' split
    all_goals (show 3 * 0 + 0 + 1 ≤ 1000; decide)
  | code u =>
    unfold doing
    dsimp only
    repeat' split
    all_goals first
      | (show 3 * 0 + 0 + 1 ≤ 1000; decide)
      | (show 3 * 0 + 2 + 1 ≤ 1000; decide)
  | say u r v =>
    unfold doing
    dsimp only
    repeat' split
    all_goals (show 3 * 0 + 0 + 1 ≤ 1000; decide)
  | line =>
    show 3 * 0 + a.line.length + 1 ≤ 1000
    omega
  | hear u r v =>
    have key : ∀ c : Kh296.Code, 3 * 0 + ((Kh296.hear c v).map fun x => Kh297.nearest x c.level).length + 1 ≤ 1000 := fun c => by
      rw [List.length_map, hear_eq, List.length_map, List.length_range]
      have := wid_le c.level
      omega
    unfold doing
    dsimp only
    repeat' split
    all_goals first
      | (show 3 * 0 + 0 + 1 ≤ 1000; decide)
      | exact key _
end Cl
end
section
set_option Elab.async false
set_option linter.all false
set_option maxRecDepth 100000
set_option maxHeartbeats 8000000
namespace L2
open PySem PySem.Spec PyProof.Rows
theorem SqL.but {K : PySem.W.Frag} {H H' : Hp} {a PT : Addr} {xs : List V} {ps : Array Value} (h : SqL K H a xs) (hP : H PT = some (.tbl ps)) (k : ∀ b z, H b = some z → b ≠ PT → H' b = some z) : SqL K H' a xs := by
  rcases h with (h | ⟨o, h⟩) | h
  · exact .inl (.inl (k _ _ h fun z => by rw [z, hP] at h; cases h))
  · exact .inl (.inr ⟨o, k _ _ h fun z => by rw [z, hP] at h; cases h⟩)
  · exact .inr h
end L2
namespace Cl
open PySem PySem.Spec PyProof.Rows L2 CM
open Kh297 (Abs doing begun levelOf)
theorem calls_cons {f : Nat} {p : Int} {r : List Int} {cs : List (List (List Int))} (h : PyFlat.calls PyKh297.shape f (p :: r) = some cs) :
    ∃ f' c t cs', PyFlat.call PyKh297.shape (p :: r) = some (c, t) ∧ PyFlat.calls PyKh297.shape f' t = some cs' ∧ cs = c :: cs' := by
  cases f with
  | zero => cases h
  | succ f =>
    unfold PyFlat.calls at h
    cases e : PyFlat.call PyKh297.shape (p :: r) with
    | none => rw [e] at h; cases h
    | some q =>
      obtain ⟨c, t⟩ := q
      rw [e] at h
      dsimp only at h
      cases e2 : PyFlat.calls PyKh297.shape f t with
      | none => rw [e2] at h; cases h
      | some cs' =>
        rw [e2] at h
        exact ⟨f, c, t, cs', rfl, e2, (Option.some.inj h).symm⟩
theorem calls_nil {f : Nat} {cs : List (List (List Int))} (h : PyFlat.calls PyKh297.shape f [] = some cs) : cs = [] := by
  unfold PyFlat.calls at h
  exact (Option.some.inj h).symm
theorem cut_int {A B C : List Int} {i j : Int} (hi : i = (A.length : Int)) (hj : j = ((A.length + B.length : Nat) : Int)) : cutV ((A ++ (B ++ C)).map V.int) (some i) (some j) = B.map V.int := by
  subst hi hj
  unfold cutV
  rw [HT.sIx_nat, HT.sIx_nat, List.length_map, List.length_append, List.length_append, Nat.min_eq_left (by omega), Nat.min_eq_left (by omega), Nat.add_sub_cancel_left, ← List.map_drop, ← List.map_take, List.drop_left, List.take_left]
theorem get_mid {A B : List Int} {x : Int} : (A ++ (x :: B))[A.length]? = some x := by
  rw [List.getElem?_append_right (Nat.le_refl _), Nat.sub_self]
  rfl
theorem LineAt.keep {C : Addr} {H H' : Hp} {p R Kk L S t : Addr} {a : Abs} {rs ks : List (Nat × Nat)} (D : LineAt C H p R Kk L S a rs ks) (s : ∀ b z, H b = some z → b ≠ t → H' b = some z) (h1 : ¬ Own p R Kk S t) (h2 : L ≠ t) : LineAt C H' p R Kk L S a rs ks := by
  obtain ⟨⟨dx, e1⟩, e2, e3, e4, e5, e6, e7, e8, e9, e10⟩ := D
  exact ⟨⟨dx, s _ _ e1 fun z => h1 (.inl z.symm)⟩, s _ _ e2 fun z => h1 (.inr (.inl z.symm)), s _ _ e3 fun z => h1 (.inr (.inr (.inl z.symm))), s _ _ e4 h2, s _ _ e5 fun z => h1 (.inr (.inr (.inr z.symm))), e6, e7, e8, e9, e10⟩
theorem lam_keep {PT t : Addr} {H H' : Hp} {xs : List V} (lam : LamOk PT lamPos lamQual H) (ht : H t = some (.lst xs)) (s : ∀ b z, H b = some z → b ≠ t → H' b = some z) : LamOk PT lamPos lamQual H' := by
  obtain ⟨ps, h1, h2, h3⟩ := lam.ex
  refine ⟨ps, s _ _ h1 (fun z => by rw [z, ht] at h1; cases h1), h2, ?_⟩
  rcases h3 with h3 | ⟨c', h3, h4⟩
  · exact .inl h3
  · exact .inr ⟨c', h3, s _ _ h4 fun z => by rw [z, ht] at h4; cases h4⟩
def placeOf (l : List Int) (σ : L2.St) : Nat := match σ[3]? with
  | some (some (V.int z)) => l.length - z.toNat
  | _ => 0
theorem iteS' {b : Bool} {A B : Prop} (hb : b = false) (h : B) : if b = true then A else B := by
  rw [if_neg (by rw [hb]; decide)]
  exact h
section
variable {P : Program} {w : World} {K : PySem.W.Frag} {mg : Str → Option Value} {base : Heap}
def spAns (K : PySem.W.Frag) (PT : Addr) : Sp := fun vs H Q _ => ∃ (ca : Addr) (l : List Int), vs = [.ref ca] ∧ SqL K H ca (l.map V.int) ∧ l.length ≤ 30000 ∧ PyKh297.answers_asked l = true ∧ LamOk PT lamPos lamQual H ∧ ∀ (H' : Hp) (p : Addr), H' p = some (lI (PyKh297.answers l)) → Q (.ref p) H'
theorem scAns : FnScope ["calls", "shared", "told", "place", "call", "behind", "numbers", "row", "first", "answer"] ["calls"] (defScope sAns) := ⟨rfl, rfl, rfl, by decide +kernel, rfl, by decide +kernel, by decide +kernel⟩
theorem ok_ans {f fI fR fO C PT : Addr} {fd gI gR gO : FuncData} (F : Fun K "answers" "answers" sAns f fd) (T : Txt K mg) (mgC : mg "SharedLine" = some (.ref C)) (M : Mk K C fI)
    (GI : FnOk P w K mg base CX0 3 fI gI ["self"] (spInit C)) (bI : Binds K gI ["self"] [])
    (GR : FnOk P w K mg base CX0 1 fR gR ["call"] spHasRow) (bR : Binds K gR ["call"] []) (mR : mg "has_row" = some (.ref fR)) (kR : PySem.W.keepIn K (.ref fR) = true)
    (GO : FnOk P w K mg base CX0 8 fO gO ["shared", "call", "numbers", "row"] (spOne C PT)) (bO : Binds K gO ["shared", "call", "numbers", "row"] []) (mO : mg "answer_one" = some (.ref fO)) (kO : PySem.W.keepIn K (.ref fO) = true) :
    FnOk P w K mg base CX0 9 f fd ["calls"] (spAns K PT) := by
  refine F.ok scAns (fun vs H Q E h => ?_) (fun cdv A outer s H vs Q E hr h => ?_)
  · obtain ⟨ca, l, rfl, _⟩ := h
    rfl
  · obtain ⟨ca, l, rfl, hS, hlen, hask, lam, k⟩ := h
    obtain ⟨BD, hBD, KBD⟩ := T.behind
    have hu := hu_of hr
    have nd := scAns.nd
    have hr1 : Room 1 _ := hr.mono (by decide)
    have hr4 : Room 4 _ := hr.mono (by decide)
    refine ⟨_, pss_cons (ps_set (i := 1) nd rfl (Or.inl rfl) (pe_make0 M GI hr4 rfl mgC bI .nil pass0))
      (pss_cons (ps_set (i := 2) nd rfl (Or.inl rfl) (pe_lst pa_nil))
      (pss_cons (ps_set (i := 3) nd rfl (Or.inl rfl) pe_int)
      (pss_cons (ps_while PassesOwn.never (pt_cmpR op_lt (pv 3) (pe_callB call_len_seq (by rfl) T.len PySem.boot_len (pa_cons (pv 0) pa_nil)) (nomark _))
        (pss_cons (ps_set (i := 4) nd rfl (Or.inl rfl) (pe_ix ix_list (pv 0) (pv 3) (fun _ _ => rfl)))
        (pss_cons (ps_set (i := 5) nd rfl (Or.inl rfl) (pe_op op_add (pe_op op_add (pv 3) pe_int) (pe_kget (pe_glob (v := .ref BD) rfl hBD rfl) (pv 4) (fun _ _ => rfl))))
        (pss_cons (ps_set (i := 6) nd rfl (Or.inl rfl) (pe_slice sl_list (pv 0) (po_some (pe_op op_add (pv 3) pe_int)) (po_some (pv 5))))
        (pss_cons (ps_set (i := 7) nd rfl (Or.inl rfl) (pe_lst pa_nil))
        (pss_cons (ps_if (pt_val (pe_call GR hr1 rfl mR kR bR .nil pass0 (pa_cons (pv 4) pa_nil)))
          (pss_cons (ps_set (i := 8) nd rfl (Or.inl rfl) (pe_op op_add (pv 5) pe_int))
          (pss_cons (ps_set (i := 5) nd rfl (Or.inl rfl) (pe_op op_add (pv 8) (pe_ix ix_list (pv 0) (pv 5) (fun _ _ => rfl))))
          (pss_one (ps_set (i := 7) nd rfl (Or.inl rfl) (pe_slice sl_list (pv 0) (po_some (pv 8)) (po_some (pv 5))))))) pss_nil)
        (pss_cons (ps_set (i := 9) nd rfl (Or.inl rfl) (pe_call GO hr rfl mO kO bO .nil pass0 (pa_cons (pv 1) (pa_cons (pv 4) (pa_cons (pv 6) (pa_cons (pv 7) pa_nil))))))
        (pss_cons (ps_expr (pe_bm PySem.F.plainAttrs_list PySem.F.slot_list_append PySem.F.type_list_append mt_append (pv 2) (pa_cons (pe_callB call_len_seq (by rfl) T.len PySem.boot_len (pa_cons (pv 9) pa_nil)) pa_nil)))
        (pss_cons (ps_expr (pe_bm PySem.F.plainAttrs_list PySem.F.slot_list_extend PySem.F.type_list_extend mt_extend (pv 2) (pa_cons (pv 9) pa_nil)))
        (pss_one (ps_set (i := 3) nd rfl (Or.inl rfl) (pv 5))))))))))))
      (pss_one (ps_ret (pv 2)))))), ?_⟩
    obtain ⟨pst, hPT, _⟩ := lam.ex
    intro x dx nx ndx nex
    refine ⟨x, dx, rfl, upd_same, fun R0 K0 L0 S0 H1 hR0 hK0 hL0 hS0 D1 st1 => ⟨rfl, ?_⟩⟩
    have s0 : Same H (upd (upd H dx (.own x)) x (.ins C dx [])) := fun b o e => by
      rw [upd_ne (ne_of_none e nx), upd_ne (ne_of_none e ndx)]
      exact e
    have s1 : Same H H1 := Same.made nx ndx st1
    refine ⟨Nat.zero_le _, fun tl htl => ?_⟩
    have s2 := same_new (o := .lst []) htl
    have htl0 : H tl = none := s1.free htl
    obtain ⟨cs0, hcs0, hall0, hle0, hans0⟩ : ∃ cs, PyFlat.calls PyKh297.shape l.length l = some cs ∧ (∀ c ∈ cs, Kh297Neutral.asked1 (PyKh297.whole c) = true) ∧ cs.length ≤ 400 ∧ PyKh297.answers l = PyFlat.told (PyFlat.played Kh297Neutral.step begun (cs.map PyKh297.whole)) := by
      unfold PyKh297.answers_asked PyKh297.calls at hask
      unfold PyKh297.answers PyKh297.calls
      cases e : PyFlat.calls PyKh297.shape l.length l with
      | none => rw [e] at hask; cases hask
      | some cs =>
        rw [e] at hask
        dsimp only at hask ⊢
        rw [Bool.and_eq_true] at hask
        have h1 : cs.length ≤ 400 := by
          have := of_decide_eq_true hask.1
          rw [List.length_map] at this
          exact this
        have h2 : ((cs.map PyKh297.whole).all Kh297Neutral.asked1) = true := by
          have := hask.2
          unfold Kh297Neutral.asked at this
          rw [Bool.and_eq_true] at this
          exact this.2
        refine ⟨cs, rfl, fun c hc => ?_, h1, rfl⟩
        exact List.all_eq_true.mp h2 _ (List.mem_map.mpr ⟨c, hc, rfl⟩)
    refine while_by (fun σ H' => ∃ (dn rest : List Int) (fu : Nat) (cs : List (List (List Int))) (a : Abs) (R Kk L S : Addr) (rs ks : List (Nat × Nat)) (out : List Int) (v4 v5 v6 v7 v8 v9 : Option V),
      σ = [some (.ref ca), some (.ref x), some (.ref tl), some (.int (dn.length : Int)), v4, v5, v6, v7, v8, v9] ∧ l = dn ++ rest ∧ PyFlat.calls PyKh297.shape fu rest = some cs ∧ (∀ c ∈ cs, Kh297Neutral.asked1 (PyKh297.whole c) = true) ∧
      PyKh297.answers l = out ++ PyFlat.told (PyFlat.played Kh297Neutral.step a (cs.map PyKh297.whole)) ∧ LineAt C H' x R Kk L S a rs ks ∧ LamOk PT lamPos lamQual H' ∧ (∀ b z, H b = some z → b ≠ PT → H' b = some z) ∧ H' tl = some (lI out) ∧
      a.said.length + cs.length ≤ 400 ∧ out.length + 1001 * cs.length ≤ 400400 ∧ ¬ Own x R Kk S tl ∧ L ≠ tl ∧ (∀ b, Own x R Kk S b → H b = none)) (fun σ _ => placeOf l σ) ?_ ?_ ?_
    · refine ⟨[], l, l.length, cs0, begun, R0, K0, L0, S0, [], [], [], none, none, none, none, none, none, rfl, rfl, hcs0, hall0, hans0, D1.mono s2, (lam.mono s1).mono s2, fun b z e _ => s2 _ _ (s1 _ _ e), upd_same, by show 0 + _ ≤ _; omega, by show 0 + _ ≤ _; omega, ?_, ?_, ?_⟩
      · intro ho
        rcases D1.own _ ho with ⟨_, _, _, z⟩ | ⟨_, z⟩ | z
        · rw [htl] at z; cases z
        · rw [htl] at z; cases z
        · rcases ho with rfl | rfl | rfl | rfl
          · obtain ⟨_, z⟩ := D1.ob; rw [htl] at z; cases z
          · have z := D1.hR; rw [htl] at z; cases z
          · have z := D1.hK; rw [htl] at z; cases z
          · have z := D1.hS; rw [htl] at z; cases z
      · exact ne_of_none D1.hL htl
      · rintro b (rfl | rfl | rfl | rfl)
        · exact nx
        · exact s0.free hR0
        · exact s0.free hK0
        · exact s0.free hS0
    · rintro σ H' ⟨dn, rest, fu, cs, a, R, Kk, L, S, rs, ks, out, v4, v5, v6, v7, v8, v9, rfl, hl, hcs, hall, hans, D, lam', fr, htl', hsaid, hout, hown, hLt, hfree⟩
      have hS' : SqL K H' ca (l.map V.int) := hS.but hPT fr
      refine ⟨_, rfl, _, rfl, ca, _, rfl, .inl hS', _, _, rfl, rfl, _, rfl, ?_⟩
      rw [List.length_map]
      cases rest with
      | nil =>
        have ecs := calls_nil hcs
        subst ecs
        rw [List.append_nil] at hl
        refine iteN (by rw [hl]; omega) ?_
        refine ⟨_, rfl, k H' tl ?_⟩
        rw [htl', hans]
        show _ = some (lI (out ++ []))
        rw [List.append_nil]
      | cons p r =>
        refine iteS (decide_eq_true (by rw [hl, List.length_append, List.length_cons]; omega)) ?_
        obtain ⟨fu', c, t, cs', hc, hcs', rfl⟩ := calls_cons hcs
        obtain ⟨ns, row, cl, hbl, as, hstep, hform⟩ := step_of hc (hall c (List.mem_cons_self ..))
        have hans' : PyKh297.answers l = (out ++ (((due a cl).length : Int) :: due a cl)) ++ PyFlat.told (PyFlat.played Kh297Neutral.step (doing a cl).1 (cs'.map PyKh297.whole)) := by
          rw [hans, List.map_cons, PyFlat.played, hstep a]
          unfold PyFlat.told
          rw [List.flatMap_cons, List.append_assoc]
        have hcl : (c :: cs').length = cs'.length + 1 := List.length_cons
        have hl30 : l.length ≤ 30000 := hlen
        refine ⟨_, rfl, _, rfl, ca, _, _, _, rfl, rfl, hS', at_int (j := dn.length) (by rw [hl]; exact get_mid), ?_⟩
        refine ⟨_, rfl, _, _, rfl, rfl, _, rfl, BD, behinds, p, _, rfl, rfl, KBD, hbl, _, _, rfl, rfl, ?_⟩
        refine ⟨_, rfl, _, rfl, _, _, rfl, rfl, _, rfl, _, rfl, _, rfl, ca, _, rfl, hS', fun nb hnb => ?_⟩
        have ecut : cutV (l.map V.int) (some ((dn.length : Int) + 1)) (some ((dn.length : Int) + 1 + (ns.length : Int))) = ns.map V.int := by
          rcases hform with ⟨_, hf⟩ | ⟨_, hf, _⟩
          · rw [hl, hf, show dn ++ p :: (ns ++ ((row.length : Int) :: (row ++ t))) = (dn ++ [p]) ++ (ns ++ ((row.length : Int) :: (row ++ t))) by simp]
            exact cut_int (by simp) (by simp)
          · rw [hl, hf, show dn ++ p :: (ns ++ t) = (dn ++ [p]) ++ (ns ++ t) by simp]
            exact cut_int (by simp) (by simp)
        rw [ecut]
        have s3 := same_new (o := .lst (ns.map V.int)) hnb
        have hnb3 : upd H' nb (.lst (ns.map V.int)) nb = some (lI ns) := upd_same
        generalize upd H' nb (.lst (ns.map V.int)) = H3 at *
        refine ⟨Nat.zero_le _, fun rb0 hrb0 => ?_⟩
        have s4 := same_new (o := .lst []) hrb0
        have hrb4 : upd H3 rb0 (.lst []) rb0 = some (lI []) := upd_same
        have s34 := s3.trans s4
        have hnb4 := s4 _ _ hnb3
        generalize upd H3 rb0 (.lst []) = H4 at *
        have hS4 : SqL K H4 ca (l.map V.int) := s34.seq hS'
        refine ⟨_, rfl, p, rfl, _, rfl, ?_⟩
        rcases hform with ⟨hp, hf⟩ | ⟨hp, hf, hrow⟩
        · refine iteS (by rcases hp with rfl | rfl <;> decide) ?_
          refine ⟨_, rfl, _, _, rfl, rfl, ?_⟩
          have hmid : l[dn.length + 1 + ns.length]? = some (row.length : Int) := by
            rw [hl, hf, show dn ++ p :: (ns ++ ((row.length : Int) :: (row ++ t))) = (dn ++ [p] ++ ns) ++ ((row.length : Int) :: (row ++ t)) by simp]
            have := get_mid (A := dn ++ [p] ++ ns) (B := row ++ t) (x := (row.length : Int))
            rw [show (dn ++ [p] ++ ns).length = dn.length + 1 + ns.length by rw [List.length_append, List.length_append]; rfl] at this
            exact this
          refine ⟨_, rfl, _, rfl, _, rfl, ca, _, _, _, rfl, rfl, hS4, at_int (j := dn.length + 1 + ns.length) hmid, _, _, rfl, rfl, ?_⟩
          refine ⟨_, rfl, _, rfl, _, rfl, _, rfl, _, rfl, ca, _, rfl, hS4, fun rb hrb => ?_⟩
          have ecut2 : cutV (l.map V.int) (some ((dn.length : Int) + 1 + (ns.length : Int) + 1)) (some ((dn.length : Int) + 1 + (ns.length : Int) + 1 + (row.length : Int))) = row.map V.int := by
            rw [hl, hf, show dn ++ p :: (ns ++ ((row.length : Int) :: (row ++ t))) = (dn ++ [p] ++ ns ++ [(row.length : Int)]) ++ (row ++ t) by simp]
            exact cut_int (by simp; omega) (by simp; omega)
          rw [ecut2]
          have s5 := same_new (o := .lst (row.map V.int)) hrb
          have hrb5 : upd H4 rb (.lst (row.map V.int)) rb = some (lI row) := upd_same
          have hnb5 := s5 _ _ hnb4
          have s35 := s34.trans s5
          generalize upd H4 rb (.lst (row.map V.int)) = H5 at *
          have hdn : l = (dn ++ [p] ++ ns ++ [(row.length : Int)] ++ row) ++ t := by rw [hl, hf]; simp
          have hdl : (dn.length : Int) + 1 + (ns.length : Int) + 1 + (row.length : Int) = ((dn ++ [p] ++ ns ++ [(row.length : Int)] ++ row).length : Int) := by simp; omega
          have hpos : dn.length < (dn ++ [p] ++ ns ++ [(row.length : Int)] ++ row).length := by simp
          generalize dn ++ [p] ++ ns ++ [(row.length : Int)] ++ row = dn' at *
          refine ⟨_, rfl, _, rfl, _, rfl, _, rfl, x, R, Kk, L, S, nb, rb, a, rs, ks, p, ns, row, cl, rfl, hnb5, hrb5, as, by omega, D.mono s35, lam'.mono s35, fun H6 R' Kk' L' S' q rs' ks' D6 lam6 st6 own6 hL6 hq6 hq5 => ?_⟩
          have htl5 := s35 _ _ htl'
          have ntP : tl ≠ PT := fun z => by obtain ⟨_, z2, _⟩ := lam'.ex; rw [← z, htl'] at z2; cases z2
          have htl6 := st6 _ _ htl5 hown ntP
          have ntq : tl ≠ q := ne_of_none htl5 hq5
          have hdue := due_len (a := a) (cl := cl) D6.rel.len D.len
          have hsl := said_len a cl
          have hz : 500000 ≤ sizeLine := by decide
          refine ⟨_, rfl, .inl ⟨rfl, _, SqL.of htl6⟩, _, rfl, q, _, rfl, .inl (SqL.of hq6), tl, _, _, rfl, rfl, htl6, by rw [List.length_map]; omega, ?_⟩
          rw [List.length_map]
          have htl7 : upd H6 tl (.lst (out.map V.int ++ [V.int ((due a cl).length : Int)])) tl = some (.lst (out.map V.int ++ [V.int ((due a cl).length : Int)])) := upd_same
          have st7 : ∀ b z, H6 b = some z → b ≠ tl → upd H6 tl (.lst (out.map V.int ++ [V.int ((due a cl).length : Int)])) b = some z := fun b z e hb => by rw [upd_ne hb]; exact e
          have hq7 := st7 _ _ hq6 ntq.symm
          generalize upd H6 tl (.lst (out.map V.int ++ [V.int ((due a cl).length : Int)])) = H7 at *
          refine ⟨_, rfl, .inl ⟨rfl, _, SqL.of htl7⟩, _, rfl, tl, q, _, _, rfl, rfl, htl7, hq7, by rw [List.length_append, List.length_map, List.length_map]; show _ + 1 + _ ≤ _; omega, ?_⟩
          have htl8 : upd H7 tl (.lst (out.map V.int ++ [V.int ((due a cl).length : Int)] ++ (due a cl).map V.int)) tl = some (lI (out ++ (((due a cl).length : Int) :: due a cl))) := by
            rw [upd_same]
            unfold lI
            rw [List.map_append, List.append_assoc]
            rfl
          have st8 : ∀ b z, H6 b = some z → b ≠ tl → upd H7 tl (.lst (out.map V.int ++ [V.int ((due a cl).length : Int)] ++ (due a cl).map V.int)) b = some z := fun b z e hb => by rw [upd_ne hb]; exact st7 b z e hb
          generalize upd H7 tl (.lst (out.map V.int ++ [V.int ((due a cl).length : Int)] ++ (due a cl).map V.int)) = H8 at *
          have hown6 : ¬ Own x R' Kk' S' tl := fun z => by
            rcases own6 _ z with z | z
            · exact hown z
            · rw [htl5] at z; cases z
          have hLt6 : L' ≠ tl := by
            rcases hL6 with z | z
            · rw [z]; exact hLt
            · exact (ne_of_none htl5 z).symm
          refine ⟨_, rfl, ⟨dn', t, fu', cs', (doing a cl).1, R', Kk', L', S', rs', ks', _, _, _, _, _, _, _, by rw [← hdl]; rfl, hdn, hcs', fun c' hc' => hall c' (List.mem_cons_of_mem _ hc'), hans', D6.keep st8 hown6 hLt6, lam_keep lam6 htl6 st8, fun b z e hb => ?_, htl8, by omega, by rw [List.length_append, List.length_cons]; omega, hown6, hLt6, fun b hb => ?_⟩, ?_⟩
          · have nb' : b ≠ tl := ne_of_none e htl0
            have e5 := s35 _ _ (fr b z e hb)
            exact st8 _ _ (st6 _ _ e5 (fun z => by have := hfree b z; rw [e] at this; cases this) hb) nb'
          · rcases own6 b hb with z | z
            · exact hfree b z
            · cases e : H b with
              | none => rfl
              | some z2 =>
                exfalso
                by_cases hbP : b = PT
                · obtain ⟨_, z3, _⟩ := (lam'.mono s35).ex
                  rw [hbP, z3] at z; cases z
                · rw [s35 _ _ (fr b z2 e hbP)] at z; cases z
          · show l.length - ((dn.length : Int) + 1 + (ns.length : Int) + 1 + (row.length : Int)).toNat < l.length - (dn.length : Int).toNat
            rw [hdl]
            have : dn'.length ≤ l.length := by rw [hdn, List.length_append]; omega
            omega
        · refine iteS' (by
            have h4 : ¬ p = 4 := fun z => hp (.inl z)
            have h6 : ¬ p = 6 := fun z => hp (.inr z)
            rw [decide_eq_false h4, decide_eq_false h6]; rfl) ?_
          subst hrow
          have hrb5 := hrb4
          have hnb5 := hnb4
          have s35 := s34
          have hdn : l = (dn ++ [p] ++ ns) ++ t := by rw [hl, hf]; simp
          have hdl : (dn.length : Int) + 1 + (ns.length : Int) = ((dn ++ [p] ++ ns).length : Int) := by simp; omega
          have hpos : dn.length < (dn ++ [p] ++ ns).length := by simp
          generalize dn ++ [p] ++ ns = dn' at *
          refine ⟨_, rfl, _, rfl, _, rfl, _, rfl, x, R, Kk, L, S, nb, rb0, a, rs, ks, p, ns, [], cl, rfl, hnb5, hrb5, as, by omega, D.mono s35, lam'.mono s35, fun H6 R' Kk' L' S' q rs' ks' D6 lam6 st6 own6 hL6 hq6 hq5 => ?_⟩
          have htl5 := s35 _ _ htl'
          have ntP : tl ≠ PT := fun z => by obtain ⟨_, z2, _⟩ := lam'.ex; rw [← z, htl'] at z2; cases z2
          have htl6 := st6 _ _ htl5 hown ntP
          have ntq : tl ≠ q := ne_of_none htl5 hq5
          have hdue := due_len (a := a) (cl := cl) D6.rel.len D.len
          have hsl := said_len a cl
          have hz : 500000 ≤ sizeLine := by decide
          refine ⟨_, rfl, .inl ⟨rfl, _, SqL.of htl6⟩, _, rfl, q, _, rfl, .inl (SqL.of hq6), tl, _, _, rfl, rfl, htl6, by rw [List.length_map]; omega, ?_⟩
          rw [List.length_map]
          have htl7 : upd H6 tl (.lst (out.map V.int ++ [V.int ((due a cl).length : Int)])) tl = some (.lst (out.map V.int ++ [V.int ((due a cl).length : Int)])) := upd_same
          have st7 : ∀ b z, H6 b = some z → b ≠ tl → upd H6 tl (.lst (out.map V.int ++ [V.int ((due a cl).length : Int)])) b = some z := fun b z e hb => by rw [upd_ne hb]; exact e
          have hq7 := st7 _ _ hq6 ntq.symm
          generalize upd H6 tl (.lst (out.map V.int ++ [V.int ((due a cl).length : Int)])) = H7 at *
          refine ⟨_, rfl, .inl ⟨rfl, _, SqL.of htl7⟩, _, rfl, tl, q, _, _, rfl, rfl, htl7, hq7, by rw [List.length_append, List.length_map, List.length_map]; show _ + 1 + _ ≤ _; omega, ?_⟩
          have htl8 : upd H7 tl (.lst (out.map V.int ++ [V.int ((due a cl).length : Int)] ++ (due a cl).map V.int)) tl = some (lI (out ++ (((due a cl).length : Int) :: due a cl))) := by
            rw [upd_same]
            unfold lI
            rw [List.map_append, List.append_assoc]
            rfl
          have st8 : ∀ b z, H6 b = some z → b ≠ tl → upd H7 tl (.lst (out.map V.int ++ [V.int ((due a cl).length : Int)] ++ (due a cl).map V.int)) b = some z := fun b z e hb => by rw [upd_ne hb]; exact st7 b z e hb
          generalize upd H7 tl (.lst (out.map V.int ++ [V.int ((due a cl).length : Int)] ++ (due a cl).map V.int)) = H8 at *
          have hown6 : ¬ Own x R' Kk' S' tl := fun z => by
            rcases own6 _ z with z | z
            · exact hown z
            · rw [htl5] at z; cases z
          have hLt6 : L' ≠ tl := by
            rcases hL6 with z | z
            · rw [z]; exact hLt
            · exact (ne_of_none htl5 z).symm
          refine ⟨_, rfl, ⟨dn', t, fu', cs', (doing a cl).1, R', Kk', L', S', rs', ks', _, _, _, _, _, _, _, by rw [← hdl]; rfl, hdn, hcs', fun c' hc' => hall c' (List.mem_cons_of_mem _ hc'), hans', D6.keep st8 hown6 hLt6, lam_keep lam6 htl6 st8, fun b z e hb => ?_, htl8, by omega, by rw [List.length_append, List.length_cons]; omega, hown6, hLt6, fun b hb => ?_⟩, ?_⟩
          · have nb' : b ≠ tl := ne_of_none e htl0
            have e5 := s35 _ _ (fr b z e hb)
            exact st8 _ _ (st6 _ _ e5 (fun z => by have := hfree b z; rw [e] at this; cases this) hb) nb'
          · rcases own6 b hb with z | z
            · exact hfree b z
            · cases e : H b with
              | none => rfl
              | some z2 =>
                exfalso
                by_cases hbP : b = PT
                · obtain ⟨_, z3, _⟩ := (lam'.mono s35).ex
                  rw [hbP, z3] at z; cases z
                · rw [s35 _ _ (fr b z2 e hbP)] at z; cases z
          · show l.length - ((dn.length : Int) + 1 + (ns.length : Int)).toNat < l.length - (dn.length : Int).toNat
            rw [hdl]
            have : dn'.length ≤ l.length := by rw [hdn, List.length_append]; omega
            omega
    · rintro σ H' Q1 Q2 hm ⟨u1, e1, u2, e2, p', ys, e3, hq, i, j, e4, e5, kk, e6, q⟩
      exact ⟨u1, e1, u2, e2, p', ys, e3, hq, i, j, e4, e5, kk, e6, hm _ _ q⟩
end
end Cl
end
section
set_option Elab.async false
set_option linter.all false
set_option maxRecDepth 100000
set_option maxHeartbeats 2000000
namespace L2
open PySem PySem.Spec PyProof.Rows
open PySem.W (WData Codec OpenSpec Well WellAll ReadsW ReadsAllW)
def OnlyT (PT : Addr) (H : Hp) : Prop := H PT = some (.tbl #[]) ∧ ∀ b, b ≠ PT → H b = none ∨ ∃ o u, H b = some (.frz o u)
mutual
theorem Dw.mono {K : PySem.W.Frag} {H H' : Hp} (k : ∀ b o, H b = some o → H' b = some o) : ∀ {v : V} {d : WData}, Dw K H v d → Dw K H' v d
  | _, _, .non => .non
  | _, _, .bl b => .bl b
  | _, _, .int i => .int i
  | _, _, .str x => .str x
  | _, _, .byt b => .byt b
  | _, _, .lst hs ha => .lst (Same.seq k hs) (DwAll.mono k ha)
  | _, _, .tup hs ha => .tup (by
      rcases hs with (h | ⟨o, h⟩) | h
      · exact .inl (.inl (k _ _ h))
      · exact .inl (.inr ⟨o, k _ _ h⟩)
      · exact .inr h) (DwAll.mono k ha)
theorem DwAll.mono {K : PySem.W.Frag} {H H' : Hp} (k : ∀ b o, H b = some o → H' b = some o) : ∀ {vs : List V} {ds : List WData}, DwAll K H vs ds → DwAll K H' vs ds
  | _, _, .nil => .nil
  | _, _, .cons h r => .cons (Dw.mono k h) (DwAll.mono k r)
end
theorem spec_callT {P : Program} {w : World} {K : PySem.W.Frag} {mg mb : Str → Option Value} {CX : CXT} {k : Nat} {fa : Addr} {fd : FuncData} {ps : List Str} {sp : Addr → Sp} {s₁ : Shared} {vals : List Value} {ds : List WData} {R : PySem.W.WRecords} {cl : Str → Option Addr} {d0 : WData} {cT PT : Addr}
    (KX : K.In s₁.heap) (hns : s₁.heap.Ns mainGlobals mg) (hb : s₁.heap.Ns builtinsNs mb) (hbb : ∀ x : Str, x ≠ "__name__" → mb x = bootBuiltins x) (hlim : s₁.heap.NoLimit) (hg : s₁.gens = #[])
    (hT : s₁.heap.TableAt cT PT #[]) (hK0 : PySem.W.kb_classed K = true) (hst : PT ≠ cStatics) (hbm : s₁.heap.BuiltinsAt mg PT)
    (hwl : WellAll w.params s₁.heap vals ds) (hpl : plWs ds = true) (hwt : ∀ d ∈ ds, d.weight ≤ 1048576) (hr : Room k callerA)
    (F : ∀ base : Heap, K.In base → base.Ns mainGlobals mg → base.BuiltinsAt mg PT → FnOk P w K mg base CX k fa fd ps (sp PT)) (hbind : ∀ (s : Shared) (us : List Value), us.length = ps.length → BindsTo s fd ⟨us, []⟩ (ps.zip us)) (hlen : ds.length = ps.length)
    (hsp : ∀ (H : Hp) (xs : List V), OnlyT PT H → DwAll K H xs ds → sp PT xs H (fun v H' => Dw K H' v d0) fun _ _ _ => False)
    (hCX : ∀ H e s', CX [] H s₁ (fun _ _ _ => False) e s' → False) :
    codeAny (model P w) callerA (.call (.ref fa) ⟨vals, []⟩) (fun r s' => ∃ u as, r = .ok (.ret u) ∧ ReadsW R cl s'.heap u d0 as ∧ OldK s₁.heap s'.heap ∧ s'.os = s₁.os ∧ AllBare s'.gens) s₁ := by
  obtain ⟨A, ho, ar⟩ := area_all ds vals hwl hpl hwt
  have hO : OnlyF (argH K s₁.heap A) := argH_only ar
  have hok : HOk P w (argH K s₁.heap A) s₁.heap := argH_ok ar
  have hS := dw_all KX ar ds vals hwl hpl ho
  have hV := vals_toV ho
  have hK : ∀ b u, argH K s₁.heap A b = some u → K.lookup b = none := fun b u q => (argH_is ar q).1
  have noA : ∀ {b : Addr} {o : Obj}, s₁.heap.get? b = some o → (∀ vs n, o.data ≠ .seq vs n) → argH K s₁.heap A b = none := fun {b o} e d => by
    cases q : argH K s₁.heap A b with
    | none => rfl
    | some u =>
      obtain ⟨_, vs, _, _, ⟨e2, _⟩ | ⟨e2, _⟩⟩ := argH_is ar q
      · rw [e2] at e
        cases e
        exact absurd rfl (d _ _)
      · rw [e2] at e
        cases e
        exact absurd rfl (d _ _)
  generalize argH K s₁.heap A = H0 at hO hok hS hK noA
  have hTg : s₁.heap.get? PT = some { cls := .none, data := .fields #[] } := hT.2
  have hP0 : H0 PT = none := noA hTg fun vs n z => by cases z
  have hPK : K.lookup PT = none := by
    cases q : K.lookup PT with
    | none => rfl
    | some o =>
      have h1 := KX PT o q
      rw [hTg] at h1
      cases h1
      have h2 := List.all_eq_true.mp hK0 _ (PySem.W.kb_mem q)
      simp only [Bool.or_eq_true, decide_eq_true_eq, beq_iff_eq] at h2
      rcases h2 with (h2 | h2) | h2
      · exact absurd rfl h2
      · exact absurd h2 hst
      · obtain ⟨o, es, ep, e, d, _⟩ := hns
        rw [← h2, hTg] at e
        cases e
        cases d
  generalize hH : upd H0 PT (.tbl #[]) = H
  have sub : ∀ b o, H0 b = some o → H b = some o := fun b o e => by rw [← hH, upd_ne (ne_of_none e hP0)]; exact e
  have hHP : H PT = some (.tbl #[]) := by rw [← hH, upd_same]
  have hHn : ∀ b, b ≠ PT → H b = H0 b := fun b hb => by rw [← hH, upd_ne hb]
  have hOT : OnlyT PT H := ⟨hHP, fun b hb => by rw [hHn b hb]; exact hO b⟩
  have hok2 : HOk P w H s₁.heap := fun b u e => by
    by_cases hb : b = PT
    · subst hb
      rw [hHP] at e
      cases e
      exact hTg
    · rw [hHn b hb] at e
      exact (hok b u e).stay (fun c v _ q => q) (fun c q => sub c _ q) fun c xs q => sub c _ q
  have base_of : ∀ {b : Addr} {o : Obj}, s₁.heap.get? b = some o → H b = none → (hidT s₁.heap H).get? b = some o := fun e n => hidT_get e n
  have nN : ∀ {b : Addr} {o : Obj}, s₁.heap.get? b = some o → (∀ vs n, o.data ≠ .seq vs n) → b ≠ PT → H b = none := fun {b o} e d hb => by rw [hHn b hb]; exact noA e d
  have nsK : ∀ {b : Addr} {m : Str → Option Value}, s₁.heap.Ns b m → (hidT s₁.heap H).Ns b m := fun {b m} ⟨o, es, ep, e, d, r⟩ => ⟨o, es, ep, base_of e (nN e (fun vs n z => by rw [d] at z; cases z) fun z => by rw [z, hTg] at e; cases e; cases d), d, r⟩
  have nK : ∀ b o, K.lookup b = some o → H b = none := fun b o e => by
    have hb : b ≠ PT := fun z => by rw [z, hPK] at e; cases e
    rw [hHn b hb]
    cases q : H0 b with
    | none => rfl
    | some u =>
      rw [hK b u q] at e
      cases e
  have hKb : K.In (hidT s₁.heap H) := fun b o e => base_of (KX b o e) (nK b o e)
  have hM : Mod K mg (hidT s₁.heap H) := ⟨hKb, nsK hns, ⟨mb, nsK hb, hbb⟩, let ⟨mc, h1, h2⟩ := hlim; ⟨mc, nsK h1, h2⟩⟩
  have hB : (hidT s₁.heap H).BuiltinsAt mg PT := by
    obtain ⟨bm, o, b1, b2, b3, b4, b5, b6, b7, b8⟩ := hbm
    exact ⟨bm, o, b1, b2, b3, b4, base_of b5 (nN b5 (fun vs n z => by rw [b8] at z; cases z) b4), b6, b7, b8⟩
  have e0 : Env0 P w K mg (hidT s₁.heap H) callerA [] s₁ H := ⟨rfl, hM, fun b o e => of_hidT e, Nat.le_of_eq (hidT_size _ _), trivial, fun b hb => absurd (show b ∈ ([] : List Addr) from hb) (by simp), hok2, .of_eq hg⟩
  have hl : vals.length = ps.length := by rw [wellAll_len hwl]; exact hlen
  refine codeAny_mono ((F _ hKb (nsK hns) hB).run callerA [] s₁ H ⟨vals, []⟩ vals (vals.map toV) _ _ hr e0 (hbind s₁ vals hl) hV (hsp H _ hOT (DwAll.mono sub hS))) fun r s' x => ?_
  cases r with
  | error e => exact (hCX H e s' x).elim
  | ok fl =>
    cases fl with
    | next => exact False.elim x
    | brk => exact False.elim x
    | cont => exact False.elim x
    | ret u =>
      obtain ⟨v, H', os, bare, un, hok', r', q⟩ := x
      obtain ⟨more, hm⟩ := un.tbls PT #[] hHP
      have hPm : s'.heap.get? PT = some { cls := .none, data := .fields (#[] ++ more) } := hok' PT _ hm
      have kept : ∀ b o, b ≠ PT → s₁.heap.get? b = some o → s'.heap.get? b = some o := fun b o hb e => by
        cases q2 : H b with
        | none => exact un.keep b o e q2 (by intro z; exact absurd (show b ∈ ([] : List Addr) from z) (by simp)) (by simp)
        | some u2 =>
          rcases hOT.2 b hb with z | ⟨ob, u3, z⟩
          · rw [q2] at z
            cases z
          · have z2 := un.frzs b ob _ z
            obtain ⟨e1, _⟩ := hok2 b _ z
            obtain ⟨e2, _⟩ := hok' b _ z2
            rw [e] at e1
            cases e1
            exact e2
      have KX' : K.In s'.heap := fun b o e => kept b o (fun z => by rw [z, hPK] at e; cases e) (KX b o e)
      obtain ⟨as, hrd⟩ := Dw.reads (R := R) (cl := cl) hok' KX' d0 v u q r'
      refine ⟨u, as, rfl, hrd, ⟨fun b o e => ?_, fun b o e => ?_⟩, os, bare⟩
      · by_cases hb : b = PT
        · subst hb
          rw [hTg] at e
          cases e
          exact .inr (.inl ⟨hT.isCodeTable, rfl, #[], more, rfl, hPm⟩)
        · exact .inl (kept b o hb e)
      · by_cases hb : b = PT
        · subst hb
          exact ⟨_, hPm⟩
        · exact ⟨o, kept b o hb e⟩
end L2
namespace L2
open PySem PySem.Spec PyProof.Rows
open PySem.W (WData Codec OpenSpec Well WellAll ReadsW ReadsAllW)
structure Held (mg : Str → Option Value) (h : Heap) (nT : Str) (cT PT : Addr) : Prop where
  fn : ∃ (fT : Addr) (o : Obj) (fd : FuncData), mg nT = some (.ref fT) ∧ h.get? fT = some o ∧ o.data = .func fd ∧ fd.code = .ref cT
  hd : PySem.W.CodeHd h cT PT
theorem walk_specT {r : OpenSpec} {k : Nat} {q : Program} {loose : List Str} {XP : (Str → Option Value) → Heap → Prop} {YP : World → Heap → Prop} {d : DefRec} {K : Params → PySem.W.Frag} {CX : CXT} {ps : List Str} {sp : PySem.W.Frag → Addr → Sp} {nT : Str}
    (hwell : r.wellSaid = true) (hlen : r.args.length = ps.length) (hr : Room k callerA) (hrec : ∃ d' ∈ recsOf q, d'.name = nT) (hK0 : ∀ w : World, PySem.W.kb_classed (K w.params) = true)
    (hY : ∀ (w : World) (h : Heap), YP w h → (K w.params).In h)
    (F : ∀ (w : World) (mg : Str → Option Value) (fa : Addr) (h : Heap) (cT PT : Addr), YP w h → (K w.params).In h → h.Ns mainGlobals mg → mg d.name = some (.ref fa) → Held mg h nT cT PT →
      ∃ fd : FuncData, (∀ (s : Shared) (us : List Value), us.length = ps.length → BindsTo s fd ⟨us, []⟩ (ps.zip us)) ∧
        ∀ base : Heap, (K w.params).In base → base.Ns mainGlobals mg → base.BuiltinsAt mg PT → FnOk r.prog w (K w.params) mg base CX k fa fd ps (sp (K w.params) PT))
    (hsp : ∀ (K : PySem.W.Frag) (PT : Addr) (H : Hp) (xs : List V) (a : Codec.denoteAll r.args), OnlyT PT H → Codec.withinAll r.args a = true → Codec.app r.args r.asked a = true → DwAll K H xs (Codec.encAll r.args a) →
      sp K PT xs H (fun v H' => Dw K H' v (r.ret.enc (Codec.app r.args r.f a))) fun _ _ _ => False)
    (hCX : ∀ (H : Hp) (s : Shared) (e : Value) (s' : Shared), CX [] H s (fun _ _ _ => False) e s' → False) :
    PySem.W.WalkOS q loose XP YP r d [] (fun f vs => PySem.call f vs) := by
  intro w s_0 s₁ mg mb G Y fa o pm cd doc dV kV ho hd hcd hD hmg hg args vals as hpre hlay hrd hwl hlo
  obtain ⟨a, e1, e2⟩ := PySem.W.os_pre_some hpre
  obtain ⟨e3, hwi⟩ := Codec.encAll_of_decAll r.args args a e1
  subst e3
  have KX := hY w _ Y
  obtain ⟨d', hd', hn'⟩ := hrec
  obtain ⟨fT, oT, fdT, cT, PT, t1, t2, t3, t4, t5, t6⟩ := G.T.tab d' hd'
  rw [hn'] at t1
  have hst : PT ≠ cStatics := fun z => by
    obtain ⟨mc, ⟨o, es, ep, e, d2, _⟩, _⟩ := G.T.nodigits
    have := t6.2
    rw [z, e] at this
    cases this
    cases d2
  have hbm : s₁.heap.BuiltinsAt mg PT := by
    obtain ⟨bm, ob, b1, b2, b3, b4, b5, b6⟩ := G.T.bmain
    refine ⟨bm, ob, b1, b2, fun z => ?_, fun z => ?_, b3, b4, b5, b6⟩
    · obtain ⟨o, es, ep, e, d2, _⟩ := G.T.g
      rw [z, e] at b3
      cases b3
      rw [d2] at b6
      cases b6
    · have := t6.2
      rw [z] at b3
      rw [b3] at this
      cases this
      cases b4
  obtain ⟨fd, hb, hF⟩ := F w mg fa _ cT PT Y KX G.T.g hmg ⟨⟨fT, oT, fdT, t1, t2, t3, t4⟩, PySem.W.CodeHd.of t5 t6⟩
  refine PySem.W.enter_call (codeAny_mono (spec_callT (R := []) (cl := classAt s_0.heap) (d0 := r.ret.enc (Codec.app r.args r.f a)) (sp := sp (K w.params)) KX G.T.g G.T.b G.T.builtins G.T.nolimit hg t6 (hK0 w) hst hbm hwl (pl_encAll _ _) (layable_weight hlay) hr hF hb (by rw [encAll_len]; exact hlen)
    (fun H xs hO hS => hsp (K w.params) PT H xs a hO hwi e2 hS) fun H e s' => hCX H s₁ e s') fun r' s' hq => ?_)
  obtain ⟨u, as', rfl, h1, h2, h3, h4⟩ := hq
  exact ⟨.inl ⟨u, _, as', rfl, fun _ => rfl, h1, (OpenSpec.post_iff hwell hwi _ _).mpr rfl, fun z => Bool.noConfusion (show false = true from z)⟩, h2, h3, h4⟩
end L2
end
section
set_option Elab.async false
set_option linter.all false
set_option maxRecDepth 100000
set_option maxHeartbeats 8000000
namespace L2
open PySem PySem.Spec PyProof.Rows
theorem codeHd_all {K : PySem.W.Frag} {h : Heap} {c P : Addr} {q : Str} (X : K.In h) (e : PySem.W.codeIn K (.ref c) q = true) (hd : PySem.W.CodeHd h c P) : ∀ h', K.In h' → PySem.W.CodeHd h' c P := by
  intro h' X'
  cases lk : K.lookup c with
  | none =>
    unfold PySem.W.codeIn at e
    simp only [lk] at e
    cases e
  | some o' =>
    obtain ⟨o, vs, file, tf, flags, tg, inF, text, tt, h1, h2⟩ := hd
    have := X _ _ lk
    rw [this] at h1
    cases h1
    exact ⟨o', vs, file, tf, flags, tg, inF, text, tt, X' _ _ lk, h2⟩
theorem onlyT_lam {PT : Addr} {H : Hp} {pos : Pos} {qual : Str} (h : OnlyT PT H) : LamOk PT pos qual H := ⟨#[], h.1, trivial, .inl rfl⟩
end L2
namespace Cl
open PySem PySem.Spec PyProof.Rows L2 CM
theorem all_mk {P : Program} {w : World} {K : PySem.W.Frag} {h : Heap} {mg : Str → Option Value} {fa C cT PT D1 D2 f1 f2 f3 f4 f5 f6 f7 f8 f9 f10 f11 f12 f13 f14 f21 f22 f23 f24 f25 f26 f27 f28 f29 f30 : Addr} (X : K.In h) (G : h.Ns mainGlobals mg) (hfa : mg "answers" = some (.ref fa)) (held : Held mg h "ks_anew" cT PT)
    {od1 an1 od2 an2 od3 an3 od4 an4 od5 an5 od6 an6 od7 an7 od8 an8 od9 an9 od10 an10 od11 an11 od12 an12 od13 an13 od14 an14 od21 an21 od22 an22 od23 an23 od24 an24 od25 an25 od26 an26 od27 an27 od28 an28 od29 an29 od30 an30 : Option Addr} {sl1 sl2 sl3 sl4 sl5 sl6 sl7 sl8 sl9 sl10 sl11 sl12 sl13 sl14 sl21 sl22 sl23 sl24 sl25 sl26 sl27 sl28 sl29 sl30 : Array (Option Value)} {oc1 kV1 dc1 pm1 cd1 ct1 oc2 kV2 dc2 pm2 cd2 ct2 oc3 kV3 dc3 pm3 cd3 ct3 oc4 kV4 dc4 pm4 cd4 ct4 oc5 kV5 dc5 pm5 cd5 ct5 oc6 kV6 dc6 pm6 cd6 ct6 oc7 kV7 dc7 pm7 cd7 ct7 oc8 kV8 dc8 pm8 cd8 ct8 oc9 kV9 dc9 pm9 cd9 ct9 oc10 kV10 dc10 pm10 cd10 ct10 oc11 kV11 dc11 pm11 cd11 ct11 oc12 kV12 dc12 pm12 cd12 ct12 oc13 kV13 dc13 pm13 cd13 ct13 oc14 kV14 dc14 pm14 cd14 ct14 oc21 kV21 dc21 pm21 cd21 ct21 oc22 kV22 dc22 pm22 cd22 ct22 oc23 kV23 dc23 pm23 cd23 ct23 oc24 kV24 dc24 pm24 cd24 ct24 oc25 kV25 dc25 pm25 cd25 ct25 oc26 kV26 dc26 pm26 cd26 ct26 oc27 kV27 dc27 pm27 cd27 ct27 oc28 kV28 dc28 pm28 cd28 ct28 oc29 kV29 dc29 pm29 cd29 ct29 oc30 kV30 dc30 pm30 cd30 ct30 : Value} {es1 es2 : Array DictEntry} {ep1 ep2 : Nat} {t_tips t_places t_last t_mostSaid t_mostHeard t_done t_noCode t_said t_hasCode t_wrong t_noRoom t_otherRate t_tooFar t_call0 t_call1 t_call2 t_call3 t_call4 t_call5 t_call6 : Tok}
    (aC : PySem.W.nsIn K mainGlobals "SharedLine" = some (some (.ref C)))
    (a1 : PySem.W.nsIn K mainGlobals "is_rate" = some (some (.ref f1)))
    (l1 : K.lookup f1 = some ⟨oc1, od1, .func (PySem.W.fnOf "is_rate" "is_rate" (defArgs sIsRate) (defBody sIsRate) (defScope sIsRate) .none kV1 dc1 pm1 an1 cd1 ct1), sl1⟩)
    (c1 : PySem.W.codeIn K cd1 "is_rate" = true)
    (k1 : PySem.W.keepIn K (.ref f1) = true)
    (a2 : PySem.W.nsIn K mainGlobals "level_of" = some (some (.ref f2)))
    (l2 : K.lookup f2 = some ⟨oc2, od2, .func (PySem.W.fnOf "level_of" "level_of" (defArgs sLevel) (defBody sLevel) (defScope sLevel) .none kV2 dc2 pm2 an2 cd2 ct2), sl2⟩)
    (c2 : PySem.W.codeIn K cd2 "level_of" = true)
    (k2 : PySem.W.keepIn K (.ref f2) = true)
    (a3 : PySem.W.nsIn K mainGlobals "taken_tips" = some (some (.ref f3)))
    (l3 : K.lookup f3 = some ⟨oc3, od3, .func (PySem.W.fnOf "taken_tips" "taken_tips" (defArgs sTaken) (defBody sTaken) (defScope sTaken) .none kV3 dc3 pm3 an3 cd3 ct3), sl3⟩)
    (c3 : PySem.W.codeIn K cd3 "taken_tips" = true)
    (k3 : PySem.W.keepIn K (.ref f3) = true)
    (a4 : PySem.W.nsIn K mainGlobals "least_free_k" = some (some (.ref f4)))
    (l4 : K.lookup f4 = some ⟨oc4, od4, .func (PySem.W.fnOf "least_free_k" "least_free_k" (defArgs sLeast) (defBody sLeast) (defScope sLeast) .none kV4 dc4 pm4 an4 cd4 ct4), sl4⟩)
    (c4 : PySem.W.codeIn K cd4 "least_free_k" = true)
    (k4 : PySem.W.keepIn K (.ref f4) = true)
    (a5 : PySem.W.nsIn K mainGlobals "ks_anew" = some (some (.ref f5)))
    (l5 : K.lookup f5 = some ⟨oc5, od5, .func (PySem.W.fnOf "ks_anew" "ks_anew" (defArgs sAnew) (defBody sAnew) (defScope sAnew) .none kV5 dc5 pm5 an5 cd5 ct5), sl5⟩)
    (c5 : PySem.W.codeIn K cd5 "ks_anew" = true)
    (k5 : PySem.W.keepIn K (.ref f5) = true)
    (a6 : PySem.W.nsIn K mainGlobals "signs_of" = some (some (.ref f6)))
    (l6 : K.lookup f6 = some ⟨oc6, od6, .func (PySem.W.fnOf "signs_of" "signs_of" (defArgs sSigns) (defBody sSigns) (defScope sSigns) .none kV6 dc6 pm6 an6 cd6 ct6), sl6⟩)
    (c6 : PySem.W.codeIn K cd6 "signs_of" = true)
    (k6 : PySem.W.keepIn K (.ref f6) = true)
    (a7 : PySem.W.nsIn K mainGlobals "laid" = some (some (.ref f7)))
    (l7 : K.lookup f7 = some ⟨oc7, od7, .func (PySem.W.fnOf "laid" "laid" (defArgs sLaid) (defBody sLaid) (defScope sLaid) .none kV7 dc7 pm7 an7 cd7 ct7), sl7⟩)
    (c7 : PySem.W.codeIn K cd7 "laid" = true)
    (k7 : PySem.W.keepIn K (.ref f7) = true)
    (a8 : PySem.W.nsIn K mainGlobals "heard_symbol" = some (some (.ref f8)))
    (l8 : K.lookup f8 = some ⟨oc8, od8, .func (PySem.W.fnOf "heard_symbol" "heard_symbol" (defArgs sHeardSym) (defBody sHeardSym) (defScope sHeardSym) .none kV8 dc8 pm8 an8 cd8 ct8), sl8⟩)
    (c8 : PySem.W.codeIn K cd8 "heard_symbol" = true)
    (k8 : PySem.W.keepIn K (.ref f8) = true)
    (a9 : PySem.W.nsIn K mainGlobals "heard" = some (some (.ref f9)))
    (l9 : K.lookup f9 = some ⟨oc9, od9, .func (PySem.W.fnOf "heard" "heard" (defArgs sHeard) (defBody sHeard) (defScope sHeard) .none kV9 dc9 pm9 an9 cd9 ct9), sl9⟩)
    (c9 : PySem.W.codeIn K cd9 "heard" = true)
    (k9 : PySem.W.keepIn K (.ref f9) = true)
    (a10 : PySem.W.nsIn K mainGlobals "divided_to_nearest" = some (some (.ref f10)))
    (l10 : K.lookup f10 = some ⟨oc10, od10, .func (PySem.W.fnOf "divided_to_nearest" "divided_to_nearest" (defArgs sNearest) (defBody sNearest) (defScope sNearest) .none kV10 dc10 pm10 an10 cd10 ct10), sl10⟩)
    (c10 : PySem.W.codeIn K cd10 "divided_to_nearest" = true)
    (k10 : PySem.W.keepIn K (.ref f10) = true)
    (a11 : PySem.W.nsIn K mainGlobals "are_within" = some (some (.ref f11)))
    (l11 : K.lookup f11 = some ⟨oc11, od11, .func (PySem.W.fnOf "are_within" "are_within" (defArgs sWithin) (defBody sWithin) (defScope sWithin) .none kV11 dc11 pm11 an11 cd11 ct11), sl11⟩)
    (c11 : PySem.W.codeIn K cd11 "are_within" = true)
    (k11 : PySem.W.keepIn K (.ref f11) = true)
    (a12 : PySem.W.nsIn K mainGlobals "has_row" = some (some (.ref f12)))
    (l12 : K.lookup f12 = some ⟨oc12, od12, .func (PySem.W.fnOf "has_row" "has_row" (defArgs sHasRow) (defBody sHasRow) (defScope sHasRow) .none kV12 dc12 pm12 an12 cd12 ct12), sl12⟩)
    (c12 : PySem.W.codeIn K cd12 "has_row" = true)
    (k12 : PySem.W.keepIn K (.ref f12) = true)
    (a13 : PySem.W.nsIn K mainGlobals "answer_one" = some (some (.ref f13)))
    (l13 : K.lookup f13 = some ⟨oc13, od13, .func (PySem.W.fnOf "answer_one" "answer_one" (defArgs sOne) (defBody sOne) (defScope sOne) .none kV13 dc13 pm13 an13 cd13 ct13), sl13⟩)
    (c13 : PySem.W.codeIn K cd13 "answer_one" = true)
    (k13 : PySem.W.keepIn K (.ref f13) = true)
    (a14 : PySem.W.nsIn K mainGlobals "answers" = some (some (.ref f14)))
    (l14 : K.lookup f14 = some ⟨oc14, od14, .func (PySem.W.fnOf "answers" "answers" (defArgs sAns) (defBody sAns) (defScope sAns) .none kV14 dc14 pm14 an14 cd14 ct14), sl14⟩)
    (c14 : PySem.W.codeIn K cd14 "answers" = true)
    (k14 : PySem.W.keepIn K (.ref f14) = true)
    (a21 : PySem.W.findIn K (.ref C) "__init__" = some (some (.ref f21)))
    (i21 : PySem.W.isFn K (.ref f21) = true)
    (l21 : K.lookup f21 = some ⟨oc21, od21, .func (PySem.W.fnOf "__init__" "SharedLine.__init__" (defArgs sInit) (defBody sInit) (defScope sInit) .none kV21 dc21 pm21 an21 cd21 ct21), sl21⟩)
    (c21 : PySem.W.codeIn K cd21 "SharedLine.__init__" = true)
    (k21 : PySem.W.keepIn K (.ref f21) = true)
    (a22 : PySem.W.findIn K (.ref C) "begin" = some (some (.ref f22)))
    (i22 : PySem.W.isFn K (.ref f22) = true)
    (l22 : K.lookup f22 = some ⟨oc22, od22, .func (PySem.W.fnOf "begin" "SharedLine.begin" (defArgs sBegin) (defBody sBegin) (defScope sBegin) .none kV22 dc22 pm22 an22 cd22 ct22), sl22⟩)
    (c22 : PySem.W.codeIn K cd22 "SharedLine.begin" = true)
    (k22 : PySem.W.keepIn K (.ref f22) = true)
    (a23 : PySem.W.findIn K (.ref C) "clear_line" = some (some (.ref f23)))
    (i23 : PySem.W.isFn K (.ref f23) = true)
    (l23 : K.lookup f23 = some ⟨oc23, od23, .func (PySem.W.fnOf "clear_line" "SharedLine.clear_line" (defArgs sClear) (defBody sClear) (defScope sClear) .none kV23 dc23 pm23 an23 cd23 ct23), sl23⟩)
    (c23 : PySem.W.codeIn K cd23 "SharedLine.clear_line" = true)
    (k23 : PySem.W.keepIn K (.ref f23) = true)
    (a24 : PySem.W.findIn K (.ref C) "open_user" = some (some (.ref f24)))
    (i24 : PySem.W.isFn K (.ref f24) = true)
    (l24 : K.lookup f24 = some ⟨oc24, od24, .func (PySem.W.fnOf "open_user" "SharedLine.open_user" (defArgs sOpen) (defBody sOpen) (defScope sOpen) .none kV24 dc24 pm24 an24 cd24 ct24), sl24⟩)
    (c24 : PySem.W.codeIn K cd24 "SharedLine.open_user" = true)
    (k24 : PySem.W.keepIn K (.ref f24) = true)
    (a25 : PySem.W.findIn K (.ref C) "give_anew" = some (some (.ref f25)))
    (i25 : PySem.W.isFn K (.ref f25) = true)
    (l25 : K.lookup f25 = some ⟨oc25, od25, .func (PySem.W.fnOf "give_anew" "SharedLine.give_anew" (defArgs sGive) (defBody sGive) (defScope sGive) .none kV25 dc25 pm25 an25 cd25 ct25), sl25⟩)
    (c25 : PySem.W.codeIn K cd25 "SharedLine.give_anew" = true)
    (k25 : PySem.W.keepIn K (.ref f25) = true)
    (a26 : PySem.W.findIn K (.ref C) "close_user" = some (some (.ref f26)))
    (i26 : PySem.W.isFn K (.ref f26) = true)
    (l26 : K.lookup f26 = some ⟨oc26, od26, .func (PySem.W.fnOf "close_user" "SharedLine.close_user" (defArgs sClose) (defBody sClose) (defScope sClose) .none kV26 dc26 pm26 an26 cd26 ct26), sl26⟩)
    (c26 : PySem.W.codeIn K cd26 "SharedLine.close_user" = true)
    (k26 : PySem.W.keepIn K (.ref f26) = true)
    (a27 : PySem.W.findIn K (.ref C) "code_of" = some (some (.ref f27)))
    (i27 : PySem.W.isFn K (.ref f27) = true)
    (l27 : K.lookup f27 = some ⟨oc27, od27, .func (PySem.W.fnOf "code_of" "SharedLine.code_of" (defArgs sCode) (defBody sCode) (defScope sCode) .none kV27 dc27 pm27 an27 cd27 ct27), sl27⟩)
    (c27 : PySem.W.codeIn K cd27 "SharedLine.code_of" = true)
    (k27 : PySem.W.keepIn K (.ref f27) = true)
    (a28 : PySem.W.findIn K (.ref C) "say" = some (some (.ref f28)))
    (i28 : PySem.W.isFn K (.ref f28) = true)
    (l28 : K.lookup f28 = some ⟨oc28, od28, .func (PySem.W.fnOf "say" "SharedLine.say" (defArgs sSay) (defBody sSay) (defScope sSay) .none kV28 dc28 pm28 an28 cd28 ct28), sl28⟩)
    (c28 : PySem.W.codeIn K cd28 "SharedLine.say" = true)
    (k28 : PySem.W.keepIn K (.ref f28) = true)
    (a29 : PySem.W.findIn K (.ref C) "tell_line" = some (some (.ref f29)))
    (i29 : PySem.W.isFn K (.ref f29) = true)
    (l29 : K.lookup f29 = some ⟨oc29, od29, .func (PySem.W.fnOf "tell_line" "SharedLine.tell_line" (defArgs sTell) (defBody sTell) (defScope sTell) .none kV29 dc29 pm29 an29 cd29 ct29), sl29⟩)
    (c29 : PySem.W.codeIn K cd29 "SharedLine.tell_line" = true)
    (k29 : PySem.W.keepIn K (.ref f29) = true)
    (a30 : PySem.W.findIn K (.ref C) "hear" = some (some (.ref f30)))
    (i30 : PySem.W.isFn K (.ref f30) = true)
    (l30 : K.lookup f30 = some ⟨oc30, od30, .func (PySem.W.fnOf "hear" "SharedLine.hear" (defArgs sHear) (defBody sHear) (defScope sHear) .none kV30 dc30 pm30 an30 cd30 ct30), sl30⟩)
    (c30 : PySem.W.codeIn K cd30 "SharedLine.hear" = true)
    (k30 : PySem.W.keepIn K (.ref f30) = true)
    (pg : PySem.W.plainGet K C Str.empty = true)
    (hd : PySem.W.hasDictIn K C = true)
    (po : PySem.W.plainOver K C = true)
    (sa : PySem.W.findIn K (.ref C) "__setattr__" = some (some (.builtin "object.__setattr__")))
    (mk : PySem.W.makesIn K C = true)
    (kc : PySem.W.keepIn K (.ref C) = true)
    (nR : PySem.W.findIn K (.ref C) "rates" = some none)
    (nK : PySem.W.findIn K (.ref C) "ks" = some none)
    (nL : PySem.W.findIn K (.ref C) "row" = some none)
    (nS : PySem.W.findIn K (.ref C) "said" = some none)
    (g_tips : PySem.W.nsIn K mainGlobals "TIPS" = some (some (.int 256 t_tips)))
    (g_places : PySem.W.nsIn K mainGlobals "PLACES" = some (some (.int 256 t_places)))
    (g_last : PySem.W.nsIn K mainGlobals "LAST_USER" = some (some (.int 255 t_last)))
    (g_mostSaid : PySem.W.nsIn K mainGlobals "MOST_SAID" = some (some (.int 2047 t_mostSaid)))
    (g_mostHeard : PySem.W.nsIn K mainGlobals "MOST_HEARD" = some (some (.int 1000000 t_mostHeard)))
    (g_done : PySem.W.nsIn K mainGlobals "DONE" = some (some (.int 0 t_done)))
    (g_noCode : PySem.W.nsIn K mainGlobals "NO_CODE" = some (some (.int (-2) t_noCode)))
    (g_said : PySem.W.nsIn K mainGlobals "SAID_ALREADY" = some (some (.int (-16) t_said)))
    (g_hasCode : PySem.W.nsIn K mainGlobals "HAS_CODE" = some (some (.int (-17) t_hasCode)))
    (g_wrong : PySem.W.nsIn K mainGlobals "WRONG" = some (some (.int (-22) t_wrong)))
    (g_noRoom : PySem.W.nsIn K mainGlobals "NO_ROOM" = some (some (.int (-28) t_noRoom)))
    (g_otherRate : PySem.W.nsIn K mainGlobals "OTHER_RATE" = some (some (.int (-33) t_otherRate)))
    (g_tooFar : PySem.W.nsIn K mainGlobals "TOO_FAR" = some (some (.int (-34) t_tooFar)))
    (g_call0 : PySem.W.nsIn K mainGlobals "CALL_BEGIN" = some (some (.int 0 t_call0)))
    (g_call1 : PySem.W.nsIn K mainGlobals "CALL_OPEN" = some (some (.int 1 t_call1)))
    (g_call2 : PySem.W.nsIn K mainGlobals "CALL_CLOSE" = some (some (.int 2 t_call2)))
    (g_call3 : PySem.W.nsIn K mainGlobals "CALL_CODE" = some (some (.int 3 t_call3)))
    (g_call4 : PySem.W.nsIn K mainGlobals "CALL_SAY" = some (some (.int 4 t_call4)))
    (g_call5 : PySem.W.nsIn K mainGlobals "CALL_LINE" = some (some (.int 5 t_call5)))
    (g_call6 : PySem.W.nsIn K mainGlobals "CALL_HEAR" = some (some (.int 6 t_call6)))
    (z_range : PySem.W.nsIn K mainGlobals "range" = some none)
    (z_len : PySem.W.nsIn K mainGlobals "len" = some none)
    (z_sum : PySem.W.nsIn K mainGlobals "sum" = some none)
    (z_sorted : PySem.W.nsIn K mainGlobals "sorted" = some none)
    (z_abs : PySem.W.nsIn K mainGlobals "abs" = some none)
    (z_all : PySem.W.nsIn K mainGlobals "all" = some none)
    (z_enumerate : PySem.W.nsIn K mainGlobals "enumerate" = some none)
    (aD1 : PySem.W.nsIn K mainGlobals "LEVEL_OF_RATE" = some (some (.ref D1)))
    (lD1 : K.lookup D1 = some ⟨.type "dict", none, .dict es1 ep1, #[]⟩)
    (pD1 : Paired KEnt levels es1.toList)
    (sD1 : (D1 == sysModules) = false)
    (aD2 : PySem.W.nsIn K mainGlobals "NUMBERS_BEHIND" = some (some (.ref D2)))
    (lD2 : K.lookup D2 = some ⟨.type "dict", none, .dict es2 ep2, #[]⟩)
    (pD2 : Paired KEnt behinds es2.toList)
    (sD2 : (D2 == sysModules) = false) :
    ∃ fd : FuncData, (∀ (s : Shared) (us : List Value), us.length = (["calls"] : List Str).length → BindsTo s fd ⟨us, []⟩ ((["calls"] : List Str).zip us)) ∧ ∀ base : Heap, K.In base → base.Ns mainGlobals mg → base.BuiltinsAt mg PT → FnOk P w K mg base CX0 9 fa fd ["calls"] (spAns K PT) := by
  have e := hfa.symm.trans (PySem.W.mg_of X G a14)
  cases e
  have g := fun {n : Str} {v : Value} (q : PySem.W.nsIn K mainGlobals n = some (some v)) => PySem.W.mg_of X G q
  have z := fun {n : Str} (q : PySem.W.nsIn K mainGlobals n = some none) => PySem.W.mg_none_of X G q
  have T : Txt K mg := {
    lev := ⟨D1, g aD1, ⟨_, es1, ep1, lD1, ⟨rfl, rfl, rfl⟩, rfl, pD1⟩, sD1, by decide⟩
    behind := ⟨D2, g aD2, ⟨_, es2, ep2, lD2, ⟨rfl, rfl, rfl⟩, rfl, pD2⟩, sD2, by decide⟩
    tips := ⟨_, g g_tips⟩
    places := ⟨_, g g_places⟩
    last := ⟨_, g g_last⟩
    mostSaid := ⟨_, g g_mostSaid⟩
    mostHeard := ⟨_, g g_mostHeard⟩
    done := ⟨_, g g_done⟩
    noCode := ⟨_, g g_noCode⟩
    said := ⟨_, g g_said⟩
    hasCode := ⟨_, g g_hasCode⟩
    wrong := ⟨_, g g_wrong⟩
    noRoom := ⟨_, g g_noRoom⟩
    otherRate := ⟨_, g g_otherRate⟩
    tooFar := ⟨_, g g_tooFar⟩
    call0 := ⟨_, g g_call0⟩
    call1 := ⟨_, g g_call1⟩
    call2 := ⟨_, g g_call2⟩
    call3 := ⟨_, g g_call3⟩
    call4 := ⟨_, g g_call4⟩
    call5 := ⟨_, g g_call5⟩
    call6 := ⟨_, g g_call6⟩
    range := z z_range
    len := z z_len
    sum := z z_sum
    sorted := z z_sorted
    abs := z z_abs
    all := z z_all
    enumerate := z z_enumerate }
  have TC : TxtC K mg C := ⟨⟨pg, hd, po, sa⟩, nR, nK, nL, nS⟩
  have F1 := fun_mk (st := sIsRate) l1 c1 k1
  have F2 := fun_mk (st := sLevel) l2 c2 k2
  have F3 := fun_mk (st := sTaken) l3 c3 k3
  have F4 := fun_mk (st := sLeast) l4 c4 k4
  have F5 := fun_mk (st := sAnew) l5 c5 k5
  have F6 := fun_mk (st := sSigns) l6 c6 k6
  have F7 := fun_mk (st := sLaid) l7 c7 k7
  have F8 := fun_mk (st := sHeardSym) l8 c8 k8
  have F9 := fun_mk (st := sHeard) l9 c9 k9
  have F10 := fun_mk (st := sNearest) l10 c10 k10
  have F11 := fun_mk (st := sWithin) l11 c11 k11
  have F12 := fun_mk (st := sHasRow) l12 c12 k12
  have F13 := fun_mk (st := sOne) l13 c13 k13
  have F14 := fun_mk (st := sAns) l14 c14 k14
  have F21 := fun_mk (st := sInit) l21 c21 k21
  have F22 := fun_mk (st := sBegin) l22 c22 k22
  have F23 := fun_mk (st := sClear) l23 c23 k23
  have F24 := fun_mk (st := sOpen) l24 c24 k24
  have F25 := fun_mk (st := sGive) l25 c25 k25
  have F26 := fun_mk (st := sClose) l26 c26 k26
  have F27 := fun_mk (st := sCode) l27 c27 k27
  have F28 := fun_mk (st := sSay) l28 c28 k28
  have F29 := fun_mk (st := sTell) l29 c29 k29
  have F30 := fun_mk (st := sHear) l30 c30 k30
  have b1 := F1.binds (ps := ["number"]) fun _ _ _ _ _ _ us hl => match us, hl with | [_], _ => rfl
  have b2 := F2.binds (ps := ["rate"]) fun _ _ _ _ _ _ us hl => match us, hl with | [_], _ => rfl
  have b3 := F3.binds (ps := ["rates", "ks"]) fun _ _ _ _ _ _ us hl => match us, hl with | [_, _], _ => rfl
  have b4 := F4.binds (ps := ["rates", "ks", "rate"]) fun _ _ _ _ _ _ us hl => match us, hl with | [_, _, _], _ => rfl
  have b5 := F5.binds (ps := ["rates"]) fun _ _ _ _ _ _ us hl => match us, hl with | [_], _ => rfl
  have b6 := F6.binds (ps := ["level", "k"]) fun _ _ _ _ _ _ us hl => match us, hl with | [_, _], _ => rfl
  have b7 := F7.binds (ps := ["row", "level", "k", "symbols"]) fun _ _ _ _ _ _ us hl => match us, hl with | [_, _, _, _], _ => rfl
  have b8 := F8.binds (ps := ["row", "signs", "first"]) fun _ _ _ _ _ _ us hl => match us, hl with | [_, _, _], _ => rfl
  have b9 := F9.binds (ps := ["row", "level", "k"]) fun _ _ _ _ _ _ us hl => match us, hl with | [_, _, _], _ => rfl
  have b10 := F10.binds (ps := ["number", "size"]) fun _ _ _ _ _ _ us hl => match us, hl with | [_, _], _ => rfl
  have b11 := F11.binds (ps := ["numbers", "most"]) fun _ _ _ _ _ _ us hl => match us, hl with | [_, _], _ => rfl
  have b12 := F12.binds (ps := ["call"]) fun _ _ _ _ _ _ us hl => match us, hl with | [_], _ => rfl
  have b13 := F13.binds (ps := ["shared", "call", "numbers", "row"]) fun _ _ _ _ _ _ us hl => match us, hl with | [_, _, _, _], _ => rfl
  have b14 := F14.binds (ps := ["calls"]) fun _ _ _ _ _ _ us hl => match us, hl with | [_], _ => rfl
  have b21 := F21.binds (ps := ["self"]) fun _ _ _ _ _ _ us hl => match us, hl with | [_], _ => rfl
  have b22 := F22.binds (ps := ["self"]) fun _ _ _ _ _ _ us hl => match us, hl with | [_], _ => rfl
  have b23 := F23.binds (ps := ["self"]) fun _ _ _ _ _ _ us hl => match us, hl with | [_], _ => rfl
  have b24 := F24.binds (ps := ["self", "user", "rate"]) fun _ _ _ _ _ _ us hl => match us, hl with | [_, _, _], _ => rfl
  have b25 := F25.binds (ps := ["self", "new_user"]) fun _ _ _ _ _ _ us hl => match us, hl with | [_, _], _ => rfl
  have b26 := F26.binds (ps := ["self", "user"]) fun _ _ _ _ _ _ us hl => match us, hl with | [_, _], _ => rfl
  have b27 := F27.binds (ps := ["self", "user"]) fun _ _ _ _ _ _ us hl => match us, hl with | [_, _], _ => rfl
  have b28 := F28.binds (ps := ["self", "user", "rate", "symbols"]) fun _ _ _ _ _ _ us hl => match us, hl with | [_, _, _, _], _ => rfl
  have b29 := F29.binds (ps := ["self"]) fun _ _ _ _ _ _ us hl => match us, hl with | [_], _ => rfl
  have b30 := F30.binds (ps := ["self", "user", "rate", "row"]) fun _ _ _ _ _ _ us hl => match us, hl with | [_, _, _, _], _ => rfl
  have m21 : Meth K C "__init__" f21 := ⟨a21, i21, k21⟩
  have m22 : Meth K C "begin" f22 := ⟨a22, i22, k22⟩
  have m23 : Meth K C "clear_line" f23 := ⟨a23, i23, k23⟩
  have m24 : Meth K C "open_user" f24 := ⟨a24, i24, k24⟩
  have m25 : Meth K C "give_anew" f25 := ⟨a25, i25, k25⟩
  have m26 : Meth K C "close_user" f26 := ⟨a26, i26, k26⟩
  have m27 : Meth K C "code_of" f27 := ⟨a27, i27, k27⟩
  have m28 : Meth K C "say" f28 := ⟨a28, i28, k28⟩
  have m29 : Meth K C "tell_line" f29 := ⟨a29, i29, k29⟩
  have m30 : Meth K C "hear" f30 := ⟨a30, i30, k30⟩
  obtain ⟨fT, oT, fdT, t1, t2, t3, t4⟩ := held.fn
  have e5 := t1.symm.trans (g a5)
  cases e5
  rw [X _ _ l5] at t2
  cases t2
  cases t3
  have t4 : cd5 = .ref cT := t4
  subst t4
  have FC : FunC K "ks_anew" "ks_anew" sAnew f5 _ cT := ⟨⟨oc5, od5, kV5, dc5, pm5, an5, ct5, sl5, rfl, l5, c5⟩, k5⟩
  have hC := codeHd_all X c5 held.hd
  refine ⟨PySem.W.fnOf "answers" "answers" (defArgs sAns) (defBody sAns) (defScope sAns) .none kV14 dc14 pm14 an14 cd14 ct14, fun s us hu => match us, hu with | [_], _ => .of_eq rfl, fun base _ _ hB => ?_⟩
  have O1 := ok_isRate (P := P) (w := w) (base := base) F1 T
  have O2 := ok_level (P := P) (w := w) (base := base) F2 T
  have O3 := ok_taken (P := P) (w := w) (base := base) F3 T
  have O4 := ok_least F4 T O3 b3 (g a3) k3
  have O5 := ok_anew (P := P) (w := w) (base := base) FC hC hB T.sorted
  have O6 := ok_signs (P := P) (w := w) (base := base) F6 T
  have O7 := ok_laid F7 T O6 b6 (g a6) k6
  have O8 := ok_heardSym (P := P) (w := w) (base := base) F8 T
  have O9 := ok_heard F9 T O6 b6 (g a6) k6 O8 b8 (g a8) k8
  have O10 := ok_nearest (P := P) (w := w) (base := base) F10 T
  have O11 := ok_within (P := P) (w := w) (base := base) F11 T
  have O12 := ok_hasRow (P := P) (w := w) (base := base) F12 T
  have O23 := ok_clear (P := P) (w := w) (base := base) F23 T TC
  have O22 := ok_begin F22 T TC O23 b23 m23
  have O21 := ok_init F21 TC O22 b22 m22
  have O25 := ok_give (PT := PT) F25 T TC O5 b5 (g a5) k5 O2 b2 (g a2) k2
  have O24 := ok_open F24 T TC O1 b1 (g a1) k1 O4 b4 (g a4) k4 O25 b25 m25
  have O26 := ok_close (P := P) (w := w) (base := base) (PT := PT) F26 T TC
  have O27 := ok_code (PT := PT) F27 T TC O2 b2 (g a2) k2
  have O28 := ok_say (PT := PT) F28 T TC O1 b1 (g a1) k1 O2 b2 (g a2) k2 O11 b11 (g a11) k11 O7 b7 (g a7) k7
  have O29 := ok_tell (PT := PT) F29 T TC O23 b23 m23
  have O30 := ok_hear (PT := PT) F30 T TC O1 b1 (g a1) k1 O2 b2 (g a2) k2 O11 b11 (g a11) k11 O9 b9 (g a9) k9 O10 b10 (g a10) k10
  have O13 := ok_one F13 T TC O22 b22 m22 O24 b24 m24 O26 b26 m26 O27 b27 m27 O28 b28 m28 O29 b29 m29 O30 b30 m30
  exact ok_ans F14 T (g aC) ⟨mk, a21, i21, kc⟩ O21 b21 O12 b12 (g a12) k12 O13 b13 (g a13) k13
end Cl
end
set_option Elab.async false
set_option linter.all false
open PySem PySem.W PyProof.Rows
set_option maxRecDepth 100000 in
set_option maxHeartbeats 0 in
theorem PySem.Challenge.cw_codeline_s01_answers_holds : PySem.Challenge.rw_codeline_s01_answers.Holds := by
  w_on; k_headS; (case hw => exact ⟨[.list []], by decide +kernel, by decide +kernel⟩)
  k_fillS
  refine L2.walk_specT (r := PySem.Challenge.rw_codeline_s01_answers) (k := 9) (CX := L2.CX0) (ps := ["calls"]) (sp := Cl.spAns) (nT := "ks_anew") (by decide +kernel) rfl ⟨rfl, by decide, by decide⟩ (by decide +kernel) ?K0 (fun w h Y => PySem.W.kIn_of Y) ?F ?S (fun _ _ _ _ z => z)
  case K0 =>
    intro w
    kernel_rfl
  case F =>
    intro w mg fa h cT PT Y KX G hmg held
    refine' Cl.all_mk KX G hmg held ?aC ?a1 ?l1 ?c1 ?k1 ?a2 ?l2 ?c2 ?k2 ?a3 ?l3 ?c3 ?k3 ?a4 ?l4 ?c4 ?k4 ?a5 ?l5 ?c5 ?k5 ?a6 ?l6 ?c6 ?k6 ?a7 ?l7 ?c7 ?k7 ?a8 ?l8 ?c8 ?k8 ?a9 ?l9 ?c9 ?k9 ?a10 ?l10 ?c10 ?k10 ?a11 ?l11 ?c11 ?k11 ?a12 ?l12 ?c12 ?k12 ?a13 ?l13 ?c13 ?k13 ?a14 ?l14 ?c14 ?k14 ?a21 ?i21 ?l21 ?c21 ?k21 ?a22 ?i22 ?l22 ?c22 ?k22 ?a23 ?i23 ?l23 ?c23 ?k23 ?a24 ?i24 ?l24 ?c24 ?k24 ?a25 ?i25 ?l25 ?c25 ?k25 ?a26 ?i26 ?l26 ?c26 ?k26 ?a27 ?i27 ?l27 ?c27 ?k27 ?a28 ?i28 ?l28 ?c28 ?k28 ?a29 ?i29 ?l29 ?c29 ?k29 ?a30 ?i30 ?l30 ?c30 ?k30 ?pg ?hd ?po ?sa ?mk ?kc ?nR ?nK ?nL ?nS ?g_tips ?g_places ?g_last ?g_mostSaid ?g_mostHeard ?g_done ?g_noCode ?g_said ?g_hasCode ?g_wrong ?g_noRoom ?g_otherRate ?g_tooFar ?g_call0 ?g_call1 ?g_call2 ?g_call3 ?g_call4 ?g_call5 ?g_call6 ?z_range ?z_len ?z_sum ?z_sorted ?z_abs ?z_all ?z_enumerate ?aD1 ?lD1 ?pD1 ?sD1 ?aD2 ?lD2 ?pD2 ?sD2
    (case aC => k_is)
    (case a1 => k_is)
    (case l1 => k_is)
    (case c1 => k_is)
    (case k1 => k_is)
    (case a2 => k_is)
    (case l2 => k_is)
    (case c2 => k_is)
    (case k2 => k_is)
    (case a3 => k_is)
    (case l3 => k_is)
    (case c3 => k_is)
    (case k3 => k_is)
    (case a4 => k_is)
    (case l4 => k_is)
    (case c4 => k_is)
    (case k4 => k_is)
    (case a5 => k_is)
    (case l5 => k_is)
    (case c5 => k_is)
    (case k5 => k_is)
    (case a6 => k_is)
    (case l6 => k_is)
    (case c6 => k_is)
    (case k6 => k_is)
    (case a7 => k_is)
    (case l7 => k_is)
    (case c7 => k_is)
    (case k7 => k_is)
    (case a8 => k_is)
    (case l8 => k_is)
    (case c8 => k_is)
    (case k8 => k_is)
    (case a9 => k_is)
    (case l9 => k_is)
    (case c9 => k_is)
    (case k9 => k_is)
    (case a10 => k_is)
    (case l10 => k_is)
    (case c10 => k_is)
    (case k10 => k_is)
    (case a11 => k_is)
    (case l11 => k_is)
    (case c11 => k_is)
    (case k11 => k_is)
    (case a12 => k_is)
    (case l12 => k_is)
    (case c12 => k_is)
    (case k12 => k_is)
    (case a13 => k_is)
    (case l13 => k_is)
    (case c13 => k_is)
    (case k13 => k_is)
    (case a14 => k_is)
    (case l14 => k_is)
    (case c14 => k_is)
    (case k14 => k_is)
    (case a21 => k_is)
    (case i21 => k_is)
    (case l21 => k_is)
    (case c21 => k_is)
    (case k21 => k_is)
    (case a22 => k_is)
    (case i22 => k_is)
    (case l22 => k_is)
    (case c22 => k_is)
    (case k22 => k_is)
    (case a23 => k_is)
    (case i23 => k_is)
    (case l23 => k_is)
    (case c23 => k_is)
    (case k23 => k_is)
    (case a24 => k_is)
    (case i24 => k_is)
    (case l24 => k_is)
    (case c24 => k_is)
    (case k24 => k_is)
    (case a25 => k_is)
    (case i25 => k_is)
    (case l25 => k_is)
    (case c25 => k_is)
    (case k25 => k_is)
    (case a26 => k_is)
    (case i26 => k_is)
    (case l26 => k_is)
    (case c26 => k_is)
    (case k26 => k_is)
    (case a27 => k_is)
    (case i27 => k_is)
    (case l27 => k_is)
    (case c27 => k_is)
    (case k27 => k_is)
    (case a28 => k_is)
    (case i28 => k_is)
    (case l28 => k_is)
    (case c28 => k_is)
    (case k28 => k_is)
    (case a29 => k_is)
    (case i29 => k_is)
    (case l29 => k_is)
    (case c29 => k_is)
    (case k29 => k_is)
    (case a30 => k_is)
    (case i30 => k_is)
    (case l30 => k_is)
    (case c30 => k_is)
    (case k30 => k_is)
    (case pg => k_is)
    (case hd => k_is)
    (case po => k_is)
    (case sa => k_is)
    (case mk => k_is)
    (case kc => k_is)
    (case nR => k_is)
    (case nK => k_is)
    (case nL => k_is)
    (case nS => k_is)
    (case g_tips => k_is)
    (case g_places => k_is)
    (case g_last => k_is)
    (case g_mostSaid => k_is)
    (case g_mostHeard => k_is)
    (case g_done => k_is)
    (case g_noCode => k_is)
    (case g_said => k_is)
    (case g_hasCode => k_is)
    (case g_wrong => k_is)
    (case g_noRoom => k_is)
    (case g_otherRate => k_is)
    (case g_tooFar => k_is)
    (case g_call0 => k_is)
    (case g_call1 => k_is)
    (case g_call2 => k_is)
    (case g_call3 => k_is)
    (case g_call4 => k_is)
    (case g_call5 => k_is)
    (case g_call6 => k_is)
    (case z_range => k_is)
    (case z_len => k_is)
    (case z_sum => k_is)
    (case z_sorted => k_is)
    (case z_abs => k_is)
    (case z_all => k_is)
    (case z_enumerate => k_is)
    (case aD1 => k_is)
    (case lD1 => k_is)
    (case aD2 => k_is)
    (case lD2 => k_is)
    (case pD1 => exact .cons ⟨⟨_, rfl⟩, ⟨_, rfl⟩, by decide +kernel⟩ (.cons ⟨⟨_, rfl⟩, ⟨_, rfl⟩, by decide +kernel⟩ (.cons ⟨⟨_, rfl⟩, ⟨_, rfl⟩, by decide +kernel⟩ (.cons ⟨⟨_, rfl⟩, ⟨_, rfl⟩, by decide +kernel⟩ (.cons ⟨⟨_, rfl⟩, ⟨_, rfl⟩, by decide +kernel⟩ (.cons ⟨⟨_, rfl⟩, ⟨_, rfl⟩, by decide +kernel⟩ (.cons ⟨⟨_, rfl⟩, ⟨_, rfl⟩, by decide +kernel⟩ (.cons ⟨⟨_, rfl⟩, ⟨_, rfl⟩, by decide +kernel⟩ (.cons ⟨⟨_, rfl⟩, ⟨_, rfl⟩, by decide +kernel⟩ (.nil))))))))))
    (case sD1 => decide +kernel)
    (case pD2 => exact .cons ⟨⟨_, rfl⟩, ⟨_, rfl⟩, by decide +kernel⟩ (.cons ⟨⟨_, rfl⟩, ⟨_, rfl⟩, by decide +kernel⟩ (.cons ⟨⟨_, rfl⟩, ⟨_, rfl⟩, by decide +kernel⟩ (.cons ⟨⟨_, rfl⟩, ⟨_, rfl⟩, by decide +kernel⟩ (.cons ⟨⟨_, rfl⟩, ⟨_, rfl⟩, by decide +kernel⟩ (.cons ⟨⟨_, rfl⟩, ⟨_, rfl⟩, by decide +kernel⟩ (.cons ⟨⟨_, rfl⟩, ⟨_, rfl⟩, by decide +kernel⟩ (.nil))))))))
    (case sD2 => decide +kernel)
  case S =>
    intro K PT H xs a hO hwi hask hx
    cases hx with
    | cons h1 h2 =>
      cases h2
      cases h1 with
      | lst hs ha =>
        have e := L2.ints_dw a.1 _ ha
        subst e
        have q : ((Codec.inLen 0 30000 a.1 && a.1.all (Codec.inInt (-2147483648) 4294967295)) && true) = true := hwi
        rw [Bool.and_eq_true, Bool.and_eq_true] at q
        exact ⟨_, a.1, rfl, hs, (Codec.inNat_iff.mp q.1.1).2, hask, L2.onlyT_lam hO, fun H' p hp => .lst (L2.SqL.of hp) (L2.dw_ints _)⟩
