import PyProof.Rows.All
import PyRp03
import Wide.All
import OpenK.AllK
import Wide.FinOn
import Open.SpecLaws
import KE.OsHead
import KE.OsGo
import KE.KLam
import KE.KMinKey
import HandS.ForSpec
import HandS.ForMost
import HandS.SortKw
import HandS.Lambda
import HandS.Nested
import HandS.EndTab
import KE.GoesEnumKw
import HandS.Walk
import HandS.More
import HandS.Deep
import PyWideLaws
import PySem.Challenge.RW_branchcaches_s01_answers
set_option linter.all false
namespace Bc
open Rp03 (House Branch Entry Call step)

/-! ### lists -/
theorem sum_foldl (l : List Nat) (a : Nat) : l.foldl (fun a b => a + b) a = a + l.sum := by
  induction l generalizing a with
  | nil => simp
  | cons x r ih => rw [List.foldl_cons, ih, List.sum_cons]; omega
theorem sum_eq (l : List Nat) : Rp03.sum l = l.sum := by
  unfold Rp03.sum; rw [sum_foldl]; omega
theorem size_eq (es : List Entry) : Rp03.size es = (es.map fun e => e.size).sum := by
  unfold Rp03.size; rw [sum_eq]
theorem size_nil : Rp03.size [] = 0 := rfl
theorem size_cons (e : Entry) (es : List Entry) : Rp03.size (e :: es) = e.size + Rp03.size es := by
  rw [size_eq, size_eq, List.map_cons, List.sum_cons]

/-- parents stand ahead of their children -/
def Up : List Nat → List Branch → Prop
  | _, [] => True
  | seen, x :: r => x.parent ∈ seen ∧ Up (x.id :: seen) r

/-- what holds of the specification's house between two calls -/
structure Good (h : House) : Prop where
  ids : (h.branches.map (·.id)).Nodup
  zero : ∃ s r, h.branches = ⟨0, 0, s⟩ :: r ∧ Up [0] r
  nb : h.branches.length ≤ 8
  ne : h.entries.length ≤ 40
  sav : h.entries.Pairwise fun a b => a.saved < b.saved
  savlt : ∀ e ∈ h.entries, e.saved < h.clock
  used : h.entries.Pairwise fun a b => a.used ≠ b.used
  usedlt : ∀ e ∈ h.entries, e.used < h.clock
  keys : h.entries.Pairwise fun a b => ¬ (a.branch = b.branch ∧ a.key = b.key)
  kok : ∀ e ∈ h.entries, Rp03.isKey e.key = true
  day : ∀ e ∈ h.entries, e.day ≤ h.today

theorem has_iff {h : House} {b : Nat} : h.has b = true ↔ b ∈ h.branches.map (·.id) := by
  unfold House.has House.branch
  rw [List.find?_isSome, List.mem_map]
  constructor
  · rintro ⟨x, h1, h2⟩; exact ⟨x, h1, eq_of_beq h2⟩
  · rintro ⟨x, h1, h2⟩; exact ⟨x, h1, beq_iff_eq.mpr h2⟩
theorem has_false {h : House} {b : Nat} : h.has b = false ↔ b ∉ h.branches.map (·.id) := by
  rw [← has_iff]; simp

theorem good_init : Good Rp03.init := by
  refine ⟨by decide, ⟨0, [], rfl, trivial⟩, by decide, by decide, List.Pairwise.nil, ?_, List.Pairwise.nil, ?_, List.Pairwise.nil, ?_, ?_⟩ <;> (intro e he; cases he)

/-! ### branches: opened, closed, a share set -/
theorem up_snoc {x : Branch} : ∀ {seen : List Nat} {r : List Branch}, Up seen r → (x.parent ∈ seen ∨ x.parent ∈ r.map (·.id)) → Up seen (r ++ [x])
  | seen, [], _, h => ⟨h.elim id (fun q => absurd q (by simp)), trivial⟩
  | seen, y :: r, ⟨h1, h2⟩, h => by
    refine ⟨h1, up_snoc h2 ?_⟩
    rcases h with q | q
    · exact .inl (List.mem_cons_of_mem _ q)
    · rcases List.mem_cons.mp q with e | e
      · left; rw [e]; exact List.mem_cons_self ..
      · exact .inr e
theorem up_mono : ∀ {seen seen' : List Nat} {r : List Branch}, (∀ a ∈ seen, a ∈ seen') → Up seen r → Up seen' r
  | _, _, [], _, _ => trivial
  | seen, seen', x :: r, hs, ⟨h1, h2⟩ => ⟨hs _ h1, up_mono (fun a ha => by
      rcases List.mem_cons.mp ha with e | e
      · rw [e]; exact List.mem_cons_self ..
      · exact List.mem_cons_of_mem _ (hs a e)) h2⟩
/-- b closed, whose parent is p: seen without b -/
theorem up_close {b p : Nat} : ∀ {seen seen' : List Nat} {r : List Branch}, (∀ a ∈ seen, a ≠ b → a ∈ seen') → (b ∈ seen → p ∈ seen') → (b ∉ seen → ∀ x ∈ r, x.id = b → x.parent = p) → p ≠ b → Up seen r →
    Up seen' ((r.filter fun x => x.id != b).map fun x => if x.parent = b then { x with parent := p } else x)
  | _, _, [], _, _, _, _, _ => trivial
  | seen, seen', x :: r, h1, h2, h3, hp, ⟨u1, u2⟩ => by
    by_cases e : x.id = b
    · have ef : (x :: r).filter (fun x => x.id != b) = r.filter fun x => x.id != b := by
        rw [List.filter_cons_of_neg]; simp [e]
      rw [ef]
      refine up_close (seen := x.id :: seen) ?_ ?_ ?_ hp u2
      · intro a ha hab
        rcases List.mem_cons.mp ha with q | q
        · exact absurd (q.trans e) hab
        · exact h1 a q hab
      · intro _
        by_cases hb : b ∈ seen
        · exact h2 hb
        · have := h3 hb x (List.mem_cons_self ..) e
          rw [this] at u1
          exact h1 p u1 hp
      · intro hb
        exact absurd (by rw [e]; exact List.mem_cons_self ..) hb
    · have ef : (x :: r).filter (fun x => x.id != b) = x :: r.filter fun x => x.id != b := by
        rw [List.filter_cons_of_pos]; simp [e]
      rw [ef, List.map_cons]
      have pe : ∀ y : Branch, (if y.parent = b then ({ y with parent := p } : Branch) else y).id = y.id := by intro y; split <;> rfl
      refine ⟨?_, ?_⟩
      · by_cases q : x.parent = b
        · rw [if_pos q]; exact h2 (by rw [← q]; exact u1)
        · rw [if_neg q]; exact h1 _ u1 q
      · rw [pe]
        refine up_close (seen := x.id :: seen) ?_ ?_ ?_ hp u2
        · intro a ha hab
          rcases List.mem_cons.mp ha with q | q
          · rw [q]; exact List.mem_cons_self ..
          · exact List.mem_cons_of_mem _ (h1 a q hab)
        · intro hb
          rcases List.mem_cons.mp hb with q | q
          · exact absurd q.symm e
          · exact List.mem_cons_of_mem _ (h2 q)
        · intro hb y hy ey
          exact h3 (fun q => hb (List.mem_cons_of_mem _ q)) y (List.mem_cons_of_mem _ hy) ey

theorem mem_ids {h : House} {x : Branch} (hx : x ∈ h.branches) : x.id ∈ h.branches.map (·.id) := List.mem_map.mpr ⟨x, hx, rfl⟩
theorem nodup_inj {bs : List Branch} (nd : (bs.map (·.id)).Nodup) : ∀ {x y : Branch}, x ∈ bs → y ∈ bs → x.id = y.id → x = y := by
  induction bs with
  | nil => intro x y hx; cases hx
  | cons z r ih =>
    intro x y hx hy e
    rw [List.map_cons, List.nodup_cons] at nd
    rcases List.mem_cons.mp hx with ex | hx'
    · rcases List.mem_cons.mp hy with ey | hy'
      · rw [ex, ey]
      · exact absurd (List.mem_map.mpr ⟨y, hy', by rw [← e, ex]⟩) nd.1
    · rcases List.mem_cons.mp hy with ey | hy'
      · exact absurd (List.mem_map.mpr ⟨x, hx', by rw [e, ey]⟩) nd.1
      · exact ih nd.2 hx' hy' e
/-- the branch of a number -/
theorem branch_of {h : House} (g : (h.branches.map (·.id)).Nodup) {x : Branch} (hx : x ∈ h.branches) : h.branch x.id = some x := by
  unfold House.branch
  cases e : h.branches.find? (fun y => y.id == x.id) with
  | none =>
    have := List.find?_eq_none.mp e x hx
    simp at this
  | some y =>
    have h1 := List.mem_of_find?_eq_some e
    have h2 : y.id = x.id := eq_of_beq (List.find?_some (p := fun y : Branch => y.id == x.id) e)
    rw [nodup_inj g h1 hx h2]
theorem parent_of {h : House} (g : (h.branches.map (·.id)).Nodup) {x : Branch} (hx : x ∈ h.branches) : h.parent x.id = x.parent := by
  unfold House.parent; rw [branch_of g hx]
theorem share_of {h : House} (g : (h.branches.map (·.id)).Nodup) {x : Branch} (hx : x ∈ h.branches) : h.share x.id = x.share := by
  unfold House.share; rw [branch_of g hx]
theorem has_ex {h : House} {b : Nat} (hb : h.has b = true) : ∃ x ∈ h.branches, x.id = b := List.mem_map.mp (has_iff.mp hb)
theorem has_zero {h : House} (g : Good h) : h.has 0 = true := by
  obtain ⟨s, r, e, _⟩ := g.zero
  rw [has_iff, e]; exact List.mem_cons_self ..
/-- whatever keeps the ids keeps who is there -/
theorem has_of_ids {h h' : House} (e : h'.branches.map (·.id) = h.branches.map (·.id)) (b : Nat) : h'.has b = h.has b := by
  rw [Bool.eq_iff_iff, has_iff, has_iff, e]

theorem up_parent : ∀ {seen : List Nat} {r : List Branch}, Up seen r → ∀ x ∈ r, x.parent ∈ seen ∨ x.parent ∈ r.map (·.id)
  | _, [], _, x, hx => by cases hx
  | seen, y :: r, ⟨h1, h2⟩, x, hx => by
    rcases List.mem_cons.mp hx with e | e
    · rw [e]; exact .inl h1
    · rcases up_parent h2 x e with q | q
      · rcases List.mem_cons.mp q with z | z
        · right; rw [z]; exact List.mem_cons_self ..
        · exact .inl z
      · right; exact List.mem_cons_of_mem _ q
theorem up_ne : ∀ {seen : List Nat} {r : List Branch}, Up seen r → (r.map (·.id)).Nodup → (∀ x ∈ r, x.id ∉ seen) → ∀ x ∈ r, x.parent ≠ x.id
  | _, [], _, _, _, x, hx => by cases hx
  | seen, y :: r, ⟨h1, h2⟩, nd, hn, x, hx => by
    rw [List.map_cons, List.nodup_cons] at nd
    rcases List.mem_cons.mp hx with e | e
    · rw [e]; intro q; rw [q] at h1; exact hn y (List.mem_cons_self ..) h1
    · refine up_ne h2 nd.2 (fun z hz q => ?_) x e
      rcases List.mem_cons.mp q with w | w
      · exact nd.1 (List.mem_map.mpr ⟨z, hz, w⟩)
      · exact hn z (List.mem_cons_of_mem _ hz) w
theorem has_parent {h : House} (g : Good h) {x : Branch} (hx : x ∈ h.branches) : h.has x.parent = true := by
  obtain ⟨s, r, e, u⟩ := g.zero
  rw [has_iff, e]
  rw [e] at hx
  rcases List.mem_cons.mp hx with q | q
  · rw [q]; exact List.mem_cons_self ..
  · rcases up_parent u x q with z | z
    · rw [List.mem_singleton.mp z]; exact List.mem_cons_self ..
    · exact List.mem_cons_of_mem _ z
theorem parent_ne {h : House} (g : Good h) {x : Branch} (hx : x ∈ h.branches) (h0 : x.id ≠ 0) : x.parent ≠ x.id := by
  obtain ⟨s, r, e, u⟩ := g.zero
  have nd := g.ids
  rw [e] at hx nd
  rcases List.mem_cons.mp hx with q | q
  · rw [q] at h0; exact absurd rfl h0
  · rw [List.map_cons, List.nodup_cons] at nd
    refine up_ne u nd.2 (fun z hz w => nd.1 ?_) x q
    exact List.mem_map.mpr ⟨z, hz, List.mem_singleton.mp w⟩

/-! ### each call keeps it -/
theorem good_begins {r l s : Nat} : Good ⟨r, l, 0, 0, [⟨0, 0, s⟩], []⟩ := by
  refine ⟨by simp, ⟨s, [], rfl, trivial⟩, by simp, by simp, List.Pairwise.nil, ?_, List.Pairwise.nil, ?_, List.Pairwise.nil, ?_, ?_⟩ <;> (intro e he; cases he)
/-- entries as they were, branches with the same ids -/
theorem good_branches {h : House} (g : Good h) {bs : List Branch} (e1 : bs.map (·.id) = h.branches.map (·.id)) (e2 : ∃ s r, bs = ⟨0, 0, s⟩ :: r ∧ Up [0] r) : Good { h with branches := bs } := by
  refine ⟨by rw [e1]; exact g.ids, e2, ?_, g.ne, g.sav, g.savlt, g.used, g.usedlt, g.keys, g.kok, g.day⟩
  · have := congrArg List.length e1
    rw [List.length_map, List.length_map] at this
    show bs.length ≤ 8
    rw [this]; exact g.nb
theorem good_opens {h : House} (g : Good h) {b p s : Nat} (h1 : h.has b = false) (h2 : h.has p = true) (h3 : h.branches.length ≠ 8) : Good { h with branches := h.branches ++ [⟨b, p, s⟩] } := by
  obtain ⟨s0, r, e, u⟩ := g.zero
  refine ⟨?_, ?_, ?_, g.ne, g.sav, g.savlt, g.used, g.usedlt, g.keys, g.kok, g.day⟩
  · rw [List.map_append, List.nodup_append]
    refine ⟨g.ids, by simp, fun a ha c hc => ?_⟩
    have ec : c = b := List.mem_singleton.mp hc
    rw [ec]
    intro q
    exact has_false.mp h1 (by rw [← q]; exact ha)
  · refine ⟨s0, r ++ [⟨b, p, s⟩], by show h.branches ++ _ = _; rw [e]; rfl, up_snoc u ?_⟩
    have := has_iff.mp h2
    rw [e, List.map_cons] at this
    rcases List.mem_cons.mp this with q | q
    · left; exact List.mem_singleton.mpr q
    · exact .inr q
  · show (h.branches ++ [_]).length ≤ 8
    rw [List.length_append, List.length_singleton]
    have := g.nb
    omega
theorem pairwise_filter {α : Type} {R : α → α → Prop} {p : α → Bool} {l : List α} (h : l.Pairwise R) : (l.filter p).Pairwise R := h.sublist List.filter_sublist
theorem good_closes {h : House} (g : Good h) {b : Nat} (h1 : h.has b = true) (h2 : b ≠ 0) :
    Good { h with branches := (h.branches.filter fun x => x.id != b).map (fun x => if x.parent = b then { x with parent := h.parent b } else x), entries := h.entries.filter fun e => e.branch != b } := by
  obtain ⟨s0, r, e, u⟩ := g.zero
  obtain ⟨x, hx, ex⟩ := has_ex h1
  have ep : h.parent b = x.parent := by rw [← ex]; exact parent_of g.ids hx
  have eid : ∀ bs : List Branch, (bs.map fun x => if x.parent = b then { x with parent := h.parent b } else x).map (·.id) = bs.map (·.id) := fun bs => by
    rw [List.map_map]
    refine List.map_congr_left fun y _ => ?_
    show (if y.parent = b then ({ y with parent := h.parent b } : Branch) else y).id = y.id
    split <;> rfl
  have hne : h.parent b ≠ b := by rw [ep, ← ex]; exact parent_ne g hx (by rw [ex]; exact h2)
  refine ⟨?_, ?_, ?_, ?_, pairwise_filter g.sav, fun y hy => g.savlt y (List.mem_filter.mp hy).1, pairwise_filter g.used, fun y hy => g.usedlt y (List.mem_filter.mp hy).1, pairwise_filter g.keys, fun y hy => g.kok y (List.mem_filter.mp hy).1, fun y hy => g.day y (List.mem_filter.mp hy).1⟩
  · show (List.map Branch.id (List.map _ _)).Nodup
    rw [eid]
    exact g.ids.sublist (List.Sublist.map _ List.filter_sublist)
  · refine ⟨s0, (r.filter fun x => x.id != b).map (fun x => if x.parent = b then { x with parent := h.parent b } else x), ?_, ?_⟩
    · show (h.branches.filter fun x => x.id != b).map _ = _
      rw [e, List.filter_cons_of_pos (by simp; exact fun q => h2 q.symm), List.map_cons, if_neg (fun q => h2 q.symm)]
    · refine up_close (seen := [0]) (fun a ha _ => ha) (fun q => absurd (List.mem_singleton.mp q) h2) (fun _ y hy ey => ?_) hne u
      have hy' : y ∈ h.branches := by rw [e]; exact List.mem_cons_of_mem _ hy
      rw [ep, nodup_inj g.ids hx hy' (ex.trans ey.symm)]
  · show (List.map _ _).length ≤ 8
    rw [List.length_map]
    exact Nat.le_trans (List.length_filter_le _ _) g.nb
  · exact Nat.le_trans (List.length_filter_le _ _) g.ne
/-- the branch closed, its entries still there -/
theorem good_unbranch {h : House} (g : Good h) {b : Nat} (h1 : h.has b = true) (h2 : b ≠ 0) : Good { h with branches := (h.branches.filter fun x => x.id != b).map (fun x => if x.parent = b then { x with parent := h.parent b } else x) } :=
  let z := good_closes g h1 h2
  ⟨z.ids, z.zero, z.nb, g.ne, g.sav, g.savlt, g.used, g.usedlt, g.keys, g.kok, g.day⟩
theorem good_share {h : House} (g : Good h) {b s : Nat} : Good { h with branches := h.branches.map fun x => if x.id = b then { x with share := s } else x } := by
  obtain ⟨s0, r, e, u⟩ := g.zero
  refine good_branches g ?_ ?_
  · rw [List.map_map]
    refine List.map_congr_left fun y _ => ?_
    show (if y.id = b then ({ y with share := s } : Branch) else y).id = y.id
    split <;> rfl
  · rw [e, List.map_cons]
    have hu : ∀ (seen : List Nat) (r : List Branch), Up seen r → Up seen (r.map fun x => if x.id = b then { x with share := s } else x) := by
      intro seen r
      induction r generalizing seen with
      | nil => intro _; trivial
      | cons y r ih =>
        rintro ⟨a1, a2⟩
        rw [List.map_cons]
        have e1 : (if y.id = b then ({ y with share := s } : Branch) else y).id = y.id := by split <;> rfl
        have e2 : (if y.id = b then ({ y with share := s } : Branch) else y).parent = y.parent := by split <;> rfl
        exact ⟨by rw [e2]; exact a1, by rw [e1]; exact ih _ a2⟩
    by_cases q : 0 = b
    · rw [if_pos (show (⟨0, 0, s0⟩ : Branch).id = b from q)]
      exact ⟨s, _, rfl, hu _ _ u⟩
    · rw [if_neg (show ¬ (⟨0, 0, s0⟩ : Branch).id = b from q)]
      exact ⟨s0, _, rfl, hu _ _ u⟩

theorem good_save {h : House} (g : Good h) {b z c : Nat} {k : List Nat} {l : List Entry} (h1 : h.has b = true) (h2 : Rp03.isKey k = true) (h3 : ¬ (h.entries.any fun e => e.branch == b && e.key == k) = true) (h4 : h.entries.length ≠ 40) :
    Good { h with clock := h.clock + 1, entries := (h.entries.filter fun e => !l.contains e) ++ [(⟨b, k, z, c, h.clock, h.clock, h.today⟩ : Entry)] } := by
  have sub : ∀ y, y ∈ h.entries.filter (fun e => !l.contains e) → y ∈ h.entries := fun y hy => (List.mem_filter.mp hy).1
  have all : ∀ {P : Entry → Prop}, (∀ y ∈ h.entries, P y) → P (⟨b, k, z, c, h.clock, h.clock, h.today⟩ : Entry) → ∀ y ∈ (h.entries.filter fun e => !l.contains e) ++ [(⟨b, k, z, c, h.clock, h.clock, h.today⟩ : Entry)], P y := by
    intro P q1 q2 y hy
    rcases List.mem_append.mp hy with w | w
    · exact q1 y (sub y w)
    · rw [List.mem_singleton.mp w]; exact q2
  have pw : ∀ {R : Entry → Entry → Prop}, h.entries.Pairwise R → (∀ y ∈ h.entries, R y (⟨b, k, z, c, h.clock, h.clock, h.today⟩ : Entry)) → ((h.entries.filter fun e => !l.contains e) ++ [(⟨b, k, z, c, h.clock, h.clock, h.today⟩ : Entry)]).Pairwise R := by
    intro R q1 q2
    refine List.pairwise_append.mpr ⟨pairwise_filter q1, by simp, fun y hy w hw => ?_⟩
    rw [List.mem_singleton.mp hw]; exact q2 y (sub y hy)
  refine ⟨g.ids, g.zero, g.nb, ?_, pw g.sav g.savlt, all (fun y hy => Nat.lt_succ_of_lt (g.savlt y hy)) (Nat.lt_succ_self _), pw g.used (fun y hy => Nat.ne_of_lt (g.usedlt y hy)),
    all (fun y hy => Nat.lt_succ_of_lt (g.usedlt y hy)) (Nat.lt_succ_self _), pw g.keys (fun y hy q => h3 ?_), all g.kok h2, all g.day (Nat.le_refl _)⟩
  · show ((h.entries.filter fun e => !l.contains e) ++ [_]).length ≤ 40
    rw [List.length_append, List.length_singleton]
    have a1 := List.length_filter_le (fun e => !l.contains e) h.entries
    have a2 := g.ne
    omega
  · refine List.any_eq_true.mpr ⟨y, hy, ?_⟩
    rw [q.1, q.2]; simp
theorem pairwise_map' {α β : Type} {R : α → α → Prop} {S : β → β → Prop} {f : α → β} : ∀ {l : List α}, l.Pairwise R → (∀ a b, a ∈ l → b ∈ l → R a b → S (f a) (f b)) → (l.map f).Pairwise S
  | [], _, _ => List.Pairwise.nil
  | a :: l, h, q => by
    rw [List.pairwise_cons] at h
    rw [List.map_cons, List.pairwise_cons]
    refine ⟨fun y hy => ?_, pairwise_map' h.2 fun x y hx hy => q x y (List.mem_cons_of_mem _ hx) (List.mem_cons_of_mem _ hy)⟩
    obtain ⟨x, hx, rfl⟩ := List.mem_map.mp hy
    exact q a x (List.mem_cons_self ..) (List.mem_cons_of_mem _ hx) (h.1 x hx)
theorem pairwise_ne {α : Type} {f : α → Nat} : ∀ {l : List α}, l.Pairwise (fun a b => f a ≠ f b) → ∀ {x y : α}, x ∈ l → y ∈ l → f x = f y → x = y
  | [], _, _, _, hx, _, _ => by cases hx
  | a :: l, h, x, y, hx, hy, e => by
    rw [List.pairwise_cons] at h
    rcases List.mem_cons.mp hx with q | q
    · rcases List.mem_cons.mp hy with w | w
      · rw [q, w]
      · exact absurd (by rw [← q]; exact e) (h.1 y w)
    · rcases List.mem_cons.mp hy with w | w
      · exact absurd (by rw [← w]; exact e.symm) (h.1 x q)
      · exact pairwise_ne h.2 q w e
theorem pairwise_lt_ne {l : List Entry} (h : l.Pairwise fun a b => a.saved < b.saved) : l.Pairwise fun a b => a.saved ≠ b.saved := h.imp fun q => Nat.ne_of_lt q
/-- an entry is used anew -/
def touch (h : House) (x e : Entry) : Entry := if e = x then { e with used := h.clock, day := h.today } else e
theorem touch_saved {h : House} {x e : Entry} : (touch h x e).saved = e.saved := by unfold touch; split <;> rfl
theorem touch_branch {h : House} {x e : Entry} : (touch h x e).branch = e.branch := by unfold touch; split <;> rfl
theorem touch_key {h : House} {x e : Entry} : (touch h x e).key = e.key := by unfold touch; split <;> rfl
theorem good_touch {h : House} (g : Good h) {x : Entry} : Good { h with clock := h.clock + 1, entries := h.entries.map fun e => if e = x then { e with used := h.clock, day := h.today } else e } := by
  have all : ∀ {P : Entry → Prop}, (∀ y ∈ h.entries, P (touch h x y)) → ∀ y ∈ h.entries.map (touch h x), P y := by
    intro P q y hy
    obtain ⟨z, hz, rfl⟩ := List.mem_map.mp hy
    exact q z hz
  refine ⟨g.ids, g.zero, g.nb, ?_, pairwise_map' (f := touch h x) g.sav fun a b _ _ q => by rw [touch_saved, touch_saved]; exact q, all fun y hy => by rw [touch_saved]; exact Nat.lt_succ_of_lt (g.savlt y hy), ?_, all fun y hy => ?_,
    pairwise_map' (f := touch h x) g.keys fun a b _ _ q => by rw [touch_branch, touch_branch, touch_key, touch_key]; exact q, all fun y hy => by rw [touch_key]; exact g.kok y hy, all fun y hy => ?_⟩
  · show (List.map _ _).length ≤ 40
    rw [List.length_map]; exact g.ne
  · have q : h.entries.Pairwise fun a b => a.used ≠ b.used ∧ a.saved ≠ b.saved := List.pairwise_and_iff.mpr ⟨g.used, pairwise_lt_ne g.sav⟩
    refine pairwise_map' (f := touch h x) q fun a b ha hb q => ?_
    have la := g.usedlt a ha
    have lb := g.usedlt b hb
    unfold touch
    by_cases e1 : a = x
    · by_cases e2 : b = x
      · exact absurd (by rw [e1, e2]) q.1
      · rw [if_pos e1, if_neg e2]; show h.clock ≠ b.used; omega
    · by_cases e2 : b = x
      · rw [if_neg e1, if_pos e2]; show a.used ≠ h.clock; omega
      · rw [if_neg e1, if_neg e2]; exact q.1
  · show (touch h x y).used < h.clock + 1
    have := g.usedlt y hy
    unfold touch
    split
    · show h.clock < h.clock + 1; omega
    · omega
  · show (touch h x y).day ≤ h.today
    have := g.day y hy
    unfold touch
    split
    · exact Nat.le_refl _
    · exact this
theorem good_pass {h : House} (g : Good h) {d : Nat} {p : Entry → Bool} : Good { h with today := h.today + d, entries := h.entries.filter p } := by
  refine ⟨g.ids, g.zero, g.nb, Nat.le_trans (List.length_filter_le _ _) g.ne, pairwise_filter g.sav, fun y hy => g.savlt y (List.mem_filter.mp hy).1, pairwise_filter g.used, fun y hy => g.usedlt y (List.mem_filter.mp hy).1,
    pairwise_filter g.keys, fun y hy => g.kok y (List.mem_filter.mp hy).1, fun y hy => ?_⟩
  have := g.day y (List.mem_filter.mp hy).1
  show y.day ≤ h.today + d
  omega
theorem good_step {h : House} (g : Good h) (c : Call) : Good (step h c).1 := by
  cases c with
  | begins r l s =>
    unfold step; dsimp only
    split
    · exact g
    · exact good_begins
  | opens b p s =>
    unfold step; dsimp only
    split
    · exact g
    · rename_i h1
      split
      · exact g
      · rename_i h2
        split
        · exact g
        · split
          · exact g
          · rename_i h4
            exact good_opens g (by simpa using h1) (by simpa using h2) h4
  | closes b =>
    unfold step; dsimp only
    split
    · exact g
    · rename_i h1
      split
      · exact g
      · rename_i h2
        exact good_closes g (by simpa using h1) h2
  | share b s =>
    unfold step; dsimp only
    split
    · exact g
    · split
      · exact g
      · exact good_share g
  | save b z c k =>
    unfold step; dsimp only
    split
    · exact g
    · rename_i h1
      split
      · exact g
      · split
        · exact g
        · rename_i h3
          split
          · exact g
          · rename_i h4
            split
            · exact g
            · rename_i h5
              split
              · exact g
              · exact good_save g (by simpa using h1) (by simpa using h3) h4 h5
  | find b k ps =>
    unfold step; dsimp only
    split
    · exact g
    · split
      · exact g
      · split
        · exact g
        · dsimp only
          split
          · exact good_touch g
          · exact g
  | would b z =>
    unfold step; dsimp only
    split
    · exact g
    · split
      · exact g
      · exact g
  | pass d =>
    unfold step; dsimp only
    split
    · exact g
    · exact good_pass g
  | list b =>
    unfold step; dsimp only
    split <;> exact g
  | state => exact g
end Bc

set_option linter.all false
namespace Bc
open Rp03 (House Branch Entry Call step)

/-! ### the one that was used least lately -/
theorem oldest_some {b : Nat} : ∀ {es : List Entry} {e : Entry}, Rp03.oldest b es = some e → e ∈ es ∧ e.branch = b ∧ ∀ f ∈ es, f.branch = b → e.used ≤ f.used
  | [], e, h => by cases h
  | x :: r, e, h => by
    unfold Rp03.oldest at h
    by_cases hx : x.branch ≠ b
    · rw [if_pos hx] at h
      obtain ⟨h1, h2, h3⟩ := oldest_some h
      refine ⟨List.mem_cons_of_mem _ h1, h2, fun f hf hb => ?_⟩
      rcases List.mem_cons.mp hf with q | q
      · rw [q] at hb; exact absurd hb hx
      · exact h3 f q hb
    · rw [if_neg hx] at h
      have hx' : x.branch = b := Decidable.not_not.mp hx
      cases ho : Rp03.oldest b r with
      | none =>
        rw [ho] at h
        have e1 : x = e := Option.some.inj h
        subst e1
        refine ⟨List.mem_cons_self .., hx', fun f hf hb => ?_⟩
        rcases List.mem_cons.mp hf with q | q
        · rw [q]; exact Nat.le_refl _
        · exfalso
          clear h hf
          induction r with
          | nil => cases q
          | cons y r ih =>
            unfold Rp03.oldest at ho
            by_cases hy : y.branch ≠ b
            · rw [if_pos hy] at ho
              rcases List.mem_cons.mp q with z | z
              · rw [z] at hb; exact hy hb
              · exact ih ho z
            · rw [if_neg hy] at ho
              cases h2 : Rp03.oldest b r with
              | none => rw [h2] at ho; cases ho
              | some g => rw [h2] at ho; dsimp only at ho; split at ho <;> cases ho
      | some f =>
        rw [ho] at h
        obtain ⟨h1, h2, h3⟩ := oldest_some ho
        dsimp only at h
        by_cases hl : f.used < x.used
        · rw [if_pos hl] at h
          have e1 : f = e := Option.some.inj h
          subst e1
          refine ⟨List.mem_cons_of_mem _ h1, h2, fun g hg hb => ?_⟩
          rcases List.mem_cons.mp hg with q | q
          · rw [q]; omega
          · exact h3 g q hb
        · rw [if_neg hl] at h
          have e1 : x = e := Option.some.inj h
          subst e1
          refine ⟨List.mem_cons_self .., hx', fun g hg hb => ?_⟩
          rcases List.mem_cons.mp hg with q | q
          · rw [q]; exact Nat.le_refl _
          · have := h3 g q hb; omega
theorem oldest_none {b : Nat} : ∀ {es : List Entry}, Rp03.oldest b es = none → ∀ e ∈ es, e.branch ≠ b
  | [], _, e, he => by cases he
  | x :: r, h, e, he => by
    unfold Rp03.oldest at h
    by_cases hx : x.branch ≠ b
    · rw [if_pos hx] at h
      rcases List.mem_cons.mp he with q | q
      · rw [q]; exact hx
      · exact oldest_none h e q
    · rw [if_neg hx] at h
      cases ho : Rp03.oldest b r with
      | none => rw [ho] at h; cases h
      | some f => rw [ho] at h; dsimp only at h; split at h <;> cases h
theorem oldest_is {b : Nat} {es : List Entry} {m : Entry} (pw : es.Pairwise fun a b => a.used ≠ b.used) (h1 : m ∈ es) (h2 : m.branch = b) (h3 : ∀ f ∈ es, f.branch = b → m.used ≤ f.used) : Rp03.oldest b es = some m := by
  cases ho : Rp03.oldest b es with
  | none => exact absurd h2 (oldest_none ho m h1)
  | some e =>
    obtain ⟨a1, a2, a3⟩ := oldest_some ho
    have := a3 m h1 h2
    have := h3 e a1 a2
    rw [pairwise_ne (f := fun e : Entry => e.used) pw h1 a1 (by show m.used = e.used; omega)]

/-! ### an entry taken out -/
theorem erase_is {e : Entry} : ∀ {es : List Entry}, es.Pairwise (fun a b => a.used ≠ b.used) → e ∈ es → es.erase e = es.filter fun f => decide (f.used ≠ e.used)
  | [], _, h => by cases h
  | x :: r, pw, h => by
    rw [List.pairwise_cons] at pw
    by_cases q : x = e
    · subst q
      rw [List.erase_cons_head, List.filter_cons_of_neg (by simp)]
      symm
      rw [List.filter_eq_self]
      intro a ha
      exact decide_eq_true (fun z => pw.1 a ha z.symm)
    · have he : e ∈ r := (List.mem_cons.mp h).resolve_left fun z => q z.symm
      rw [List.erase_cons_tail (by simpa using q), erase_is pw.2 he, List.filter_cons_of_pos]
      exact decide_eq_true (pw.1 e he)

/-! ### who gives -/
/-- a branch that may give -/
def May (h : House) (es : List Entry) (saver more n : Nat) : Prop := 0 < h.over es saver more n ∧ ∃ e ∈ es, e.branch = n
/-- the one that gives, of the numbers S -/
structure Best (P : Nat → Prop) (ov : Nat → Nat) (S : List Nat) (b : Nat) : Prop where
  mem : b ∈ S
  may : P b
  top : ∀ n ∈ S, P n → ov n < ov b ∨ (ov n = ov b ∧ b ≤ n)
theorem Best.uniq {P : Nat → Prop} {ov : Nat → Nat} {S T : List Nat} {b c : Nat} (h : Best P ov S b) (k : Best P ov T c) (hs : ∀ n, n ∈ S ↔ n ∈ T) : b = c := by
  have h1 := h.top c ((hs c).mpr k.mem) k.may
  have h2 := k.top b ((hs b).mp h.mem) h.may
  omega
def gpick (ov : Nat → Nat) (a : Option Nat) (x : Nat) : Option Nat := match a with
  | none => some x
  | some b => if ov b < ov x ∨ (ov b = ov x ∧ x < b) then some x else some b
theorem gpick_fold {ov : Nat → Nat} : ∀ (L : List Nat) (a : Nat), ∃ b, L.foldl (gpick ov) (some a) = some b ∧ (b = a ∨ b ∈ L) ∧ (ov a < ov b ∨ (ov a = ov b ∧ b ≤ a)) ∧ ∀ n ∈ L, ov n < ov b ∨ (ov n = ov b ∧ b ≤ n)
  | [], a => ⟨a, rfl, .inl rfl, .inr ⟨rfl, Nat.le_refl _⟩, fun n hn => by cases hn⟩
  | x :: L, a => by
    rw [List.foldl_cons]
    show ∃ b, L.foldl (gpick ov) (if ov a < ov x ∨ (ov a = ov x ∧ x < a) then some x else some a) = some b ∧ _
    by_cases q : ov a < ov x ∨ (ov a = ov x ∧ x < a)
    · rw [if_pos q]
      obtain ⟨b, h1, h2, h3, h4⟩ := gpick_fold L x
      refine ⟨b, h1, ?_, by omega, fun n hn => ?_⟩
      · rcases h2 with z | z
        · right; rw [z]; exact List.mem_cons_self ..
        · right; exact List.mem_cons_of_mem _ z
      · rcases List.mem_cons.mp hn with z | z
        · rw [z]; exact h3
        · exact h4 n z
    · rw [if_neg q]
      obtain ⟨b, h1, h2, h3, h4⟩ := gpick_fold L a
      refine ⟨b, h1, ?_, h3, fun n hn => ?_⟩
      · rcases h2 with z | z
        · exact .inl z
        · right; exact List.mem_cons_of_mem _ z
      · rcases List.mem_cons.mp hn with z | z
        · rw [z]; omega
        · exact h4 n z
theorem foldl_map_id (ov : Nat → Nat) : ∀ (L : List Branch) (a : Option Nat), L.foldl (fun (a : Option Nat) x => match a with
  | none => some x.id
  | some b => if ov b < ov x.id ∨ (ov b = ov x.id ∧ x.id < b) then some x.id else some b) a = (L.map Branch.id).foldl (gpick ov) a
  | [], _ => rfl
  | x :: L, a => by
    rw [List.foldl_cons, List.map_cons, List.foldl_cons, foldl_map_id ov L]
    rfl
theorem may_iff {h : House} {es : List Entry} {saver more n : Nat} : (decide (0 < h.over es saver more n) && es.any fun e => e.branch == n) = true ↔ May h es saver more n := by
  rw [Bool.and_eq_true, List.any_eq_true]
  constructor
  · rintro ⟨h1, e, h2, h3⟩; exact ⟨of_decide_eq_true h1, e, h2, eq_of_beq h3⟩
  · rintro ⟨h1, e, h2, h3⟩; exact ⟨decide_eq_true h1, e, h2, beq_iff_eq.mpr h3⟩
theorem giver_eq {h : House} {es : List Entry} {saver more : Nat} : h.giver es saver more = ((h.branches.filter fun x => decide (0 < h.over es saver more x.id) && es.any fun e => e.branch == x.id).map Branch.id).foldl (gpick (h.over es saver more)) none :=
  foldl_map_id (h.over es saver more) _ none
theorem giver_some {h : House} {es : List Entry} {saver more b : Nat} (q : h.giver es saver more = some b) : Best (May h es saver more) (h.over es saver more) (h.branches.map Branch.id) b := by
  rw [giver_eq] at q
  cases hL : h.branches.filter (fun x => decide (0 < h.over es saver more x.id) && es.any fun e => e.branch == x.id) with
  | nil => rw [hL] at q; cases q
  | cons x L =>
    rw [hL, List.map_cons, List.foldl_cons] at q
    obtain ⟨c, h1, h2, h3, h4⟩ := gpick_fold (ov := h.over es saver more) (L.map Branch.id) x.id
    have e1 : some c = some b := h1.symm.trans q
    have e1 := Option.some.inj e1
    rw [e1] at h1 h2 h3 h4
    have inL : ∀ n, n ∈ (x :: L).map Branch.id → n ∈ h.branches.map Branch.id ∧ May h es saver more n := fun n hn => by
      obtain ⟨y, hy, rfl⟩ := List.mem_map.mp hn
      rw [← hL] at hy
      obtain ⟨y1, y2⟩ := List.mem_filter.mp hy
      exact ⟨List.mem_map.mpr ⟨y, y1, rfl⟩, may_iff.mp y2⟩
    have hc : b ∈ (x :: L).map Branch.id := by
      rw [List.map_cons]
      rcases h2 with z | z
      · rw [z]; exact List.mem_cons_self ..
      · exact List.mem_cons_of_mem _ z
    refine ⟨(inL b hc).1, (inL b hc).2, fun n hn hm => ?_⟩
    obtain ⟨y, hy, rfl⟩ := List.mem_map.mp hn
    have : y ∈ x :: L := by rw [← hL]; exact List.mem_filter.mpr ⟨hy, may_iff.mpr hm⟩
    rcases List.mem_cons.mp this with z | z
    · rw [z]; exact h3
    · exact h4 _ (List.mem_map.mpr ⟨y, z, rfl⟩)
theorem giver_none {h : House} {es : List Entry} {saver more : Nat} (q : h.giver es saver more = none) : ∀ n ∈ h.branches.map Branch.id, ¬ May h es saver more n := by
  rw [giver_eq] at q
  cases hL : h.branches.filter (fun x => decide (0 < h.over es saver more x.id) && es.any fun e => e.branch == x.id) with
  | nil =>
    intro n hn hm
    obtain ⟨y, hy, rfl⟩ := List.mem_map.mp hn
    have : y ∈ h.branches.filter (fun x => decide (0 < h.over es saver more x.id) && es.any fun e => e.branch == x.id) := List.mem_filter.mpr ⟨hy, may_iff.mpr hm⟩
    rw [hL] at this
    cases this
  | cons x L =>
    rw [hL, List.map_cons, List.foldl_cons] at q
    obtain ⟨c, h1, _⟩ := gpick_fold (ov := h.over es saver more) (L.map Branch.id) x.id
    have e1 : some c = none := h1.symm.trans q
    cases e1
theorem giver_is {h : House} {es : List Entry} {saver more b : Nat} {S : List Nat} (q : Best (May h es saver more) (h.over es saver more) S b) (hs : ∀ n, n ∈ S ↔ n ∈ h.branches.map Branch.id) : h.giver es saver more = some b := by
  cases hg : h.giver es saver more with
  | none => exact absurd q.may (giver_none hg b ((hs b).mp q.mem))
  | some c => rw [(giver_some hg).uniq q fun n => (hs n).symm]
theorem giver_no {h : House} {es : List Entry} {saver more : Nat} {S : List Nat} (q : ∀ n ∈ S, ¬ May h es saver more n) (hs : ∀ n, n ∈ S ↔ n ∈ h.branches.map Branch.id) : h.giver es saver more = none := by
  cases hg : h.giver es saver more with
  | none => rfl
  | some c => exact absurd (giver_some hg).may (q c ((hs c).mpr (giver_some hg).mem))
/-- one turn of a walk up the numbers: what was chosen so far -/
def Chosen (h : House) (es : List Entry) (saver more : Nat) (pre : List Nat) (c : Option Nat) (far : Nat) : Prop :=
  match c with
  | none => far = 0 ∧ ∀ n ∈ pre, ¬ May h es saver more n
  | some b => Best (May h es saver more) (h.over es saver more) pre b ∧ far = h.over es saver more b
theorem chosen_take {h : House} {es : List Entry} {saver more : Nat} {pre : List Nat} {c : Option Nat} {far n : Nat} (q : Chosen h es saver more pre c far) (h1 : ∃ e ∈ es, e.branch = n) (h2 : far < h.over es saver more n) :
    Chosen h es saver more (pre ++ [n]) (some n) (h.over es saver more n) := by
  refine ⟨⟨by simp, ⟨by omega, h1⟩, fun m hm hp => ?_⟩, rfl⟩
  rcases List.mem_append.mp hm with z | z
  · cases c with
    | none => exact absurd hp (q.2 m z)
    | some b =>
      have := q.1.top m z hp
      have := q.2
      omega
  · rw [List.mem_singleton.mp z]; exact .inr ⟨rfl, Nat.le_refl _⟩
theorem chosen_leave {h : House} {es : List Entry} {saver more : Nat} {pre : List Nat} {c : Option Nat} {far n : Nat} (q : Chosen h es saver more pre c far) (hup : ∀ m ∈ pre, m ≤ n) (h2 : ¬ ((∃ e ∈ es, e.branch = n) ∧ far < h.over es saver more n)) :
    Chosen h es saver more (pre ++ [n]) c far := by
  cases c with
  | none =>
    refine ⟨q.1, fun m hm hp => ?_⟩
    rcases List.mem_append.mp hm with z | z
    · exact q.2 m z hp
    · rw [List.mem_singleton.mp z] at hp
      exact h2 ⟨hp.2, by rw [q.1]; exact hp.1⟩
  | some b =>
    refine ⟨⟨List.mem_append_left _ q.1.mem, q.1.may, fun m hm hp => ?_⟩, q.2⟩
    rcases List.mem_append.mp hm with z | z
    · exact q.1.top m z hp
    · rw [List.mem_singleton.mp z] at hp ⊢
      have h3 : ¬ far < h.over es saver more n := fun w => h2 ⟨hp.2, w⟩
      have h4 := hup b q.1.mem
      have h5 := q.2
      omega
theorem chosen_end {h : House} {es : List Entry} {saver more : Nat} {S : List Nat} {c : Option Nat} {far : Nat} (q : Chosen h es saver more S c far) (hs : ∀ n, n ∈ S ↔ n ∈ h.branches.map Branch.id) : h.giver es saver more = c := by
  cases c with
  | none => exact giver_no q.2 hs
  | some b => exact giver_is q.1 hs

/-! ### what has to go -/
/-- so far `going` went, `staying` stays -/
structure Going (h : House) (saver more : Nat) (going staying : List Entry) : Prop where
  told : ∃ n, staying.length < n ∧ h.must saver more = (h.goes saver more n staying).map fun l => going ++ l
  sub : staying.Sublist h.entries
  mem : ∀ e ∈ going, e ∈ h.entries
theorem going_start {h : House} {saver more : Nat} : Going h saver more [] h.entries :=
  ⟨⟨h.entries.length + 1, Nat.lt_succ_self _, by
    show h.must saver more = (h.goes saver more (h.entries.length + 1) h.entries).map fun l => [] ++ l
    unfold House.must
    cases h.goes saver more (h.entries.length + 1) h.entries <;> rfl⟩, List.Sublist.refl _, fun e he => by cases he⟩
theorem going_end {h : House} {saver more : Nat} {going staying : List Entry} (g : Going h saver more going staying) (q : Rp03.size staying + more ≤ h.room) : h.must saver more = some going := by
  obtain ⟨n, hn, e⟩ := g.told
  cases n with
  | zero => omega
  | succ n =>
    rw [e]
    unfold House.goes
    rw [if_pos q]
    simp
theorem going_stuck {h : House} {saver more : Nat} {going staying : List Entry} (g : Going h saver more going staying) (q : ¬ Rp03.size staying + more ≤ h.room) (hg : h.giver staying saver more = none) : h.must saver more = none := by
  obtain ⟨n, hn, e⟩ := g.told
  cases n with
  | zero => omega
  | succ n =>
    rw [e]
    unfold House.goes
    rw [if_neg q, hg]
    rfl
theorem going_step {h : House} {saver more : Nat} {going staying : List Entry} {b : Nat} {x : Entry} (g : Going h saver more going staying) (q : ¬ Rp03.size staying + more ≤ h.room) (hg : h.giver staying saver more = some b) (ho : Rp03.oldest b staying = some x) :
    Going h saver more (going ++ [x]) (staying.erase x) := by
  obtain ⟨n, hn, e⟩ := g.told
  have hx := (oldest_some ho).1
  refine ⟨?_, List.erase_sublist.trans g.sub, fun y hy => ?_⟩
  · cases n with
    | zero => omega
    | succ n =>
      refine ⟨n, ?_, ?_⟩
      · rw [List.length_erase_of_mem hx]
        have := List.length_pos_of_mem hx
        omega
      · rw [e]
        show Option.map _ (House.goes h saver more (n + 1) staying) = _
        rw [show House.goes h saver more (n + 1) staying = (h.goes saver more n (staying.erase x)).map (fun l => x :: l) by
          rw [House.goes]; rw [if_neg q, hg]; dsimp only; rw [ho]]
        cases h.goes saver more n (staying.erase x) with
        | none => rfl
        | some l => simp
  · rcases List.mem_append.mp hy with z | z
    · exact g.mem y z
    · rw [List.mem_singleton.mp z]; exact g.sub.subset hx
/-- they are taken out one by one -/
theorem drop_all {l : List Entry} : ∀ (going : List Entry), (∀ e ∈ going, e ∈ l) → l.Pairwise (fun a b => a.used ≠ b.used) → going.foldl (fun es g => es.filter fun e => decide (e.used ≠ g.used)) l = l.filter fun e => !going.contains e := by
  intro going hm pw
  have key : ∀ (going : List Entry) (es : List Entry), (∀ e ∈ going, e ∈ l) → (∀ e ∈ es, e ∈ l) → going.foldl (fun es g => es.filter fun e => decide (e.used ≠ g.used)) es = es.filter fun e => !going.contains e := by
    intro going
    induction going with
    | nil => intro es _ _; symm; exact List.filter_eq_self.mpr fun _ _ => rfl
    | cons x r ih =>
      intro es h1 h2
      rw [List.foldl_cons, ih _ (fun e he => h1 e (List.mem_cons_of_mem _ he)) (fun e he => h2 e (List.mem_filter.mp he).1), List.filter_filter]
      refine List.filter_congr fun e he => ?_
      by_cases q : e = x
      · subst q; simp
      · have : e.used ≠ x.used := fun z => q (pairwise_ne (f := fun e : Entry => e.used) pw (h2 e he) (h1 x (List.mem_cons_self ..)) z)
        simp [this, q]
  exact key going l hm fun e he => he
theorem goes_mem {h : House} {saver more : Nat} : ∀ (n : Nat) (es l : List Entry), h.goes saver more n es = some l → ∀ e ∈ l, e ∈ es
  | 0, _, _, q, _, _ => by cases q
  | n + 1, es, l, q, e, he => by
    rw [House.goes] at q
    split at q
    · obtain rfl := Option.some.inj q
      cases he
    · split at q
      · cases q
      · split at q
        · cases q
        · rename_i x hx
          cases hg : h.goes saver more n (es.erase x) with
          | none => rw [hg] at q; cases q
          | some r =>
            rw [hg] at q
            have e1 : x :: r = l := Option.some.inj q
            rw [← e1] at he
            rcases List.mem_cons.mp he with z | z
            · rw [z]; exact (oldest_some hx).1
            · exact List.mem_of_mem_erase (goes_mem n _ r hg e z)
theorem must_mem {h : House} {saver more : Nat} {l : List Entry} (q : h.must saver more = some l) : ∀ e ∈ l, e ∈ h.entries := goes_mem _ _ _ q
end Bc

set_option linter.all false
namespace Bc
open Rp03 (House Branch Entry Call step)
/-! ### the one that was saved last -/
theorem newest_none {l : List Entry} : Rp03.newest l = none ↔ l = [] := by
  cases l with
  | nil => simp [Rp03.newest]
  | cons e r =>
    unfold Rp03.newest
    constructor
    · intro h
      cases hn : Rp03.newest r with
      | none => rw [hn] at h; cases h
      | some f => rw [hn] at h; dsimp only at h; split at h <;> cases h
    · intro h; cases h
theorem newest_some : ∀ {l : List Entry} {e : Entry}, Rp03.newest l = some e → e ∈ l ∧ ∀ f ∈ l, f.saved ≤ e.saved
  | [], e, h => by cases h
  | x :: r, e, h => by
    unfold Rp03.newest at h
    cases hn : Rp03.newest r with
    | none =>
      rw [hn] at h
      have e1 : x = e := Option.some.inj h
      have e2 := newest_none.mp hn
      subst e1
      refine ⟨List.mem_cons_self .., fun f hf => ?_⟩
      rw [e2] at hf
      rw [List.mem_singleton.mp hf]
      exact Nat.le_refl _
    | some f =>
      rw [hn] at h
      obtain ⟨h1, h2⟩ := newest_some hn
      dsimp only at h
      by_cases q : f.saved < x.saved
      · rw [if_pos q] at h
        have e1 : x = e := Option.some.inj h
        subst e1
        refine ⟨List.mem_cons_self .., fun g hg => ?_⟩
        rcases List.mem_cons.mp hg with z | z
        · rw [z]; exact Nat.le_refl _
        · have := h2 g z; omega
      · rw [if_neg q] at h
        have e1 : f = e := Option.some.inj h
        subst e1
        refine ⟨List.mem_cons_of_mem _ h1, fun g hg => ?_⟩
        rcases List.mem_cons.mp hg with z | z
        · rw [z]; omega
        · exact h2 g z
theorem newest_last : ∀ {l : List Entry}, l.Pairwise (fun a b => a.saved < b.saved) → Rp03.newest l = l.getLast?
  | [], _ => rfl
  | [e], _ => rfl
  | x :: y :: r, pw => by
    rw [List.pairwise_cons] at pw
    have ih := newest_last pw.2
    rw [List.getLast?_cons_cons, ← ih]
    rw [Rp03.newest]
    cases hn : Rp03.newest (y :: r) with
    | none => exact absurd (newest_none.mp hn) (by simp)
    | some f =>
      have := pw.1 f (newest_some hn).1
      dsimp only
      rw [if_neg (by omega)]
theorem newest_is {l : List Entry} {e : Entry} (pw : l.Pairwise fun a b => a.saved < b.saved) (h1 : e ∈ l) (h2 : ∀ f ∈ l, f.saved ≤ e.saved) : Rp03.newest l = some e := by
  cases hn : Rp03.newest l with
  | none => rw [newest_none.mp hn] at h1; cases h1
  | some f =>
    obtain ⟨g1, g2⟩ := newest_some hn
    have a1 := g2 e h1
    have a2 := h2 f g1
    rw [pairwise_ne (f := fun e : Entry => e.saved) (pairwise_lt_ne pw) g1 h1 (by show f.saved = e.saved; omega)]
/-! ### a branch's line -/
/-- where a number stands -/
def rank (h : House) (b : Nat) : Nat := h.branches.findIdx fun x => x.id == b
theorem rank_lt {h : House} {b : Nat} (hb : h.has b = true) : rank h b < h.branches.length := by
  obtain ⟨x, hx, e⟩ := has_ex hb
  exact List.findIdx_lt_length_of_exists ⟨x, hx, by simpa using e⟩
theorem rank_at {h : House} (g : Good h) {i : Nat} {x : Branch} (hi : h.branches[i]? = some x) : rank h x.id = i := by
  obtain ⟨hl, e⟩ := List.getElem?_eq_some_iff.mp hi
  unfold rank
  have hr : h.branches.findIdx (fun y => y.id == x.id) < h.branches.length := List.findIdx_lt_length_of_exists ⟨x, List.mem_of_getElem? hi, by simp⟩
  have e1 : (h.branches[h.branches.findIdx (fun y => y.id == x.id)]).id = x.id := by
    have := List.findIdx_getElem (w := hr)
    simpa using this
  have nd := g.ids
  have h1 : (h.branches.map (·.id))[h.branches.findIdx (fun y => y.id == x.id)]? = some x.id := by rw [List.getElem?_map, List.getElem?_eq_getElem hr]; exact congrArg some e1
  have h2 : (h.branches.map (·.id))[i]? = some x.id := by rw [List.getElem?_map, hi]; rfl
  obtain ⟨l1, q1⟩ := List.getElem?_eq_some_iff.mp h1
  obtain ⟨l2, q2⟩ := List.getElem?_eq_some_iff.mp h2
  exact (List.getElem_inj nd).mp (q1.trans q2.symm)
theorem up_at : ∀ {seen : List Nat} {r : List Branch}, Up seen r → ∀ (i : Nat) (x : Branch), r[i]? = some x → x.parent ∈ seen ∨ ∃ j y, j < i ∧ r[j]? = some y ∧ y.id = x.parent
  | _, [], _, i, x, hi => by simp at hi
  | seen, y :: r, ⟨h1, h2⟩, 0, x, hi => by
    have e : y = x := by simpa using hi
    rw [← e]; exact .inl h1
  | seen, y :: r, ⟨h1, h2⟩, i + 1, x, hi => by
    have hi' : r[i]? = some x := by simpa using hi
    rcases up_at h2 i x hi' with q | ⟨j, z, hj, hz, ez⟩
    · rcases List.mem_cons.mp q with w | w
      · exact .inr ⟨0, y, Nat.zero_lt_succ _, by simp, w.symm⟩
      · exact .inl w
    · exact .inr ⟨j + 1, z, by omega, by simpa using hz, ez⟩
theorem rank_parent {h : House} (g : Good h) {b : Nat} (hb : h.has b = true) (h0 : b ≠ 0) : rank h (h.parent b) < rank h b := by
  obtain ⟨x, hx, e⟩ := has_ex hb
  obtain ⟨i, hi, ei⟩ := List.getElem_of_mem hx
  have hi' : h.branches[i]? = some x := by rw [List.getElem?_eq_getElem hi, ei]
  rw [← e, parent_of g.ids hx, rank_at g hi']
  obtain ⟨s, r, eb, u⟩ := g.zero
  cases i with
  | zero =>
    rw [eb] at hi'
    have : (⟨0, 0, s⟩ : Branch) = x := by simpa using hi'
    rw [← this] at e
    exact absurd e.symm h0
  | succ i =>
    rw [eb] at hi'
    have hr : r[i]? = some x := by simpa using hi'
    rcases up_at u i x hr with q | ⟨j, y, hj, hy, ey⟩
    · rw [List.mem_singleton.mp q]
      have hz : h.branches[0]? = some (⟨0, 0, s⟩ : Branch) := by rw [eb]; rfl
      have := rank_at g hz
      have e2 : rank h 0 = 0 := this
      omega
    · have hy' : h.branches[j + 1]? = some y := by rw [eb]; simpa using hy
      have := rank_at g hy'
      rw [ey] at this
      omega
theorem has_par {h : House} (g : Good h) {b : Nat} (hb : h.has b = true) : h.has (h.parent b) = true := by
  obtain ⟨x, hx, e⟩ := has_ex hb
  rw [← e, parent_of g.ids hx]
  exact has_parent g hx
theorem lineOf_enough {h : House} (g : Good h) : ∀ (n b : Nat), h.has b = true → rank h b ≤ n → h.lineOf n b = h.lineOf (n + 1) b
  | 0, b, hb, hr => by
    by_cases e : b = 0
    · rw [e]; rfl
    · have := rank_parent g hb e
      omega
  | n + 1, b, hb, hr => by
    by_cases e : b = 0
    · rw [e]; rfl
    · rw [House.lineOf, if_neg e, House.lineOf, if_neg e]
      have h1 := rank_parent g hb e
      rw [lineOf_enough g n (h.parent b) (has_par g hb) (by omega)]
theorem line_zero {h : House} (g : Good h) : h.line 0 = [0] := by
  unfold House.line
  obtain ⟨s, r, eb, _⟩ := g.zero
  rw [eb]
  rfl
theorem line_step {h : House} (g : Good h) {b : Nat} (hb : h.has b = true) (h0 : b ≠ 0) : h.line b = b :: h.line (h.parent b) := by
  unfold House.line
  have hl := rank_lt hb
  have hp := rank_parent g hb h0
  cases hn : h.branches.length with
  | zero => omega
  | succ n =>
    show h.lineOf (n + 1) b = b :: h.lineOf (n + 1) (h.parent b)
    rw [show h.lineOf (n + 1) b = b :: h.lineOf n (h.parent b) by rw [House.lineOf, if_neg h0]]
    rw [lineOf_enough g n (h.parent b) (has_par g hb) (by omega)]
theorem find_here {h : House} (g : Good h) {b : Nat} {k : List Nat} {ps : List (List Nat)} {x : Nat × Entry} (hb : h.has b = true) (q : h.findOn b k ps = some x) : h.find b k ps = some x := by
  unfold House.find
  by_cases e : b = 0
  · rw [e] at q ⊢
    rw [line_zero g]
    rw [List.findSome?_cons]
    rw [q]
  · rw [line_step g hb e]
    rw [List.findSome?_cons]
    rw [q]
theorem find_up {h : House} (g : Good h) {b : Nat} {k : List Nat} {ps : List (List Nat)} (hb : h.has b = true) (h0 : b ≠ 0) (q : h.findOn b k ps = none) : h.find b k ps = h.find (h.parent b) k ps := by
  unfold House.find
  rw [line_step g hb h0]
  rw [List.findSome?_cons]
  rw [q]
theorem find_end {h : House} (g : Good h) {k : List Nat} {ps : List (List Nat)} (q : h.findOn 0 k ps = none) : h.find 0 k ps = none := by
  unfold House.find
  rw [line_zero g]
  rw [List.findSome?_cons]
  rw [q]
  rfl
end Bc

set_option linter.all false
namespace Bc
open Rp03 (House Branch Entry Call step)
abbrev cI (n : Nat) : Int := (n : Int)
/-- the ten forms of a call -/
inductive Shape : Int → List Int → List (List Int) → Call → Prop
  | begins (r n s : Nat) : Shape 0 [cI r, cI n, cI s] [] (.begins r n s)
  | opens (b p s : Nat) : Shape 1 [cI b, cI p, cI s] [] (.opens b p s)
  | closes (b : Nat) : Shape 2 [cI b] [] (.closes b)
  | share (b s : Nat) : Shape 3 [cI b, cI s] [] (.share b s)
  | save (b z c : Nat) (k : List Nat) (hk : k.length ≤ 30) : Shape 4 [cI b, cI z, cI c] [k.map cI] (.save b z c k)
  | find (b : Nat) (k : List Nat) (ps : List (List Nat)) (hk : k.length ≤ 30) (hn : ps.length ≤ 6) (hp : ∀ p ∈ ps, p.length ≤ 30) : Shape 5 [cI b] (k.map cI :: ps.map (List.map cI)) (.find b k ps)
  | would (b z : Nat) : Shape 6 [cI b, cI z] [] (.would b z)
  | pass (d : Nat) : Shape 7 [cI d] [] (.pass d)
  | list (b : Nat) : Shape 8 [cI b] [] (.list b)
  | state : Shape 9 [] [] .state
theorem whole_nat {z : Int} (h : Rp03Neutral.whole32 z = true) : z = cI z.toNat := by
  unfold Rp03Neutral.whole32 at h
  rw [Bool.and_eq_true] at h
  have := of_decide_eq_true h.1
  show z = (z.toNat : Int)
  omega
theorem bytes_nat {l : List Int} {m : Nat} (h : Rp03Neutral.bytes l m = true) : l = (Rp03Neutral.nats l).map cI ∧ (Rp03Neutral.nats l).length ≤ m := by
  unfold Rp03Neutral.bytes at h
  rw [Bool.and_eq_true] at h
  refine ⟨?_, by unfold Rp03Neutral.nats; rw [List.length_map]; exact of_decide_eq_true h.1⟩
  unfold Rp03Neutral.nats
  rw [List.map_map]
  have e : ∀ z ∈ l, (cI ∘ Int.toNat) z = z := fun z hz => by
    have := List.all_eq_true.mp h.2 z hz
    rw [Bool.and_eq_true] at this
    have := of_decide_eq_true this.1
    show ((z.toNat : Nat) : Int) = z
    omega
  rw [List.map_congr_left (g := id) e, List.map_id]
theorem shape_of {k : Int} {ns : List Int} {rows : List (List Int)} (h : Rp03Neutral.asked1 ((k :: ns) :: rows) = true) : ∃ call, Shape k ns rows call ∧ Rp03Neutral.callOf ((k :: ns) :: rows) = some call := by
  unfold Rp03Neutral.asked1 at h
  split at h
  case h_1 heq =>
    rename_i r n s
    obtain ⟨e1, rfl⟩ := List.cons.inj heq
    obtain ⟨rfl, rfl⟩ := List.cons.inj e1
    rw [Bool.and_eq_true, Bool.and_eq_true] at h
    refine ⟨_, ?_, rfl⟩
    have := Shape.begins r.toNat n.toNat s.toNat
    rw [← whole_nat h.1, ← whole_nat h.2.1, ← whole_nat h.2.2] at this
    exact this
  case h_2 heq =>
    rename_i r n s
    obtain ⟨e1, rfl⟩ := List.cons.inj heq
    obtain ⟨rfl, rfl⟩ := List.cons.inj e1
    rw [Bool.and_eq_true, Bool.and_eq_true] at h
    refine ⟨_, ?_, rfl⟩
    have := Shape.opens r.toNat n.toNat s.toNat
    rw [← whole_nat h.1, ← whole_nat h.2.1, ← whole_nat h.2.2] at this
    exact this
  case h_3 heq =>
    rename_i b
    obtain ⟨e1, rfl⟩ := List.cons.inj heq
    obtain ⟨rfl, rfl⟩ := List.cons.inj e1
    refine ⟨_, ?_, rfl⟩
    have := Shape.closes b.toNat
    rw [← whole_nat h] at this
    exact this
  case h_4 heq =>
    rename_i b s
    obtain ⟨e1, rfl⟩ := List.cons.inj heq
    obtain ⟨rfl, rfl⟩ := List.cons.inj e1
    rw [Bool.and_eq_true] at h
    refine ⟨_, ?_, rfl⟩
    have := Shape.share b.toNat s.toNat
    rw [← whole_nat h.1, ← whole_nat h.2] at this
    exact this
  case h_5 heq =>
    rename_i b z c kk
    obtain ⟨e1, rfl⟩ := List.cons.inj heq
    obtain ⟨rfl, rfl⟩ := List.cons.inj e1
    rw [Bool.and_eq_true, Bool.and_eq_true, Bool.and_eq_true] at h
    refine ⟨_, ?_, rfl⟩
    obtain ⟨b1, b2⟩ := bytes_nat h.2.2.2
    have := Shape.save b.toNat z.toNat c.toNat (Rp03Neutral.nats kk) b2
    rw [← whole_nat h.1, ← whole_nat h.2.1, ← whole_nat h.2.2.1, ← b1] at this
    exact this
  case h_6 heq =>
    rename_i b kk ps
    obtain ⟨e1, rfl⟩ := List.cons.inj heq
    obtain ⟨rfl, rfl⟩ := List.cons.inj e1
    rw [Bool.and_eq_true, Bool.and_eq_true, Bool.and_eq_true] at h
    refine ⟨_, ?_, rfl⟩
    obtain ⟨b1, b2⟩ := bytes_nat h.2.1
    have hp := List.all_eq_true.mp h.2.2.2
    have := Shape.find b.toNat (Rp03Neutral.nats kk) (ps.map Rp03Neutral.nats) b2 (by rw [List.length_map]; exact of_decide_eq_true h.2.2.1) (fun p hpm => by
      obtain ⟨q, hq, rfl⟩ := List.mem_map.mp hpm
      exact (bytes_nat (hp q hq)).2)
    rw [← whole_nat h.1, ← b1, List.map_map] at this
    have e : ∀ q ∈ ps, (List.map cI ∘ Rp03Neutral.nats) q = q := fun q hq => (bytes_nat (hp q hq)).1.symm
    rw [List.map_congr_left (g := id) e, List.map_id] at this
    exact this
  case h_7 heq =>
    rename_i b z
    obtain ⟨e1, rfl⟩ := List.cons.inj heq
    obtain ⟨rfl, rfl⟩ := List.cons.inj e1
    rw [Bool.and_eq_true] at h
    refine ⟨_, ?_, rfl⟩
    have := Shape.would b.toNat z.toNat
    rw [← whole_nat h.1, ← whole_nat h.2] at this
    exact this
  case h_8 heq =>
    rename_i b
    obtain ⟨e1, rfl⟩ := List.cons.inj heq
    obtain ⟨rfl, rfl⟩ := List.cons.inj e1
    refine ⟨_, ?_, rfl⟩
    have := Shape.pass b.toNat
    rw [← whole_nat h] at this
    exact this
  case h_9 heq =>
    rename_i b
    obtain ⟨e1, rfl⟩ := List.cons.inj heq
    obtain ⟨rfl, rfl⟩ := List.cons.inj e1
    refine ⟨_, ?_, rfl⟩
    have := Shape.list b.toNat
    rw [← whole_nat h] at this
    exact this
  case h_10 heq =>
    obtain ⟨e1, rfl⟩ := List.cons.inj heq
    obtain ⟨rfl, rfl⟩ := List.cons.inj e1
    exact ⟨_, .state, rfl⟩
  case h_11 => cases h
theorem step_of {h : House} {cl : List (List Int)} {call : Call} (e : Rp03Neutral.callOf cl = some call) : Rp03Neutral.step h cl = ((step h call).1, Rp03Neutral.out (step h call).2) := by
  unfold Rp03Neutral.step
  rw [e]
end Bc

set_option linter.all false
namespace Bc
open Rp03 (House Branch Entry Call step)
/-! ### what is found on one branch, by a list of entries -/
def amongBy {α : Type} (ep : List (α × Entry)) : Nat → List (List Nat) → Option (Nat × (α × Entry))
  | _, [] => none
  | n, p :: r => match (ep.filter fun x => Rp03.begins p x.2.key).getLast? with
    | some x => some (n, x)
    | none => amongBy ep (n + 1) r
def among {α : Type} (ep : List (α × Entry)) (k : List Nat) (ps : List (List Nat)) : Option (Nat × (α × Entry)) := match ep.find? fun x => x.2.key == k with
  | some x => some (0, x)
  | none => amongBy ep 1 ps
theorem find_at {α : Type} {p : α → Bool} : ∀ {l : List α} {i : Nat} {y : α}, l[i]? = some y → p y = true → (∀ x ∈ l.take i, p x = false) → l.find? p = some y
  | [], i, y, h, _, _ => by simp at h
  | a :: l, 0, y, h, hp, _ => by
    have e : a = y := by simpa using h
    rw [e, List.find?_cons_of_pos hp]
  | a :: l, i + 1, y, h, hp, hn => by
    have ha : p a = false := hn a (by rw [List.take_succ_cons]; exact List.mem_cons_self ..)
    rw [List.find?_cons_of_neg (by rw [ha]; exact Bool.false_ne_true)]
    exact find_at (by simpa using h) hp fun x hx => hn x (by rw [List.take_succ_cons]; exact List.mem_cons_of_mem _ hx)
theorem findSome_at {α β : Type} {f : α → Option β} : ∀ {l : List α} {i : Nat} {y : α} {z : β}, l[i]? = some y → f y = some z → (∀ x ∈ l.take i, f x = none) → l.findSome? f = some z
  | [], i, y, z, h, _, _ => by simp at h
  | a :: l, 0, y, z, h, hp, _ => by
    have e : a = y := by simpa using h
    rw [e, List.findSome?_cons, hp]
  | a :: l, i + 1, y, z, h, hp, hn => by
    have ha : f a = none := hn a (by rw [List.take_succ_cons]; exact List.mem_cons_self ..)
    rw [List.findSome?_cons, ha]
    exact findSome_at (l := l) (i := i) (by simpa using h) hp fun x hx => hn x (by rw [List.take_succ_cons]; exact List.mem_cons_of_mem _ hx)
theorem findSome_no {α β : Type} {f : α → Option β} : ∀ {l : List α}, (∀ x ∈ l, f x = none) → l.findSome? f = none
  | [], _ => rfl
  | a :: l, h => by
    rw [List.findSome?_cons, h a (List.mem_cons_self ..)]
    exact findSome_no fun x hx => h x (List.mem_cons_of_mem _ hx)
section
variable {α : Type} {ep : List (α × Entry)} {k : List Nat}
theorem among_key {i : Nat} {y : α × Entry} {ps : List (List Nat)} (h : ep[i]? = some y) (hk : y.2.key = k) (hn : ∀ x ∈ ep.take i, x.2.key ≠ k) : among ep k ps = some (0, y) := by
  unfold among
  rw [find_at (p := fun x : α × Entry => x.2.key == k) h (by simpa using hk) fun x hx => by simpa using hn x hx]
theorem among_no {ps : List (List Nat)} (hn : ∀ x ∈ ep, x.2.key ≠ k) : among ep k ps = amongBy ep 1 ps := by
  unfold among
  rw [List.find?_eq_none.mpr fun x hx => by simpa using hn x hx]
theorem amongBy_none : ∀ {ps : List (List Nat)} {n : Nat}, (∀ p ∈ ps, (ep.filter fun x => Rp03.begins p x.2.key) = []) → amongBy ep n ps = none
  | [], _, _ => rfl
  | p :: r, n, h => by
    unfold amongBy
    rw [h p (List.mem_cons_self ..)]
    exact amongBy_none fun q hq => h q (List.mem_cons_of_mem _ hq)
theorem amongBy_at {y : α × Entry} : ∀ {ps : List (List Nat)} {n i : Nat} {p : List Nat}, ps[i]? = some p → (∀ q ∈ ps.take i, (ep.filter fun x => Rp03.begins q x.2.key) = []) → (ep.filter fun x => Rp03.begins p x.2.key).getLast? = some y → amongBy ep n ps = some (n + i, y)
  | [], _, i, p, h, _, _ => by simp at h
  | q :: r, n, 0, p, h, _, hy => by
    have e : q = p := by simpa using h
    unfold amongBy
    rw [e, hy]
    rfl
  | q :: r, n, i + 1, p, h, hn, hy => by
    unfold amongBy
    rw [hn q (by rw [List.take_succ_cons]; exact List.mem_cons_self ..)]
    have := amongBy_at (n := n + 1) (i := i) (ps := r) (p := p) (by simpa using h) (fun x hx => hn x (by rw [List.take_succ_cons]; exact List.mem_cons_of_mem _ hx)) hy
    show amongBy ep (n + 1) r = _
    rw [this, show n + 1 + i = n + (i + 1) by omega]
theorem amongBy_mem {y : Nat × (α × Entry)} : ∀ {ps : List (List Nat)} {n : Nat}, amongBy ep n ps = some y → y.2 ∈ ep
  | [], _, h => by cases h
  | p :: r, n, h => by
    unfold amongBy at h
    cases e : (ep.filter fun x => Rp03.begins p x.2.key).getLast? with
    | none => rw [e] at h; exact amongBy_mem h
    | some x =>
      rw [e] at h
      obtain rfl := Option.some.inj h
      exact (List.mem_filter.mp (List.mem_of_getLast? e)).1
theorem among_mem {y : Nat × (α × Entry)} {ps : List (List Nat)} (h : among ep k ps = some y) : y.2 ∈ ep := by
  unfold among at h
  cases e : ep.find? fun x => x.2.key == k with
  | none => rw [e] at h; exact amongBy_mem h
  | some x =>
    rw [e] at h
    obtain rfl := Option.some.inj h
    exact List.mem_of_find?_eq_some e
theorem find_pair (b : Nat) : ∀ ep : List (α × Entry), ((ep.map (·.2)).find? fun e => e.branch == b && e.key == k) = ((ep.filter fun x => decide (x.2.branch = b)).find? fun x => x.2.key == k).map (·.2)
  | [] => rfl
  | x :: r => by
    rw [List.map_cons]
    by_cases e : x.2.branch = b
    · rw [List.filter_cons_of_pos (by simpa using e)]
      by_cases q : x.2.key = k
      · rw [List.find?_cons_of_pos (by simp [e, q]), List.find?_cons_of_pos (by simpa using q)]
        rfl
      · rw [List.find?_cons_of_neg (by simp [q]), List.find?_cons_of_neg (by simpa using q)]
        exact find_pair b r
    · rw [List.filter_cons_of_neg (by simpa using e), List.find?_cons_of_neg (by simp [e])]
      exact find_pair b r
theorem filter_pair (b : Nat) (p : List Nat) : ∀ ep : List (α × Entry), ((ep.map (·.2)).filter fun e => e.branch == b && Rp03.begins p e.key) = ((ep.filter fun x => decide (x.2.branch = b)).filter fun x => Rp03.begins p x.2.key).map (·.2)
  | [] => rfl
  | x :: r => by
    rw [List.map_cons]
    by_cases e : x.2.branch = b
    · rw [List.filter_cons_of_pos (p := fun x : α × Entry => decide (x.2.branch = b)) (by simpa using e)]
      by_cases q : Rp03.begins p x.2.key = true
      · rw [List.filter_cons_of_pos (by simp [e, q]), List.filter_cons_of_pos (by simpa using q), List.map_cons, filter_pair b p r]
      · rw [List.filter_cons_of_neg (by simp [q]), List.filter_cons_of_neg (by simpa using q)]
        exact filter_pair b p r
    · rw [List.filter_cons_of_neg (p := fun x : α × Entry => decide (x.2.branch = b)) (by simpa using e), List.filter_cons_of_neg (by simp [e])]
      exact filter_pair b p r
theorem last_map {β γ : Type} (f : β → γ) (l : List β) : (l.map f).getLast? = l.getLast?.map f := by
  rcases List.eq_nil_or_concat l with rfl | ⟨i, x, rfl⟩
  · rfl
  · simp
theorem findBy_among {h : House} (g : Good h) (ee : h.entries = ep.map (·.2)) (b : Nat) : ∀ (ps : List (List Nat)) (n : Nat), h.findBy b n ps = (amongBy (ep.filter fun x => decide (x.2.branch = b)) n ps).map fun y => (y.1, y.2.2)
  | [], _ => rfl
  | p :: r, n => by
    rw [House.findBy, amongBy, newest_last (pairwise_filter g.sav), ee, filter_pair, last_map]
    cases e : ((ep.filter fun x => decide (x.2.branch = b)).filter fun x => Rp03.begins p x.2.key).getLast? with
    | none => exact findBy_among g ee b r (n + 1)
    | some x => rfl
theorem on_among {h : House} (g : Good h) (ee : h.entries = ep.map (·.2)) (b : Nat) (ps : List (List Nat)) : h.findOn b k ps = (among (ep.filter fun x => decide (x.2.branch = b)) k ps).map fun y => (y.1, y.2.2) := by
  unfold House.findOn among
  rw [ee, find_pair]
  cases e : (ep.filter fun x => decide (x.2.branch = b)).find? fun x => x.2.key == k with
  | none => exact findBy_among g ee b ps 1
  | some x => rfl
end
theorem lineOf_len {h : House} : ∀ (n b : Nat), (h.lineOf n b).length ≤ n + 1 ∧ 0 < (h.lineOf n b).length
  | 0, b => by unfold House.lineOf; exact ⟨Nat.le_refl _, Nat.one_pos⟩
  | n + 1, b => by
    unfold House.lineOf
    split
    · exact ⟨by simp, by simp⟩
    · rw [List.length_cons]
      have := lineOf_len (h := h) n (h.parent b)
      omega
theorem line_len {h : House} (g : Good h) (b : Nat) : (h.line b).length ≤ 9 ∧ 0 < (h.line b).length := by
  unfold House.line
  have := lineOf_len (h := h) h.branches.length b
  have := g.nb
  omega
theorem line_has {h : House} (g : Good h) : ∀ (m b : Nat), rank h b ≤ m → h.has b = true → ∀ x ∈ h.line b, h.has x = true
  | m, b, hm, hb, x, hx => by
    by_cases e : b = 0
    · rw [e, line_zero g] at hx
      rw [List.mem_singleton.mp hx]
      exact has_zero g
    · rw [line_step g hb e] at hx
      rcases List.mem_cons.mp hx with q | q
      · rw [q]; exact hb
      · have hr := rank_parent g hb e
        cases m with
        | zero => omega
        | succ m => exact line_has g m (h.parent b) (by omega) (has_par g hb) x q
theorem begins_take (b k : List Nat) : (k.take b.length == b) = Rp03.begins b k := by
  unfold Rp03.begins
  rw [Bool.eq_iff_iff, beq_iff_eq, List.isPrefixOf_iff_prefix, List.prefix_iff_eq_take]
  exact eq_comm
/-- one address, one entry -/
theorem pair_ne {α : Type} {ep : List (α × Entry)} {es : List Entry} (ee : es = ep.map (·.2)) (pw : es.Pairwise fun a b => a.used ≠ b.used) {x y : α × Entry} (hx : x ∈ ep) (hy : y ∈ ep) (e : x.2.used = y.2.used) : x = y := by
  rw [ee, List.pairwise_map] at pw
  exact pairwise_ne (f := fun z : α × Entry => z.2.used) pw hx hy e
end Bc

set_option Elab.async false
set_option linter.all false
set_option maxRecDepth 100000
set_option maxHeartbeats 4000000
/-! min(xs, key=lambda x: ..) over a list of objects -/
namespace BcK
open PySem PySem.Spec PyProof.Rows L2 LamX NdefX
/-- a lambda made, by its words -/
abbrev lamFun (q : Str) (ag : Arguments) (bd : Expr) (sc : Scope) (cl : List (Str × Addr)) (c : Addr) (pm ct : Value) : Obj := PySem.W.kla_obj "<lambda>" q ag bd sc cl pm c ct
def LamO (f : Addr) (q : Str) (ag : Arguments) (bd : Expr) (sc : Scope) (cl : List (Str × Addr)) (c : Addr) : HO := .ext fun hp => ∃ (pm ct : Value), hp.get? f = some (lamFun q ag bd sc cl c pm ct)
section
variable {X : Cx} {pins : List (Addr × Obj)} {σ : L2.St} {H : Hp} {s : Shared}
theorem lam_laid {q : Str} {ag : Arguments} {bd : Expr} {sc : Scope} {cl : List (Str × Addr)} {c : Addr} {pm ct : Value} {tk : Nat} (J : Inv X pins σ H s) :
    Inv X pins σ (upd H s.heap.objs.size (LamO s.heap.objs.size q ag bd sc cl c)) { s with heap := s.heap.push (lamFun q ag bd sc cl c pm ct), toks := tk } := by
  have e0 : (s.heap.push (lamFun q ag bd sc cl c pm ct)).get? s.heap.objs.size = some (lamFun q ag bd sc cl c pm ct) := Heap.get?_push_size _ rfl
  exact J.laid (a := s.heap.objs.size) (fun _ _ z => Heap.get?_push_of_some _ z) (Nat.le_refl _) ⟨⟨pm, ct, e0⟩, ⟨_, e0⟩, fun _ _ ⟨p1, c1, z⟩ st => ⟨p1, c1, st _ z⟩⟩
/-- the reading of a lambda: a new function object, known from now on; the maker's table may have grown -/
def tLamV (T : List (Addr × Str)) (q : Str) (ag : Arguments) (bd : Expr) (sc : Scope) : TE := fun _ H Q => Tabs T H ∧ ∀ (f c : Addr) (H1 : Hp), ExtN H H1 → (∀ b, H1 b = none → H b = none) → Tabs T H1 → H f = none → H1 f = some (LamO f q ag bd sc [] c) → H1 c = some (CodeO c q) → Q (.ref f) H1
theorem pe_lam {T : List (Addr × Str)} {c P : Addr} {ag : Arguments} {bd : Expr} {sc : Scope} {pos : Pos} (TB : TabB X.base X.mg c P) (hcd : X.env.code = .ref c) (hin : (P, X.env.qual ++ "<lambda>") ∈ T)
    (hone : ∀ p ∈ T, p.1 = P → p.2 = X.env.qual ++ "<lambda>") (hdf : defaultsOf ag X.env = ([], [])) (hnf : ∀ y ∈ sc.names, y.2 ≠ .free) (hcl : cloFrom X.env.cells sc.names [] = []) :
    PE X (.Lambda ag bd sc pos) (tLamV T (X.env.qual ++ "<lambda>") ag bd sc) := by
  refine ⟨fun pins s σ H Q J hh => ?_⟩
  obtain ⟨hT, go⟩ := hh
  obtain ⟨ps, hP, okT, inT⟩ := hT _ hin
  have fr : ∀ y ∈ sc.names, y.2 = .free → ∃ c, X.env.cells.lookup y.1 = some c := fun y hy z => absurd z (hnf y hy)
  have bP : s.heap.BuiltinsAt X.mg P := TB.bm.keeps J.bk
  have oP : s.heap.get? P = some { cls := .none, data := .fields ps } := J.hok P _ hP
  refine PySem.W.kla_eval hdf ?_
  cases hc : codeAmong pos ps.toList with
  | none =>
    refine PySem.W.kla_makeFunction (mg := X.mg) (c := c) (P := P) (ps := ps) (closure_ok fr) J.ok.glob (J.mod.glob.keeps J.bk) hcd (TB.code.keeps J.bk) oP okT hc TB.gP bP fun c1 ct h1 tk hold hge hlt hrec htab => ?_
    rw [hcl]
    obtain ⟨c2, oc, vs, t0, e2, hoc, hdc, hvc⟩ := hrec
    cases e2
    have nC : H c1 = none := J.hok.fresh hge
    have J1 := inv_table (t' := tk) (more := #[rawInt pos.line, rawInt pos.col, .ref c1]) (h' := h1) J hP hold htab hge ⟨oc, vs, t0, hoc, hdc, hvc⟩
    have ext1 : ExtN H (upd (upd H P (.tbl (ps ++ #[rawInt pos.line, rawInt pos.col, .ref c1]))) c1 (CodeO c1 (X.env.qual ++ "<lambda>"))) := fun b o z nt => by
      rw [upd_ne (ne_of_none z nC), upd_ne (fun w => nt ps (Option.some.inj (z.symm.trans (by rw [w]; exact hP))))]
      exact z
    have eL : (ps ++ #[rawInt pos.line, rawInt pos.col, .ref c1]).toList = ps.toList ++ [rawInt pos.line, rawInt pos.col, .ref c1] := by simp
    have T1 : Tabs T (upd (upd H P (.tbl (ps ++ #[rawInt pos.line, rawInt pos.col, .ref c1]))) c1 (CodeO c1 (X.env.qual ++ "<lambda>"))) := fun p hp => by
      by_cases w : p.1 = P
      · rw [hone p hp w, w]
        refine ⟨_, by rw [upd_ne (ne_of_none hP nC), upd_same], by rw [eL]; exact PySem.TriplesOk_snoc _ _ _ _ okT, fun p1 cv hv => ?_⟩
        rw [eL] at hv
        rcases among_app _ okT hv with z | z
        · obtain ⟨c0, z1, z2⟩ := inT p1 cv z
          exact ⟨c0, z1, ext1 _ _ z2 codeO_ne⟩
        · exact ⟨c1, z, upd_same⟩
      · obtain ⟨ps1, a1, a2, a3⟩ := hT p hp
        refine ⟨ps1, by rw [upd_ne (ne_of_none a1 nC), upd_ne w]; exact a1, a2, fun p1 cv hv => ?_⟩
        obtain ⟨c0, z1, z2⟩ := a3 p1 cv hv
        exact ⟨c0, z1, ext1 _ _ z2 codeO_ne⟩
    have nF := J1.hok.fresh (Nat.le_refl _)
    have J2 := lam_laid (q := X.env.qual ++ "<lambda>") (ag := ag) (bd := bd) (sc := sc) (cl := []) (c := c1) (pm := (X.mg "__name__").getD .none) (ct := ct) (tk := tk) J1
    refine ⟨.ref h1.objs.size, _, J2, rfl, go h1.objs.size c1 _ (fun b o z nt => ?_) (fun b z => upd_none (upd_none (upd_none z))) (T1.ext fun b o z => (upd_ne (ne_of_none z nF)).trans z) (J.hok.fresh (Nat.le_trans hge (Nat.le_of_lt hlt))) upd_same ((upd_ne (Nat.ne_of_lt hlt)).trans upd_same)⟩
    have z1 := ext1 b o z nt
    exact (upd_ne (ne_of_none z1 nF)).trans z1
  | some cv =>
    obtain ⟨c1, e, hco⟩ := inT pos cv hc
    subst e
    refine PySem.W.kla_makeFunctionHit (mg := X.mg) (c := c) (P := P) (ps := ps) (closure_ok fr) J.ok.glob (J.mod.glob.keeps J.bk) hcd (TB.code.keeps J.bk) oP okT hc bP fun ct h1 tk hold hsz => ?_
    rw [hcl]
    have J1 : Inv X pins σ H { s with heap := h1, toks := tk } := J.kept hold
    have nF : H h1.objs.size = none := J1.hok.fresh (Nat.le_refl _)
    have J2 := lam_laid (q := X.env.qual ++ "<lambda>") (ag := ag) (bd := bd) (sc := sc) (cl := []) (c := c1) (pm := (X.mg "__name__").getD .none) (ct := ct) (tk := tk) J1
    exact ⟨.ref h1.objs.size, _, J2, rfl, go h1.objs.size c1 _ (fun b o z _ => (upd_ne (ne_of_none z nF)).trans z) (fun b z => upd_none z) (hT.ext fun b o z => (upd_ne (ne_of_none z nF)).trans z) nF upd_same ((upd_ne (ne_of_none hco nF)).trans hco)⟩
end

/-! ### the call of the lambda -/
section
variable {X : Cx} {pins : List (Addr × Obj)} {σ : L2.St} {H : Hp} {s : Shared}
abbrev lamNF (q : Str) (ag : Arguments) (sc : Scope) (c : Addr) : NF := ⟨"<lambda>", q, ag, [], sc, [], c⟩
theorem lam_call {f c : Addr} {q x : Str} {ag : Arguments} {bd : Expr} {sc : Scope} {tb : TE} {k : Nat} (J : Inv X pins σ H s) (hr : Room (k + 2) X.A) (hf : H f = some (LamO f q ag bd sc [] c)) (hc : H c = some (CodeO c q)) (S : NScope [x] [x] [] sc)
    (hbind : ∀ (pm ct u : Value), bindArgs (PySem.W.kla_fn "<lambda>" q ag bd sc [] pm (.ref c) ct) ⟨[u], []⟩ = pure [(x, u)])
    (hbody : ∀ (A : Around) (outer : List Env) (s : Shared) (H : Hp), Room k (A.deeper (envF (lamNF q ag sc c) f s.heap.objs.size)) → PE (ncx L2.CX0 X.prog X.w X.K X.mg X.base [x] (lamNF q ag sc c) f A outer s H (fun _ _ _ => False)) bd tb)
    {v : V} {u : Value} (rv : L2.RelV v u) {Q : VK} (hq : tb [some v] H Q) : wpAny (model X.prog X.w) X.A.in1 (call (.ref f) [u]) (EP X pins σ Q) (fun _ _ => False) s := by
  obtain ⟨⟨pm, ct, of⟩, _, _⟩ := J.hok f _ hf
  have e0 : Env0 X.prog X.w X.K X.mg X.base X.A.in1 X.stack s H := J.env0.in1
  have hr1 : Room (k + 1) X.A.in1 := hr.in1
  have rc : codeAny (model X.prog X.w) X.A.in1 (.call (.ref f) ⟨[u], []⟩) (CR L2.CX0 X.stack X.prog X.w H s Q (fun _ _ _ => False)) s := by
    refine PySem.W.kla_callFunE hr1.depth of rfl S.co S.gen rfl (codeO_at J.hok hc) ?_
    rw [hbind pm ct u]
    refine wpAny_pure (wpAny_newFunctionEnv S.nocell (fun y hy => ?_) (fun h1 hns hsb => ⟨J.nolimit.fresh _ hsb, ?_⟩) S.kind)
    · rw [List.mem_singleton.mp hy]
      exact S.par x (List.mem_singleton.mpr rfl)
    show codeAny _ _ (.expr bd (envF (lamNF q ag sc c) f s.heap.objs.size)) _ _
    have kp : ∀ b o, s.heap.get? b = some o → h1.get? b = some o := fun b o z => hsb.extBut b o (Nat.ne_of_lt (Heap.lt_size z)) (Heap.get?_push_of_some _ z)
    have C0 : CellsAt (lamNF q ag sc c).cl [] [] s.heap H := ⟨rfl, fun _ _ z => (by cases z), fun _ _ _ z => (by cases z), fun i y z => (by simp at z)⟩
    have J1 : Inv (ncx L2.CX0 X.prog X.w X.K X.mg X.base [x] (lamNF q ag sc c) f X.A.in1 X.stack s H (fun _ _ _ => False)) [] (startF [x] [v] []) H { s with heap := h1, toks := s.toks + [(x, u)].length } :=
      inv_startN (ps := [x]) (fr := []) (us := [u]) S hr1.hd e0 rfl (.cons rv .nil) C0 hns kp
    refine PySem.W.kla_codeExpr (wpAny_mono ((hbody _ _ s H (hr1.deeper _)).run [] _ _ H Q J1 hq) (fun w s1 hw => ?_) fun e s1 hw => hw)
    obtain ⟨w1, H1, J2, rw1, q1⟩ := hw
    exact ⟨w1, H1, J2.os, J2.bare, J2.base, J2.hok, rw1, q1⟩
  refine wpAny_call (codeAny_mono rc fun r s1 hw => ?_)
  cases r with
  | error e => exact hw
  | ok fl => cases fl with
    | ret w => exact J.after hw
    | next => exact hw.elim
    | brk => exact hw.elim
    | cont => exact hw.elim
theorem vals_of_refs : ∀ {as : List Addr} {us : List Value}, Vals (as.map V.ref) us → us = as.map Value.ref
  | [], _, h => by cases h; rfl
  | a :: as, _, h => by
    cases h with
    | cons h1 h2 =>
      have z := vals_of_refs h2
      rw [z]
      have z1 := h1
      cases z1
      rfl
theorem list_refs {l : Addr} {as : List Addr} (J : Inv X pins σ H s) (hs : SqL X.K H l (as.map V.ref)) : s.heap.IsList l (as.map Value.ref).toArray ∧ l < s.heap.objs.size := by
  obtain ⟨its, rv, hl, _⟩ := J.list hs
  rw [← vals_of_refs rv]
  exact ⟨hl.isList, hl.lt⟩
/-- an untracked list of ours is written -/
theorem inv_note {S : Addr} {h1 : Heap} (J : Inv X pins σ H s) (fS : FpOk X pins H S) (k : ∀ b o, b ≠ S → s.heap.get? b = some o → h1.get? b = some o) (tk : Nat) : Inv X pins σ H { s with heap := h1, toks := tk } :=
  J.turned k fS.1 fS.2.1 fS.2.2.2.1 fS.2.2.2.2.1 fS.2.2.2.2.2
/-- two of ours are pinned -/
theorem inv_pin2 {S I : Addr} {oS oI : Obj} (J : Inv X pins σ H s) (fS : FpOk X pins H S) (fI : FpOk X pins H I) (hS : s.heap.get? S = some oS) (hI : s.heap.get? I = some oI) (dS : ∀ v, oS.data ≠ .cell v) (dI : ∀ v, oI.data ≠ .cell v) : Inv X (pins ++ [(S, oS), (I, oI)]) σ H s :=
  J.pins_of fun p hp => by
    rcases List.mem_append.mp hp with z | z
    · exact J.pin p (List.mem_append_right _ z)
    · rcases List.mem_cons.mp z with z | z
      · rw [z]; exact ⟨hS, fS.1, fS.2.1, fS.2.2.1, dS⟩
      · rw [List.mem_singleton.mp z]; exact ⟨hI, fI.1, fI.2.1, fI.2.2.1, dI⟩
theorem inv_back2 {S I : Addr} {oS oI : Obj} (J : Inv X (pins ++ [(S, oS), (I, oI)]) σ H s) : Inv X pins σ H s ∧ s.heap.get? S = some oS ∧ s.heap.get? I = some oI :=
  ⟨J.unpinned, (J.pin (S, oS) (List.mem_append_right _ (List.mem_append_right _ (.head _)))).1, (J.pin (I, oI) (List.mem_append_right _ (List.mem_append_right _ (.tail _ (.head _))))).1⟩
end

/-! ### min by a key -/
section
variable {X : Cx} {pins : List (Addr × Obj)} {σ : L2.St} {H : Hp}
/-- i is the first of the least -/
def Least (kf : Nat → Int) (n i : Nat) : Prop := ∀ j, j < n → kf i ≤ kf j ∧ (j < i → kf i < kf j)
theorem min_loop {as : List Addr} {l f I S : Addr} {R : Result → Shared → Prop} (kf : Nat → Int) (hh : X.A.handled = none) (hs : SqL X.K H l (as.map V.ref)) (fS : FpOk X pins H S) (fI : FpOk X pins H I) (hSI : S ≠ I) (hlI : l ≠ I)
    (turn : ∀ (i : Nat) (a : Addr), as[i]? = some a → ∀ (pn : List (Addr × Obj)) (s1 : Shared), Inv X pn σ H s1 → wpAny (model X.prog X.w) X.A.in1 (call (.ref f) [.ref a]) (fun v s2 => ∃ t, v = .int (kf i) t ∧ Inv X pn σ H s2) (fun _ _ => False) s1)
    (hR : ∀ i a s1, as[i]? = some a → Least kf as.length i → Inv X pins σ H s1 → R (.ok (.ret (.ref a))) s1) :
    ∀ (r j i : Nat) (s : Shared) (a : Addr) (tb : Tok) (c : Nat), as.length - (j + 1) = r → j + 1 ≤ as.length → Inv X pins σ H s → s.heap.get? S = some (seqObj "list" #[.ref a, .int (kf i) tb] c) → s.heap.IsListIter I l (j + 1) →
      as[i]? = some a → i ≤ j → Least kf (j + 1) i → codeAny (model X.prog X.w) X.A (.builtin "min.loop" ⟨[.ref I, .ref f, .ref S], []⟩) R s := by
  have hname : (toString "min" ++ toString ".loop" : String) = "min.loop" := by decide
  have W := Walks.list (prog := X.prog) (w := X.w) (A := X.A.in1) hh I l hlI (as.map Value.ref).toArray
  have hsz : (as.map Value.ref).toArray.size = as.length := by rw [List.size_toArray, List.length_map]
  have hseq : ∀ (xs : Array Value) (n : Nat) (v : Option Value), (seqObj "list" xs n).data ≠ .cell v := fun _ _ _ z => by cases z
  intro r
  induction r with
  | zero =>
    intro j i s a tb c hr hj J oS hit ha hij best
    have hend : j + 1 = as.length := by omega
    refine codeAny_builtin PySem.F.entry_min_loop ?_
    rw [Around.under_plainId PySem.F.plain_min_loop _]
    show wpAny _ X.A.in1 (seqItems? (.ref S) >>= _) _ _ _
    refine wpAny_bind (wpAny_seqItems oS rfl ?_)
    show wpAny _ X.A.in1 (tryCatch (pyNext (.ref I)) _ >>= _) _ _ _
    refine wpAny_bind (wpAny_tryCatch (W.done _ _ _ ⟨by rw [hsz, ← hend]; exact hit, (list_refs J hs).1⟩ fun h1 tk1 hk => ?_))
    have J1 : Inv X pins σ H { s with heap := h1, toks := tk1 } := inv_note J fI (fun b o hb z => hk b o (by simpa using hb) z) tk1
    have oS1 : h1.get? S = some (seqObj "list" #[.ref a, .int (kf i) tb] c) := hk S _ (by simpa using hSI) oS
    show wpAny _ X.A.in1 (updateSeq S (fun _ => #[]) >>= _) _ _ _
    refine wpAny_bind ?_
    have sb := Heap.SameBut.update h1 S (Obj.mapSeq fun _ => (#[] : Array Value))
    refine wpAny_updateSeq oS1 rfl (wpAny_bind (wpAny_letGo (wpAny_pure ?_)))
    exact hR i a _ ha (by rw [← hend]; exact best) (inv_note J1 fS (fun b o hb z => (sb.2 b hb).trans z) _)
  | succ r ih =>
    intro j i s a tb c hr hj J oS hit ha hij best
    have hlt : j + 1 < as.length := by omega
    refine codeAny_builtin PySem.F.entry_min_loop ?_
    rw [Around.under_plainId PySem.F.plain_min_loop _]
    show wpAny _ X.A.in1 (seqItems? (.ref S) >>= _) _ _ _
    refine wpAny_bind (wpAny_seqItems oS rfl ?_)
    show wpAny _ X.A.in1 (tryCatch (pyNext (.ref I)) _ >>= _) _ _ _
    refine wpAny_bind (wpAny_tryCatch (W.item (j + 1) _ _ _ (by rw [hsz]; exact hlt) ⟨hit, (list_refs J hs).1⟩ fun v h1 tk1 hP st1 hk => ?_))
    obtain ⟨a1, ha1, rfl⟩ : ∃ a1, as[j + 1]? = some a1 ∧ v = Value.ref a1 := by
      have z : (as.map Value.ref)[j + 1]? = some v := by simpa using hP
      rw [List.getElem?_map] at z
      cases z1 : as[j + 1]? with
      | none => rw [z1] at z; cases z
      | some a1 => rw [z1] at z; exact ⟨a1, rfl, (Option.some.inj z).symm⟩
    have J1 : Inv X pins σ H { s with heap := h1, toks := tk1 } := inv_note J fI (fun b o hb z => hk b o (by simpa using hb) z) tk1
    have oS1 : h1.get? S = some (seqObj "list" #[.ref a, .int (kf i) tb] c) := hk S _ (by simpa using hSI) oS
    obtain ⟨oI, hoI, cI, dI⟩ := id st1.1
    have J2 := inv_pin2 J1 fS fI oS1 hoI (hseq _ _) (fun w z => by rw [dI] at z; cases z)
    show wpAny _ X.A.in1 (tryCatch (holding [.ref a1] (call (.ref f) [.ref a1])) _ >>= _) _ _ _
    refine wpAny_bind (wpAny_tryCatch (wpAny_holding (wpAny_mono (turn (j + 1) a1 ha1 _ _ J2) (fun x s2 hx => ?_) fun _ _ z => z.elim)))
    obtain ⟨t2, rfl, J3⟩ := hx
    obtain ⟨J4, oS2, oI2⟩ := inv_back2 J3
    have hit2 : s2.heap.IsListIter I l (j + 1 + 1) := ⟨oI, oI2, cI, dI⟩
    show wpAny _ X.A.in1 (tryCatch (holding [.ref a1, .int (kf (j + 1)) t2] (richCompare .Lt (.int (kf (j + 1)) t2) (.int (kf i) tb) >>= _)) _ >>= _) _ _ _
    refine wpAny_bind (wpAny_tryCatch (wpAny_holding (wpAny_bind (CmpOf.ints_lt (prog := X.prog) (w := X.w) (A := X.A.in1) (P := fun i v => ∃ t, v = .int (kf i) t) kf (fun i v h => h) (j + 1) i _ _ _ _ _ ⟨t2, rfl⟩ ⟨tb, rfl⟩ ?_))))
    refine wpAny_bind (wpAny_holding (wpAny_truthy_bool ?_))
    refine wpAny_bind (wpAny_letGo (wpAny_pure ?_))
    by_cases lt : kf (j + 1) < kf i
    · have sb := Heap.SameBut.update s2.heap S (Obj.mapSeq fun _ => #[.ref a1, .int (kf (j + 1)) t2])
      obtain ⟨c2, hc2⟩ : ∃ c2, (s2.heap.update S (Obj.mapSeq fun _ => #[.ref a1, .int (kf (j + 1)) t2])).get? S = some (seqObj "list" #[.ref a1, .int (kf (j + 1)) t2] c2) := ⟨_, get?_update_seq oS2 fun _ => #[.ref a1, .int (kf (j + 1)) t2]⟩
      simp only [lt, decide_true, if_true]
      refine wpAny_bind ?_
      refine wpAny_updateSeq oS2 rfl (wpAny_bind (wpAny_letGo ?_))
      rw [hname]
      refine wpAny_pure ⟨plainId_quiet PySem.F.plain_min_loop _, ih (j + 1) (j + 1) _ a1 t2 c2 (by omega) hlt (inv_note J4 fS (fun b o hb z => (sb.2 b hb).trans z) _) hc2 ⟨oI, (sb.2 I hSI.symm).trans oI2, cI, dI⟩ ha1 (Nat.le_refl _) fun j' hj' => ?_⟩
      by_cases e : j' = j + 1
      · subst e
        exact ⟨by omega, fun _ => by omega⟩
      · have b1 := best j' (by omega)
        have b2 := b1.1
        exact ⟨by omega, fun _ => by omega⟩
    · simp only [lt, decide_false, Bool.false_eq_true, if_false]
      refine wpAny_bind (wpAny_letGo ?_)
      rw [hname]
      refine wpAny_pure ⟨plainId_quiet PySem.F.plain_min_loop _, ih (j + 1) i _ a tb c (by omega) hlt J4 oS2 hit2 ha (by omega) fun j' hj' => ?_⟩
      by_cases e : j' = j + 1
      · subst e
        exact ⟨by omega, fun _ => by omega⟩
      · exact best j' (by omega)
theorem min_by {as : List Addr} {l f : Addr} {s : Shared} {Q : VK} {E : Value → Shared → Prop} (kf : Nat → Int) (hh : X.A.handled = none) (J : Inv X pins σ H s) (hs : SqL X.K H l (as.map V.ref)) (hne : 0 < as.length)
    (turn : ∀ (i : Nat) (a : Addr), as[i]? = some a → ∀ (pn : List (Addr × Obj)) (s1 : Shared), Inv X pn σ H s1 → wpAny (model X.prog X.w) X.A.in1 (call (.ref f) [.ref a]) (fun v s2 => ∃ t, v = .int (kf i) t ∧ Inv X pn σ H s2) (fun _ _ => False) s1)
    (hQ : ∀ i a, as[i]? = some a → Least kf as.length i → Q (.ref a) H) : wpAny (model X.prog X.w) X.A (call (.builtin "min") [.ref l] [(Str.ofString "key", .ref f)]) (EP X pins σ Q) E s := by
  have hname : (toString "min" ++ toString ".loop" : String) = "min.loop" := by decide
  obtain ⟨hL, hlt⟩ := list_refs J hs
  refine kmk_tree PySem.F.kind_min PySem.F.plain_min PySem.F.entry_min (kmk_min_key _ _) ?_
  show wpAny _ X.A.in1 (Builtin.Builtins.bindParams "min" ["key", "default"] 0 ⟨[], [(Str.ofString "key", .ref f)]⟩ >>= _) _ _ s
  refine wpAny_bind (wpAny_of_eq (show Builtin.Builtins.bindParams "min" ["key", "default"] 0 ⟨[], [(Str.ofString "key", .ref f)]⟩ = pure [some (.ref f), none] from rfl) ?_)
  refine wpAny_bind (wpAny_pure (?_))
  refine wpAny_bind (wpAny_pyIter_list hL ?_)
  refine wpAny_bind (wpAny_newList ?_ (Nat.zero_le _))
  rw [hname]
  generalize hI : s.heap.objs.size = I at *
  have hp1 : (s.heap.push { cls := .type "list_iterator", data := .fields #[.ref l, .int 0 0] }).objs.size = I + 1 := by rw [size_push', hI]
  generalize hh1 : s.heap.push { cls := .type "list_iterator", data := .fields #[.ref l, .int 0 0] } = h1 at *
  have g1 : h1.get? I = some { cls := .type "list_iterator", data := .fields #[.ref l, .int 0 0] } := by rw [← hh1, ← hI]; exact Heap.get?_push_size _ rfl
  have k1 : ∀ b o, s.heap.get? b = some o → h1.get? b = some o := fun b o z => by rw [← hh1]; exact Heap.get?_push_of_some _ z
  have g2 : (h1.push (seqObj "list" #[] 0)).get? h1.objs.size = some (seqObj "list" #[] 0) := Heap.get?_push_size _ rfl
  have k2 : ∀ b o, s.heap.get? b = some o → (h1.push (seqObj "list" #[] 0)).get? b = some o := fun b o z => Heap.get?_push_of_some _ (k1 b o z)
  have J1 : Inv X pins σ H { s with heap := h1.push (seqObj "list" #[] 0) } := J.kept (t' := s.toks) k2
  have nI : H I = none := J.hok.fresh (by rw [hI]; exact Nat.le_refl _)
  have nS : H h1.objs.size = none := J.hok.fresh (by rw [hI, hp1]; exact Nat.le_succ _)
  have fI : FpOk X pins H I := J.fpOk (by rw [hI]; exact Nat.le_refl _) nI
  have fS : FpOk X pins H h1.objs.size := J.fpOk (by rw [hI, hp1]; exact Nat.le_succ _) nS
  have hSI : h1.objs.size ≠ I := by rw [hp1]; exact Nat.succ_ne_self I
  have hlI : l ≠ I := Nat.ne_of_lt hlt
  refine wpAny_pure ⟨plainId_quiet PySem.F.plain_min_loop _, ?_⟩
  have W := Walks.list (prog := X.prog) (w := X.w) (A := X.A.in1) hh I l hlI (as.map Value.ref).toArray
  have hsz : (as.map Value.ref).toArray.size = as.length := by rw [List.size_toArray, List.length_map]
  have hseq : ∀ (xs : Array Value) (n : Nat) (v : Option Value), (seqObj "list" xs n).data ≠ .cell v := fun _ _ _ z => by cases z
  refine codeAny_builtin PySem.F.entry_min_loop ?_
  rw [Around.under_plainId PySem.F.plain_min_loop _]
  show wpAny _ X.A.in1 (seqItems? (.ref _) >>= _) _ _ _
  refine wpAny_bind (wpAny_seqItems g2 rfl ?_)
  show wpAny _ X.A.in1 (tryCatch (pyNext (.ref I)) _ >>= _) _ _ _
  refine wpAny_bind (wpAny_tryCatch (W.item 0 _ _ _ (by rw [hsz]; exact hne) ⟨⟨_, Heap.get?_push_of_some _ g1, rfl, rfl⟩, (list_refs J1 hs).1⟩ fun v h2 tk1 hP st1 hk => ?_))
  obtain ⟨a1, ha1, rfl⟩ : ∃ a1, as[0]? = some a1 ∧ v = Value.ref a1 := by
    have z : (as.map Value.ref)[0]? = some v := by simpa using hP
    rw [List.getElem?_map] at z
    cases z1 : as[0]? with
    | none => rw [z1] at z; cases z
    | some a1 => rw [z1] at z; exact ⟨a1, rfl, (Option.some.inj z).symm⟩
  have J2 : Inv X pins σ H { s with heap := h2, toks := tk1 } := inv_note J1 fI (fun b o hb z => hk b o (by simpa using hb) z) tk1
  have oS1 : h2.get? h1.objs.size = some (seqObj "list" #[] 0) := hk _ _ (by simpa using hSI) g2
  obtain ⟨oI, hoI, cI, dI⟩ := id st1.1
  have J3 := inv_pin2 J2 fS fI oS1 hoI (hseq _ _) (fun w z => by rw [dI] at z; cases z)
  show wpAny _ X.A.in1 (tryCatch (holding [.ref a1] (call (.ref f) [.ref a1])) _ >>= _) _ _ _
  refine wpAny_bind (wpAny_tryCatch (wpAny_holding (wpAny_mono (turn 0 a1 ha1 _ _ J3) (fun x s2 hx => ?_) fun _ _ z => z.elim)))
  obtain ⟨t2, rfl, J4⟩ := hx
  obtain ⟨J5, oS2, oI2⟩ := inv_back2 J4
  have sb := Heap.SameBut.update s2.heap h1.objs.size (Obj.mapSeq fun _ => #[.ref a1, .int (kf 0) t2])
  obtain ⟨c2, hc2⟩ : ∃ c2, (s2.heap.update h1.objs.size (Obj.mapSeq fun _ => #[.ref a1, .int (kf 0) t2])).get? h1.objs.size = some (seqObj "list" #[.ref a1, .int (kf 0) t2] c2) := ⟨_, get?_update_seq oS2 fun _ => #[.ref a1, .int (kf 0) t2]⟩
  show wpAny _ X.A.in1 (updateSeq h1.objs.size (fun _ => #[.ref a1, .int (kf 0) t2]) >>= _) _ _ _
  refine wpAny_bind ?_
  refine wpAny_updateSeq oS2 rfl ?_
  rw [hname]
  refine wpAny_pure ⟨plainId_quiet PySem.F.plain_min_loop _, min_loop kf hh hs fS fI hSI hlI turn ?_ _ 0 0 _ a1 t2 c2 rfl hne (inv_note J5 fS (fun b o hb z => (sb.2 b hb).trans z) _) hc2 ⟨oI, (sb.2 I hSI.symm).trans oI2, cI, dI⟩ ha1 (Nat.le_refl _) fun j' hj' => ?_⟩
  · intro i a s3 h1 h2 J6
    exact ⟨.ref a, H, J6, rfl, hQ i a h1 h2⟩
  · have e : j' = 0 := by omega
    subst e
    exact ⟨by omega, fun z => absurd z (Nat.lt_irrefl _)⟩
/-- min(xs, key=lambda x: bd): what is asked of the values -/
def rMinBy (K : PySem.W.Frag) (tb : TE) (q : Str) (ag : Arguments) (bd : Expr) (sc : Scope) : List V → List V → Hp → VK → Prop := fun vs zs H Q => ∃ (l f c : Addr) (as : List Addr) (kf : Nat → Int), vs = [.ref l] ∧ zs = [.ref f] ∧ H f = some (LamO f q ag bd sc [] c) ∧ H c = some (CodeO c q) ∧
  SqL K H l (as.map V.ref) ∧ 0 < as.length ∧ (∀ i a, as[i]? = some a → tb [some (.ref a)] H (fun v H1 => v = .int (kf i) ∧ H1 = H)) ∧ ∀ i a, as[i]? = some a → Least kf as.length i → Q (.ref a) H
theorem cr_minBy {x q : Str} {ag : Arguments} {bd : Expr} {sc : Scope} {tb : TE} {k : Nat} (hc : X.calm = true) (hr : Room (k + 2) X.A) (S : NScope [x] [x] [] sc) (hbind : ∀ (c : Addr) (pm ct u : Value), bindArgs (PySem.W.kla_fn "<lambda>" q ag bd sc [] pm (.ref c) ct) ⟨[u], []⟩ = pure [(x, u)])
    (hbody : ∀ (f c : Addr) (A : Around) (outer : List Env) (s : Shared) (H : Hp), Room k (A.deeper (envF (lamNF q ag sc c) f s.heap.objs.size)) → PE (ncx L2.CX0 X.prog X.w X.K X.mg X.base [x] (lamNF q ag sc c) f A outer s H (fun _ _ _ => False)) bd tb) :
    CallRK X (.builtin "min") [Str.ofString "key"] (rMinBy X.K tb q ag bd sc) := by
  intro pins s σ H vs zs us ws Q J rv rz h
  obtain ⟨l, f, c, as, kf, rfl, rfl, hf, hcc, hs, hne, ht, hQ⟩ := h
  rw [Vals.ref1 rv, Vals.ref1 rz]
  refine min_by kf (J.ok.hd hc) J hs hne (fun i a ha pn s1 J1 => ?_) hQ
  refine wpAny_mono (lam_call J1 hr hf hcc S (hbind c) (hbody f c) (v := .ref a) (u := .ref a) rfl (ht i a ha)) (fun v s2 hv => ?_) fun _ _ z => z
  obtain ⟨w, H1, J2, rw1, rfl, rfl⟩ := hv
  obtain ⟨t, rfl⟩ := rw1
  exact ⟨t, rfl, J2⟩
end
/-! ### a def whose code object is known -/
section
variable {P : Program} {w : World} {K : PySem.W.Frag} {mg : Str → Option Value} {base : Heap}
theorem fun_okC {x qual : Str} {st : Stmt} {f c : Addr} {fd : FuncData} {N ps : List Str} {k : Nat} {sp : Sp} (F : Fun K x qual st f fd) (hc : fd.code = .ref c) (S : FnScope N ps (defScope st)) (len : ∀ vs H Q E, sp vs H Q E → vs.length = ps.length)
    (hbody : ∀ (A : Around) (outer : List Env) (s : Shared) (H : Hp) (vs : List V) (Q : VK) (E : XK), Room k (A.deeper (envOfC qual (defScope st) s.heap.objs.size f (.ref c))) → sp vs H Q E →
      ∃ t, PSs (cxOf L2.CX0 P w K mg base N qual (defScope st) f (.ref c) A outer s H E).nox (defBody st) t ∧ t { nx := fun _ H' => Q .non H', rt := Q } (start N vs) H) : FnOk P w K mg base L2.CX0 (k + 1) f fd ps sp := by
  obtain ⟨oc, od, kV, doc, pm, an, cdv, ct, osl, rfl, lk, hcd⟩ := F.ex
  have ec : cdv = .ref c := hc
  subst ec
  refine fn_of lk hcd S len fun A outer s H vs Q E hr hsp => ?_
  obtain ⟨t, h, q⟩ := hbody A outer s H vs Q E hr hsp
  exact ⟨t, h.nox, q⟩
end
end BcK

set_option Elab.async false
set_option linter.all false
set_option maxRecDepth 100000
set_option maxHeartbeats 4000000
/-! the end of a row of a specification where defs make lambdas: their tables of code objects are known from the start -/
namespace BcK
open PySem PySem.Spec PyProof.Rows L2 LamX
open PySem.W (WData Codec OpenSpec Well WellAll ReadsW ReadsAllW)
section
variable {K : PySem.W.Frag} {H H1 : Hp}
mutual
theorem dw_up (e : Same H H1) : ∀ {v : V} {d : WData}, Dw K H v d → Dw K H1 v d
  | _, _, .non => .non
  | _, _, .bl b => .bl b
  | _, _, .int i => .int i
  | _, _, .str x => .str x
  | _, _, .byt b => .byt b
  | _, _, .lst h1 h2 => .lst (e.seq h1) (dws_up e h2)
  | _, _, .tup h1 h2 => .tup (by
      rcases h1 with (h | ⟨o, h⟩) | h
      · exact .inl (.inl (e _ _ h))
      · exact .inl (.inr ⟨o, e _ _ h⟩)
      · exact .inr h) (dws_up e h2)
theorem dws_up (e : Same H H1) : ∀ {vs : List V} {ds : List WData}, DwAll K H vs ds → DwAll K H1 vs ds
  | _, _, .nil => .nil
  | _, _, .cons h1 h2 => .cons (dw_up e h1) (dws_up e h2)
end
end
theorem spec_callT {P : Program} {w : World} {K : PySem.W.Frag} {mg mb : Str → Option Value} {CX : CXT} {k : Nat} {fa : Addr} {fd : FuncData} {ps : List Str} {sp : Sp} {s : Shared} {vals : List Value} {ds : List WData} {R : PySem.W.WRecords} {cl : Str → Option Addr} {d0 : WData} {cs : List (Addr × Addr)}
    (KX : K.In s.heap) (hns : s.heap.Ns mainGlobals mg) (hb : s.heap.Ns builtinsNs mb) (hbb : ∀ x : Str, x ≠ "__name__" → mb x = bootBuiltins x) (hlim : s.heap.NoLimit) (hg : s.gens = #[])
    (hT : ∀ p ∈ cs, s.heap.get? p.2 = some { cls := .none, data := .fields #[] }) (nT : ∀ p ∈ cs, K.lookup p.2 = none) (hC : ∀ p ∈ cs, PySem.W.CodeHd s.heap p.1 p.2)
    (hbm : ∃ (bm : Addr) (ob : Obj), mg "__builtins__" = some (.ref bm) ∧ bm ≠ builtinsNs ∧ s.heap.get? bm = some ob ∧ ob.cls = .type "module" ∧ ob.dict = some builtinsNs ∧ ob.data = .plain)
    (hwl : WellAll w.params s.heap vals ds) (hpl : plWs ds = true) (hwt : ∀ d ∈ ds, d.weight ≤ 1048576) (hr : Room k callerA)
    (F : ∀ base : Heap, K.In base → base.Ns mainGlobals mg → (∀ p ∈ cs, TabB base mg p.1 p.2) → FnOk P w K mg base CX k fa fd ps sp) (hbind : ∀ (s : Shared) (us : List Value), us.length = ps.length → BindsTo s fd ⟨us, []⟩ (ps.zip us)) (hlen : ds.length = ps.length)
    (hsp : ∀ (H : Hp) (xs : List V), (∀ p ∈ cs, H p.2 = some (.tbl #[])) → DwAll K H xs ds → sp xs H (fun v H1 => Dw K H1 v d0) fun _ _ _ => False) (hCX : ∀ H e s1, CX [] H s (fun _ _ _ => False) e s1 → False) :
    codeAny (model P w) callerA (.call (.ref fa) ⟨vals, []⟩) (fun r s1 => ∃ u as, r = .ok (.ret u) ∧ ReadsW R cl s1.heap u d0 as ∧ OldK s.heap s1.heap ∧ s1.os = s.os ∧ AllBare s1.gens) s := by
  obtain ⟨A, okU, ar⟩ := area_all ds vals hwl hpl hwt
  have isT : ∀ b : Addr, b ∈ cs.map (·.2) → s.heap.get? b = some { cls := .none, data := .fields #[] } := fun b hb => by
    obtain ⟨p, hp, e⟩ := List.mem_map.mp hb
    rw [← e]; exact hT p hp
  have ofT : ∀ p ∈ cs, p.2 ∈ cs.map (·.2) := fun p hp => List.mem_map.mpr ⟨p, hp, rfl⟩
  have noG : ∀ b ∈ cs.map (·.2), argH K s.heap A b = none := fun b hb => by
    cases q : argH K s.heap A b with
    | none => rfl
    | some u =>
      obtain ⟨_, vs, _, _, ⟨z, _⟩ | ⟨z, _⟩⟩ := argH_is ar q
      · rw [isT b hb] at z; cases z
      · rw [isT b hb] at z; cases z
  obtain ⟨H, eH⟩ : ∃ H : Hp, H = fun b => if b ∈ cs.map (·.2) then some (HO.tbl #[]) else argH K s.heap A b := ⟨_, rfl⟩
  have atT : ∀ b ∈ cs.map (·.2), H b = some (HO.tbl #[]) := fun b hb => by rw [eH]; exact if_pos hb
  have atG : ∀ b, b ∉ cs.map (·.2) → H b = argH K s.heap A b := fun b hb => by rw [eH]; exact if_neg hb
  have up : Same (argH K s.heap A) H := fun b o z => by
    by_cases m : b ∈ cs.map (·.2)
    · rw [noG b m] at z; cases z
    · rw [atG b m]; exact z
  have hS := dws_up up (dw_all KX ar ds vals hwl hpl okU)
  have hV := vals_toV okU
  have hok : HOk P w H s.heap := fun b u z => by
    by_cases m : b ∈ cs.map (·.2)
    · rw [atT b m] at z; cases z; exact isT b m
    · rw [atG b m] at z
      obtain ⟨_, vs, h1, h2, ⟨e, rfl⟩ | ⟨e, rfl⟩⟩ := argH_is ar z
      · exact ⟨e, by rw [List.length_map]; exact h1, vs, _, vals_toV h2, e⟩
      · exact ⟨e, by rw [List.length_map]; exact h1, vs, vals_toV h2, _, e, rfl, _, rfl⟩
  have noK : ∀ b o, K.lookup b = some o → H b = none := fun b o z => by
    by_cases m : b ∈ cs.map (·.2)
    · obtain ⟨p, hp, e⟩ := List.mem_map.mp m
      rw [← e, nT p hp] at z; cases z
    · rw [atG b m]
      cases q : argH K s.heap A b with
      | none => rfl
      | some u => rw [(argH_is ar q).1] at z; cases z
  have none_of : ∀ {b : Addr} {o : Obj}, s.heap.get? b = some o → (∀ vs n, o.data ≠ .seq vs n) → o.data ≠ .fields #[] → H b = none := fun {b o} z n1 n2 => by
    by_cases m : b ∈ cs.map (·.2)
    · rw [isT b m] at z; cases z; exact (n2 rfl).elim
    · rw [atG b m]
      cases q : argH K s.heap A b with
      | none => rfl
      | some u =>
        obtain ⟨_, vs, _, _, ⟨z1, _⟩ | ⟨z1, _⟩⟩ := argH_is ar q
        · rw [z1] at z; cases z; exact (n1 _ _ rfl).elim
        · rw [z1] at z; cases z; exact (n1 _ _ rfl).elim
  have toB : ∀ {b : Addr} {o : Obj}, s.heap.get? b = some o → H b = none → (hidT s.heap H).get? b = some o := fun z n => hidT_get z n
  have toNs : ∀ {b : Addr} {m : Str → Option Value}, s.heap.Ns b m → (hidT s.heap H).Ns b m := fun {b m} ⟨o, es, ep, z, d, r⟩ => ⟨o, es, ep, toB z (none_of z (fun _ _ q => by rw [d] at q; cases q) fun q => by rw [d] at q; cases q), d, r⟩
  have KB : K.In (hidT s.heap H) := fun b o z => toB (KX b o z) (noK b o z)
  have hM : Mod K mg (hidT s.heap H) := ⟨KB, toNs hns, ⟨mb, toNs hb, hbb⟩, let ⟨mc, h1, h2⟩ := hlim; ⟨mc, toNs h1, h2⟩⟩
  have TB : ∀ p ∈ cs, TabB (hidT s.heap H) mg p.1 p.2 := fun p hp => by
    refine ⟨?_, ?_, fun z => ?_⟩
    · obtain ⟨o, us, file, tf, flags, tg, inF, text, tt, e1, r1, r2, r3, r4, r5, r6, r7, r8, hne⟩ := hC p hp
      refine ⟨o, us, file, tf, flags, tg, inF, text, tt, toB e1 (none_of e1 (fun _ _ q => by rw [r2] at q; cases q) fun q => ?_), r1, r2, r3, r4, r5, r6, r7, r8, hne⟩
      rw [r2] at q; cases q; simp at r3
    · obtain ⟨bm, ob, b1, b2, b3, b4, b5, b6⟩ := hbm
      refine ⟨bm, ob, b1, b2, fun q => ?_, fun q => ?_, toB b3 (none_of b3 (fun _ _ q => by rw [b6] at q; cases q) fun q => by rw [b6] at q; cases q), b4, b5, b6⟩
      · obtain ⟨o, es, ep, z, hd, _⟩ := hns
        rw [q, z] at b3; cases b3; rw [hd] at b6; cases b6
      · rw [q, hT p hp] at b3; cases b3; cases b6
    · obtain ⟨o, es, ep, z1, hd, _⟩ := hns
      rw [z, hT p hp] at z1; cases z1; cases hd
  have e0 : Env0 P w K mg (hidT s.heap H) callerA [] s H := ⟨rfl, hM, fun b o z => of_hidT z, Nat.le_of_eq (hidT_size _ _), trivial, fun b z => absurd (show b ∈ ([] : List Addr) from z) (by simp), hok, .of_eq hg⟩
  have hl : vals.length = ps.length := by rw [wellAll_len hwl]; exact hlen
  refine codeAny_mono ((F _ KB (toNs hns) TB).run callerA [] s H ⟨vals, []⟩ vals (vals.map toV) _ _ hr e0 (hbind s vals hl) hV (hsp H _ (fun p hp => atT _ (ofT p hp)) hS)) fun r s1 x => ?_
  cases r with
  | error e => exact (hCX H e s1 x).elim
  | ok fl => cases fl with
    | next => exact x.elim
    | brk => exact x.elim
    | cont => exact x.elim
    | ret u =>
      obtain ⟨v, H1, os, bare, un, hok1, rv, q⟩ := x
      have key : ∀ b o, b ∉ cs.map (·.2) → s.heap.get? b = some o → s1.heap.get? b = some o := fun b o m z => by
        cases q2 : H b with
        | none => exact un.keep b o z q2 (fun w => absurd (show b ∈ ([] : List Addr) from w) (by simp)) (by simp)
        | some u2 =>
          have q3 := q2
          rw [atG b m] at q3
          obtain ⟨_, vs, _, _, ⟨z1, rfl⟩ | ⟨z1, rfl⟩⟩ := argH_is ar q3
          · have z2 := un.frzs b _ _ q2
            obtain ⟨z3, _⟩ := hok1 b _ z2
            rw [z] at z1; cases z1; exact z3
          · have z2 := un.frzs b _ _ q2
            obtain ⟨z3, _⟩ := hok1 b _ z2
            rw [z] at z1; cases z1; exact z3
      have grown : ∀ p ∈ cs, ∃ more : Array Value, s1.heap.get? p.2 = some { cls := .none, data := .fields more } := fun p hp => by
        obtain ⟨more, z⟩ := un.tbls p.2 #[] (atT _ (ofT p hp))
        exact ⟨_, hok1 p.2 _ z⟩
      have KX1 : K.In s1.heap := fun b o z => key b o (fun m => by
        obtain ⟨p, hp, e⟩ := List.mem_map.mp m
        rw [← e, nT p hp] at z; cases z) (KX b o z)
      obtain ⟨as, hrd⟩ := Dw.reads (R := R) (cl := cl) hok1 KX1 d0 v u q rv
      refine ⟨u, as, rfl, hrd, ⟨fun b o z => ?_, fun b o z => ?_⟩, os, bare⟩
      · by_cases m : b ∈ cs.map (·.2)
        · obtain ⟨p, hp, e⟩ := List.mem_map.mp m
          obtain ⟨more, hm⟩ := grown p hp
          rw [← e] at z ⊢
          rw [hT p hp] at z
          cases z
          exact .inr (.inl ⟨((hC p hp).tab (hT p hp)).isCodeTable, rfl, #[], more, rfl, by rw [Array.empty_append]; exact hm⟩)
        · exact .inl (key b o m z)
      · by_cases m : b ∈ cs.map (·.2)
        · obtain ⟨p, hp, e⟩ := List.mem_map.mp m
          obtain ⟨more, hm⟩ := grown p hp
          rw [← e]; exact ⟨_, hm⟩
        · exact ⟨o, key b o m z⟩
/-- what is known of the row's def at the heap h that the top leaves -/
def SpecAt (r : OpenSpec) (w : World) (K : PySem.W.Frag) (CX : CXT) (k : Nat) (ps : List Str) (mg : Str → Option Value) (fa : Addr) (h : Heap) : Prop :=
  ∃ (fd : FuncData) (cs : List (Addr × Addr)) (sp : Sp), (∀ p ∈ cs, PySem.W.CodeHd h p.1 p.2 ∧ h.get? p.2 = some (PySem.W.tabObj #[])) ∧ (∀ p ∈ cs, K.lookup p.2 = none) ∧ (∀ (s : Shared) (us : List Value), us.length = ps.length → BindsTo s fd ⟨us, []⟩ (ps.zip us)) ∧
    (∀ (H : Hp) (xs : List V) (a : Codec.denoteAll r.args), (∀ p ∈ cs, H p.2 = some (.tbl #[])) → Codec.withinAll r.args a = true → Codec.app r.args r.asked a = true → DwAll K H xs (Codec.encAll r.args a) → sp xs H (fun v H1 => Dw K H1 v (r.ret.enc (Codec.app r.args r.f a))) fun _ _ _ => False) ∧
    ∀ base : Heap, K.In base → base.Ns mainGlobals mg → (∀ p ∈ cs, TabB base mg p.1 p.2) → FnOk r.prog w K mg base CX k fa fd ps sp
theorem walk_specT {r : OpenSpec} {k : Nat} {q : Program} {loose : List Str} {XP : (Str → Option Value) → Heap → Prop} {YP : World → Heap → Prop} {d : DefRec} {K : Params → PySem.W.Frag} {CX : CXT} {ps : List Str}
    (hwell : r.wellSaid = true) (hdf : d.params.defaults = []) (hlen : r.args.length = ps.length) (hr : Room k callerA) (hY : ∀ (w : World) (h : Heap), YP w h → (K w.params).In h)
    (F : ∀ (w : World) (mean : ExcName → Option Value) (mg mb : Str → Option Value) (fa : Addr) (h : Heap), (K w.params).In h → Top q (PySem.W.looseW q loose) mean mg mb h → mg d.name = some (.ref fa) → SpecAt r w (K w.params) CX k ps mg fa h)
    (hCX : ∀ (H : Hp) (s : Shared) (e : Value) (s1 : Shared), CX [] H s (fun _ _ _ => False) e s1 → False) : PySem.W.WalkOS q loose XP YP r d [] (fun f vs => PySem.call f vs) := by
  intro w s0 s1 mg mb G Y fa o pm cd doc dV kV ho hd hcd hD hmg hg args vals as hpre hlay hrd hwl hlo
  obtain ⟨a, e1, e2⟩ := PySem.W.os_pre_some hpre
  obtain ⟨e3, hwi⟩ := Codec.encAll_of_decAll r.args args a e1
  subst e3
  have KX := hY w _ Y
  obtain ⟨fd, cs, sp, hC, nT, hb, hsp, hF⟩ := F w _ mg mb fa _ KX G.T hmg
  refine PySem.W.enter_call (codeAny_mono (spec_callT (R := []) (cl := classAt s0.heap) (d0 := r.ret.enc (Codec.app r.args r.f a)) KX G.T.g G.T.b G.T.builtins G.T.nolimit hg (fun p hp => (hC p hp).2) nT (fun p hp => (hC p hp).1) G.T.bmain hwl (pl_encAll _ _) (layable_weight hlay) hr hF hb (by rw [encAll_len]; exact hlen)
    (fun H xs hO hS => hsp H xs a hO hwi e2 hS) fun H e s2 => hCX H s1 e s2) fun r1 s2 hq => ?_)
  obtain ⟨u, as1, rfl, h1, h2, h3, h4⟩ := hq
  exact ⟨.inl ⟨u, _, as1, rfl, fun _ => rfl, h1, (OpenSpec.post_iff hwell hwi _ _).mpr rfl, fun z => Bool.noConfusion (show false = true from z)⟩, h2, h3, h4⟩
end BcK

set_option Elab.async false
set_option linter.all false
set_option maxRecDepth 100000
set_option maxHeartbeats 4000000
/-! for i, x in enumerate(xs, start=k) over a list -/
namespace BcE
open PySem PySem.Spec PyProof.Rows L2
section
variable {M : Model} {A : Around} {E : Value → Shared → Prop} {s : Shared} {env : Env}
/-- a built-in class called with keywords -/
theorem callTy_kw {pos : Pos} {T : String} {fs : List Value} {as : List (Bool × Sem Value)} {kws : List (Option Str × Sem Value)} {Q : Value → Shared → Prop} (h1 : as.any (·.1) = false) (h2 : kws.any (·.1.isNone) = false)
    (h : wpAny M A (evalArgs (.type T) true as kws) (fun z t => wpAny M A (call (.type T) (fs ++ z.pos) z.kw) Q E t) E s) : wpAny M A (callWith pos (.type T) fs as kws) Q E s := by
  unfold callWith
  refine wpAny_bind (wpAny_holding (wpAny_mono h (fun z t hz => wpAny_bind (wpAny_standAt ?_)) fun _ _ e => e))
  simp only [h1, h2, Bool.or_false]
  exact wpAny_bind (wpAny_pure (wpAny_bind (wpAny_mono hz (fun r t2 hr => wpAny_bind (wpAny_holding (wpAny_point (wpAny_pure hr)))) fun _ _ e => e)))
end
/-- the walk: the items of the list at a, each in a new pair with its number, counted from k -/
def ItS (K : PySem.W.Frag) (a : Addr) (k : Int) : It where
  go := fun i H => ∃ (xs : List V) (x : V), SqL K H a xs ∧ xs[i]? = some x
  yld := fun i H v H1 => ∃ T x, v = .ref T ∧ H T = none ∧ H1 = upd H T (.tup [.int (k + (i : Int)), x]) ∧ ∀ xs, SqL K H a xs → xs[i]? = some x
  stop := fun i H => ∃ xs : List V, SqL K H a xs ∧ xs.length = i
theorem turnS {P : Program} {w : World} {K : PySem.W.Frag} {elts : List Expr} {kk : Nat} {tpos : Pos} (a e it : Addr) (k : Int) :
    Turn P w K (.Tuple elts kk tpos) (ItS K a k) [e, it] e (fun i h => (∃ old, IsEnum h e it (k + (i : Int)) old) ∧ h.IsListIter it a i ∧ e ≠ it) where
  mem := List.mem_cons_self ..
  obj := by
    rintro i h ⟨⟨old, he⟩, ⟨o, ho, _, hd⟩, _⟩ b hb
    rcases List.mem_cons.mp hb with rfl | hb
    · exact ⟨_, he, fun v q => by cases q⟩
    · rw [List.mem_singleton.mp hb]
      exact ⟨o, ho, fun v q => by rw [hd] at q; cases q⟩
  keep := by
    rintro i h h' ⟨⟨old, he⟩, hi, hne⟩ kp
    exact ⟨⟨old, kp e (List.mem_cons_self ..) _ he⟩, hi.at fun o q => kp it (List.mem_cons_of_mem _ (List.mem_singleton.mpr rfl)) o q, hne⟩
  item := by
    rintro X hP hw hK hc i pins s σ H E I hf ⟨⟨old, he⟩, hit, hne⟩ ⟨xs, x, hq, hx⟩
    subst hP hw hK
    obtain ⟨its, rv, pl, hz⟩ := I.list hq
    obtain ⟨u, hu, ru⟩ := rv.get hx
    have hel : e < s.heap.objs.size := Heap.lt_size he
    have hil : it < s.heap.objs.size := let ⟨_, q, _⟩ := hit; Heap.lt_size q
    have nai : a ≠ it := by
      rintro rfl
      obtain ⟨o1, a1, b1, _⟩ := hit
      obtain ⟨o2, a2, b2, _⟩ := pl.isList
      rw [a1] at a2
      rw [← Option.some.inj a2, b1] at b2
      exact absurd b2 (by decide)
    have nae : e ≠ a := by
      rintro rfl
      obtain ⟨o2, a2, b2, _⟩ := pl.isList
      have he' := he
      unfold IsEnum at he'
      rw [he'] at a2
      rw [← Option.some.inj a2] at b2
      have b3 : Value.type "enumerate" = Value.type "list" := b2
      exact absurd b3 (by decide)
    have D := Draws.list (prog := X.prog) (w := X.w) (A := X.A.in1) (I.ok.hd hc) it a nai its.toArray
    have hi : i < its.toArray.size := by
      have := (List.getElem?_eq_some_iff.mp hu).1
      simpa using this
    refine wpAny_pyNext_enum_itemC D he ⟨hit, pl.isList⟩ hi hne (by simp; exact ⟨hne, nae⟩) fun x1 h1 tk hP ho hst hT hsz hk => ?_
    have ex : x1 = u := by
      have : its[i]? = some x1 := by simpa using hP
      rw [hu] at this
      exact (Option.some.inj this).symm
    subst ex
    refine ⟨_, rfl, wpAny_letOwnedTupleGo_enum (s := { s with heap := h1, toks := tk + 1 }) ho fun h2 he2 sb => ?_⟩
    have nes : e ≠ s.heap.objs.size := Nat.ne_of_lt hel
    have hT2 : h2.get? s.heap.objs.size = some { cls := .type "tuple", data := .seq #[.int (k + (i : Int)) tk, x1] } := (sb.2 _ nes.symm).trans hT
    have kp : ∀ b ob, b ∉ [e, it] → s.heap.get? b = some ob → h2.get? b = some ob := fun b ob hb q => by
      have b1 : b ≠ e := fun z => hb (by rw [z]; exact List.mem_cons_self ..)
      have b2 : b ≠ it := fun z => hb (by rw [z]; exact List.mem_cons_of_mem _ (List.mem_singleton.mpr rfl))
      exact (sb.2 b b1).trans (hk b ob b1 b2 q)
    have new : ObjOk X.prog X.w (upd H s.heap.objs.size (.tup [.int (k + (i : Int)), x])) h2 s.heap.objs.size (.tup [.int (k + (i : Int)), x]) :=
      ⟨by show 2 ≤ sizeLine; decide, [.int (k + (i : Int)) tk, x1], .cons ⟨_, rfl⟩ (.cons ru .nil), ⟨_, hT2, rfl, _, rfl⟩⟩
    have J : Inv X pins σ (upd H s.heap.objs.size (.tup [.int (k + (i : Int)), x])) { s with heap := h2, toks := tk + 1 } := I.turnedNew (ch := [e, it]) kp hf (Nat.le_refl _) new
    refine ⟨.ref s.heap.objs.size, _, J, rfl, ⟨_, x, rfl, I.hok.fresh (Nat.le_refl _), rfl, fun ys hy => by rw [I.list_inj hy hq]; exact hx⟩, ⟨⟨x1, ?_⟩, hst.1.at fun o q => (sb.2 it hne.symm).trans q, hne⟩, fun b hb => ?_⟩
    · rw [show k + ((i + 1 : Nat) : Int) = k + (i : Int) + 1 by omega]
      exact he2
    · have hb' : b < s.heap.objs.size := by
        rcases List.mem_cons.mp hb with z | z
        · rw [z]; exact hel
        · rw [List.mem_singleton.mp z]; exact hil
      rw [upd_ne (Nat.ne_of_lt hb')]
      exact (hf b hb).1
  done := by
    rintro X hP hw hK hc i pins s σ H E I hf ⟨⟨old, he⟩, hit, hne⟩ ⟨xs, hq, hx⟩
    subst hP hw hK
    obtain ⟨its, rv, pl, hz⟩ := I.list hq
    obtain ⟨f0, f1, f2, f3, f4, f5⟩ := hf it (List.mem_cons_of_mem _ (List.mem_singleton.mpr rfl))
    have nai : a ≠ it := by
      rintro rfl
      obtain ⟨o1, a1, b1, _⟩ := hit
      obtain ⟨o2, a2, b2, _⟩ := pl.isList
      rw [a1] at a2
      rw [← Option.some.inj a2, b1] at b2
      exact absurd b2 (by decide)
    have D := Draws.list (prog := X.prog) (w := X.w) (A := X.A.in1) (I.ok.hd hc) it a nai its.toArray
    have en : i = its.toArray.size := by
      have := rv.length
      simp
      omega
    rw [en] at hit
    exact wpAny_pyNext_enum_endD D he ⟨hit, pl.isList⟩ fun h1 eb => ⟨rfl, I.turned (t' := s.toks) (fun b o hb q => eb b o hb q) f0 f1 f3 f4 f5⟩
  self := by
    rintro A i s Q E ⟨⟨_, he⟩, _⟩ h
    exact wpAny_pyIter_enum he h
theorem walkS {K : PySem.W.Frag} {a : Addr} {xs : List V} {k : Int} : Walk (ItS K a k) xs.length (fun H => SqL K H a xs) (YPair (fun i => some (.int (k + (i : Int)))) (fun i => xs[i]?)) := by
  refine ⟨fun i _ hi q => ⟨xs, xs[i], q, List.getElem?_eq_getElem hi⟩, fun _ q => ⟨xs, q, rfl⟩, fun i H v H1 _ q y => ?_⟩
  obtain ⟨T, x, h1, h2, h3, h4⟩ := y
  exact ⟨T, .int (k + (i : Int)), x, h1, h2, h3, rfl, h4 xs q⟩
def iEnS (K : PySem.W.Frag) (ta tk : TA) : TI := fun σ H R => ta σ H fun vs H1 => tk σ H1 fun zs H2 => ∃ a xs k, vs = [.ref a] ∧ zs = [.int k] ∧ SqL K H2 a xs ∧ -(2 ^ 63) ≤ k ∧ k < 2 ^ 63 ∧ R (ItS K a k) H2
theorem pi_enumS {X : Cx} {e : Expr} {kws : List Keyword} {ta tk : TA} {p pos tpos : Pos} {elts : List Expr} {kk : Nat} (hg : Gl X "enumerate") (hm : X.mg "enumerate" = none) (ha : PA X [e] ta) (hk : PK X kws tk)
    (he : backTo pos (starEach [e] X.env) = (false, eval e X.env) :: backTo pos (starEach [] X.env) := by rfl) (hpl : (backTo pos (starEach [e] X.env)).any (·.1) = false := by rfl)
    (hall : (backToKw pos (keywordEach kws X.env)).all (·.1.isSome) = true := by rfl) (hno : (backToKw pos (keywordEach kws X.env)).any (·.1.isNone) = false := by rfl) (hks : (backToKw pos (keywordEach kws X.env)).filterMap (·.1) = [Str.ofString "start"] := by rfl) :
    PI X (.Tuple elts kk tpos) (.Call (.Name "enumerate" p) [e] kws pos) (iEnS X.K ta tk) := by
  refine ⟨fun pins s σ H R I h => ?_⟩
  refine wpAny_Call_Name_kw (ld_blt I hg hm boot_enumerate ?_)
  refine callTy_kw hpl hno ?_
  have run : wpAny (model X.prog X.w) X.A (spliced (backTo pos (starEach [e] X.env))) (fun us s1 => wpAny (model X.prog X.w) X.A (evalAll ((backToKw pos (keywordEach kws X.env)).map (·.2))) (fun ws s2 => wpAny (model X.prog X.w) X.A (call (.type "enumerate") ([] ++ us) (((backToKw pos (keywordEach kws X.env)).filterMap (·.1)).zip ws)) (fun v s3 => wpAny (model X.prog X.w) X.A (pyIter v) (PIE X pins σ (.Tuple elts kk tpos) R) X.xe s3) X.xe s2) X.xe s1) X.xe s := by
    refine thn (ha.run pos pins s σ H _ I h) fun us s1 ⟨vs, H1, I1, r1, q1⟩ => thn (hk.run pos pins s1 σ H1 _ I1 q1) fun ws s2 ⟨zs, H2, I2, r2, q2⟩ => ?_
    obtain ⟨a, xs, k, rfl, rfl, hq, lo, hi, q⟩ := q2
    rw [hks]
    cases r1 with
    | cons ra rr =>
      cases rr
      cases ra
      cases r2 with
      | cons rb rr =>
        cases rr
        obtain ⟨t, rfl⟩ := rb
        obtain ⟨its, rv, pl, hz⟩ := I2.list hq
        refine enum_begins_start (begins_list a its.toArray) pl.isList lo hi fun h1 he1 hit hsz hkp => wpAny_pyIter_enum he1 ?_
        have J : Inv X pins σ H2 { s2 with heap := h1 } := I2.kept (t' := s2.toks) hkp
        refine ⟨s2.heap.objs.size + 1, [s2.heap.objs.size + 1, s2.heap.objs.size], _, _, H2, rfl, J, turnS a (s2.heap.objs.size + 1) s2.heap.objs.size k, ⟨⟨.none, ?_⟩, ⟨_, hit, rfl, rfl⟩, Nat.succ_ne_self _⟩, fun b hb => ?_, q⟩
        · rw [show k + ((0 : Nat) : Int) = k by omega]
          exact he1
        · have hle : s2.heap.objs.size ≤ b := by
            rcases List.mem_cons.mp hb with z | z
            · rw [z]; exact Nat.le_add_right _ _
            · rw [List.mem_singleton.mp z]; exact Nat.le_refl _
          exact I2.fpOk hle (I2.hok.fresh hle)
  rw [he] at run ⊢
  exact evalArgs_kwB hall run
end BcE

set_option Elab.async false
set_option linter.all false
set_option maxRecDepth 100000
set_option maxHeartbeats 4000000
namespace Bp
open PySem PySem.Spec PyProof.Rows L2 LamX
abbrev Ho := Rp03.House
abbrev Br := Rp03.Branch
abbrev En := Rp03.Entry
/-! ### attributes by their places -/
abbrev fz (ns : List Str) (vs : List V) : List (Str × V) := ns.zip vs
def ixOf (x : Str) : List Str → Option Nat
  | [] => none
  | y :: r => if x = y then some 0 else (ixOf x r).map (· + 1)
theorem fz_look {x : Str} : ∀ {ns : List Str} {vs : List V} {i : Nat} {v : V}, ixOf x ns = some i → vs[i]? = some v → (fz ns vs).lookup x = some v
  | [], _, _, _, h, _ => by cases h
  | y :: r, [], _, _, _, h => by simp at h
  | y :: r, u :: us, i, v, h, hv => by
    unfold ixOf at h
    by_cases e : x = y
    · rw [if_pos e] at h
      cases h
      have : u = v := by simpa using hv
      subst this
      show List.lookup x ((y, u) :: r.zip us) = some u
      rw [List.lookup_cons, e, beq_self_eq_true]
    · rw [if_neg e] at h
      cases q : ixOf x r with
      | none => rw [q] at h; cases h
      | some j =>
        rw [q] at h
        cases h
        show List.lookup x ((y, u) :: r.zip us) = some v
        rw [List.lookup_cons, beq_eq_false_iff_ne.mpr e]
        exact fz_look q (by simpa using hv)
theorem fz_none {x : Str} : ∀ {ns : List Str} {vs : List V}, ixOf x ns = none → (fz ns vs).lookup x = none
  | [], _, _ => rfl
  | y :: r, [], _ => rfl
  | y :: r, u :: us, h => by
    unfold ixOf at h
    by_cases e : x = y
    · rw [if_pos e] at h; cases h
    · rw [if_neg e] at h
      cases q : ixOf x r with
      | some j => rw [q] at h; cases h
      | none =>
        show List.lookup x ((y, u) :: r.zip us) = none
        rw [List.lookup_cons, beq_eq_false_iff_ne.mpr e]
        exact fz_none q
theorem fz_put {x : Str} {v : V} : ∀ {ns : List Str} {vs : List V} {i : Nat}, ixOf x ns = some i → i < vs.length → putF x v (fz ns vs) = fz ns (vs.set i v)
  | [], _, _, h, _ => by cases h
  | y :: r, [], _, _, h => by simp at h
  | y :: r, u :: us, i, h, hl => by
    unfold ixOf at h
    by_cases e : x = y
    · rw [if_pos e] at h
      cases h
      show putF x v ((y, u) :: r.zip us) = (y, v) :: r.zip us
      unfold putF
      rw [if_pos e.symm]
    · rw [if_neg e] at h
      cases q : ixOf x r with
      | none => rw [q] at h; cases h
      | some j =>
        rw [q] at h
        cases h
        show putF x v ((y, u) :: r.zip us) = (y, u) :: r.zip (us.set j v)
        unfold putF
        rw [if_neg fun z => e z.symm]
        exact congrArg (List.cons (y, u)) (fz_put q (by simpa using hl))
theorem fz_new {x : Str} {v : V} : ∀ {ns : List Str} {vs : List V}, ixOf x ns = none → ns.length = vs.length → putF x v (fz ns vs) = fz (ns ++ [x]) (vs ++ [v])
  | [], [], _, _ => rfl
  | [], _ :: _, _, h => by cases h
  | _ :: _, [], _, h => by cases h
  | y :: r, u :: us, h, hl => by
    unfold ixOf at h
    by_cases e : x = y
    · rw [if_pos e] at h; cases h
    · rw [if_neg e] at h
      cases q : ixOf x r with
      | some j => rw [q] at h; cases h
      | none =>
        show putF x v ((y, u) :: r.zip us) = (y, u) :: (r ++ [x]).zip (us ++ [v])
        unfold putF
        rw [if_neg fun z => e z.symm]
        exact congrArg (List.cons (y, u)) (fz_new q (by simpa using hl))

/-! ### defs, methods, classes of the text, each with its promise -/
section
variable (P : Program) (w : World) (K : PySem.W.Frag) (mg : Str → Option Value) (base : Heap)
def Fn (x : Str) (k : Nat) (ps : List Str) (sp : Sp) : Prop := ∃ (f : Addr) (fd : FuncData), mg x = some (.ref f) ∧ PySem.W.keepIn K (.ref f) = true ∧ Binds K fd ps [] ∧ FnOk P w K mg base L2.CX0 k f fd ps sp
def Mt (C : Addr) (m : Str) (k : Nat) (ps : List Str) (sp : Sp) : Prop := ∃ (f : Addr) (fd : FuncData), Meth K C m f ∧ Binds K fd ps [] ∧ FnOk P w K mg base L2.CX0 k f fd ps sp
def Ms (x : Str) (C : Addr) (k : Nat) (ps : List Str) (sp : Sp) : Prop := ∃ (f : Addr) (fd : FuncData), mg x = some (.ref C) ∧ Mk K C f ∧ Binds K fd ps [] ∧ FnOk P w K mg base L2.CX0 k f fd ps sp
end
section
variable {X : Cx} {x m : Str} {k j : Nat} {ps : List Str} {sp : Sp} {C : Addr} {e o : Expr} {es : List Expr} {t : TA} {ta : TE} {p pos apos : Pos}
theorem pe_fn (F : Fn X.prog X.w X.K X.mg X.base x k ps sp) (hr : Room j X.A) (ha : PA X (e :: es) t) (hg : Gl X x := by rfl) (hkj : k ≤ j := by decide) (hdb : (x == ("__debug__" : Str)) = false := by decide) (he : starEach (e :: es) X.env = (false, eval e X.env) :: starEach es X.env := by rfl)
    (hpl : (backTo pos (starEach es X.env)).any (·.1) = false := by rfl) : PE X (.Call (.Name x p) (e :: es) [] pos) (tCall sp [] E0 t) := by
  obtain ⟨f, fd, h1, h2, h3, h4⟩ := F
  exact pe_call h4 (hr.mono hkj) hg h1 h2 h3 .nil pass0 ha hdb he hpl
theorem pe_mt {pl : Sem Bool} (F : Mt X.prog X.w X.K X.mg X.base C m k ps sp) (c : Cls X.K C) (hr : Room j X.A) (ho : PE X o ta) (ha : PA X (e :: es) t) (hkj : k ≤ j := by decide) (hst : starEach (e :: es) X.env = (false, eval e X.env) :: starEach es X.env := by rfl) (hpl : (backTo pos (starEach es X.env)).any (·.1) = false := by rfl)
    (ht : eval (.Call (.Attribute o m apos) (e :: es) [] pos) X.env = (do
      let ov ← eval o X.env
      standAt apos.atName
      let (f, first) ← holding [ov] (getMethod ov m pl)
      callWith pos f first (backTo pos (starEach (e :: es) X.env)) (backToKw pos (keywordEach [] X.env))) := by rfl) : PE X (.Call (.Attribute o m apos) (e :: es) [] pos) (tMeth C m sp [] E0 ta t) := by
  obtain ⟨f, fd, h1, h2, h3⟩ := F
  exact pe_meth ho c h1 h3 (hr.mono hkj) h2 .nil pass0 ha hst hpl ht
theorem pe_mt0 {pl : Sem Bool} (F : Mt X.prog X.w X.K X.mg X.base C m k ps sp) (c : Cls X.K C) (hr : Room j X.A) (ho : PE X o ta) (hkj : k ≤ j := by decide)
    (ht : eval (.Call (.Attribute o m apos) [] [] pos) X.env = (do
      let ov ← eval o X.env
      standAt apos.atName
      let (f, first) ← holding [ov] (getMethod ov m pl)
      callWith pos f first (backTo pos (starEach [] X.env)) (backToKw pos (keywordEach [] X.env))) := by rfl) : PE X (.Call (.Attribute o m apos) [] [] pos) (tMeth C m sp [] E0 ta tNil) := by
  obtain ⟨f, fd, h1, h2, h3⟩ := F
  exact pe_meth0 ho c h1 h3 (hr.mono hkj) h2 .nil pass0 ht
theorem pe_ms (F : Ms X.prog X.w X.K X.mg X.base x C k ps sp) (hr : Room j X.A) (ha : PA X (e :: es) t) (hg : Gl X x := by rfl) (hkj : k + 1 ≤ j := by decide) (hdb : (x == ("__debug__" : Str)) = false := by decide) (he : starEach (e :: es) X.env = (false, eval e X.env) :: starEach es X.env := by rfl)
    (hpl : (backTo pos (starEach es X.env)).any (·.1) = false := by rfl) : PE X (.Call (.Name x p) (e :: es) [] pos) (tMake C sp [] E0 t) := by
  obtain ⟨f, fd, h1, h2, h3, h4⟩ := F
  exact pe_make h2 h4 (hr.mono hkj) hg h1 h3 .nil pass0 ha hdb he hpl
theorem pe_ms0 (F : Ms X.prog X.w X.K X.mg X.base x C k ps sp) (hr : Room j X.A) (hg : Gl X x := by rfl) (hkj : k + 1 ≤ j := by decide) (hdb : (x == ("__debug__" : Str)) = false := by decide) : PE X (.Call (.Name x p) [] [] pos) (tMake C sp [] E0 tNil) := by
  obtain ⟨f, fd, h1, h2, h3, h4⟩ := F
  exact pe_make0 h2 h4 (hr.mono hkj) hg h1 h3 .nil pass0 hdb
end

/-- a constant of the text: a whole number -/
theorem pe_cst {X : Cx} {x : Str} {n : Int} {pos : Pos} (h : ∃ t, X.mg x = some (.int n t)) (hg : Gl X x := by rfl) (hd : (x == ("__debug__" : Str)) = false := by decide) : PE X (.Name x pos) (tC (.int n)) := by
  obtain ⟨t, h⟩ := h
  exact pe_glob hg h ⟨_, rfl⟩ hd

/-! ### a comprehension over a list of objects: a filter, a map -/
theorem same_upd {H : Hp} {D : Addr} {o : HO} (h : H D = none) : Same H (upd H D o) := fun b u e => by
  rw [upd_ne (ne_of_none e h)]
  exact e
theorem same_put {H H1 : Hp} {D : Addr} {o : HO} (s : Same H H1) (h : H D = none) : Same H (upd H1 D o) := fun b u e => by
  rw [upd_ne (ne_of_none e h)]
  exact s b u e
theorem lc_fm {α : Type} {K : PySem.W.Frag} {a D : Addr} {i : Nat} {σ : L2.St} {vs : List Nat} {H1 : Hp} {tt : TT} {te : TE} {Qd : Hp → Prop} (ep : List (Addr × α)) (p : Addr × α → Bool) (f : Addr × α → V) (hD : H1 D = none) (hs : SqL K H1 a (ep.map fun q => V.ref q.1)) (hn : ep.length < sizeLine)
    (hw : ∀ v : V, wipe ((wipe σ vs).set i (some v)) vs = wipe σ vs)
    (ht : ∀ q ∈ ep, ∀ (H : Hp) (R : Bool → Hp → Prop), Same H1 H → R (p q) H → tt ((wipe σ vs).set i (some (.ref q.1))) H R) (he : ∀ q ∈ ep, ∀ (H : Hp) (R : V → Hp → Prop), Same H1 H → R (f q) H → te ((wipe σ vs).set i (some (.ref q.1))) H R)
    (hd : ∀ H, Same H1 H → H D = some (.lst ((ep.filter p).map f)) → Qd H) :
    ∃ W : Nat → Nat → Hp → Prop, (∃ m, W 0 m (upd H1 D (.lst []))) ∧ ∀ i' m H, W i' m H →
      ((Itl K a).stop i' H ∧ Qd H) ∨ ((Itl K a).go i' H ∧ ∃ Nx : Hp → Prop, (∀ H', Nx H' → ∃ m', m' < m ∧ W (i' + 1) m' H') ∧ ∀ x H', (Itl K a).yld i' H x H' → gName i x (wipe σ vs) H' fun σ2 H2 => wipe σ2 vs = wipe σ vs ∧ tt σ2 H2 fun b H3 =>
        if b = true then te σ2 H3 fun y H4 => ∃ acc, H4 D = some (.lst acc) ∧ acc.length < sizeLine ∧ Nx (upd H4 D (.lst (acc ++ [y]))) else Nx H3) := by
  have hlen : ∀ n, (((ep.take n).filter p).map f).length ≤ ep.length := fun n => by
    rw [List.length_map]
    exact Nat.le_trans (List.length_filter_le _ _) (by rw [List.length_take]; exact Nat.min_le_right _ _)
  refine lc_list (K := K) (a := a) (xs := ep.map fun q => V.ref q.1) (fun n H => Same H1 H ∧ H D = some (.lst (((ep.take n).filter p).map f))) ⟨same_upd hD, upd_same⟩ (fun n H _ h => h.1.seq hs) (fun n x H hx h => ?_) fun H h => ?_
  · obtain ⟨q, hq, rfl⟩ : ∃ q, ep[n]? = some q ∧ x = V.ref q.1 := by
      rw [List.getElem?_map] at hx
      cases z : ep[n]? with
      | none => rw [z] at hx; cases hx
      | some q => rw [z] at hx; exact ⟨q, rfl, (Option.some.inj hx).symm⟩
    have hm : q ∈ ep := List.mem_of_getElem? hq
    have htk : ep.take (n + 1) = ep.take n ++ [q] := by rw [List.take_add_one, hq]; rfl
    show wipe ((wipe σ vs).set i (some (.ref q.1))) vs = wipe σ vs ∧ _
    refine ⟨hw _, ht q hm H _ h.1 ?_⟩
    cases hp : p q with
    | true =>
      rw [if_pos rfl]
      refine he q hm H _ h.1 ⟨_, h.2, Nat.lt_of_le_of_lt (hlen n) hn, same_put h.1 hD, ?_⟩
      rw [upd_same, htk, List.filter_append, List.map_append, List.filter_cons_of_pos hp]
      rfl
    | false =>
      rw [if_neg Bool.false_ne_true]
      refine ⟨h.1, ?_⟩
      rw [h.2, htk, List.filter_append, List.map_append, List.filter_cons_of_neg (by rw [hp]; exact Bool.false_ne_true)]
      simp
  · rw [List.length_map, List.take_length] at h
    exact hd H h.1 h.2
theorem lc_fmG {β : Type} {K : PySem.W.Frag} {a D : Addr} {i : Nat} {σ : L2.St} {vs : List Nat} {H1 : Hp} {tt : TT} {te : TE} {Qd : Hp → Prop} (ys : List β) (it : β → V) (p : β → Bool) (f : β → V) (hD : H1 D = none) (hs : SqL K H1 a (ys.map it)) (hn : ys.length < sizeLine)
    (hw : ∀ v : V, wipe ((wipe σ vs).set i (some v)) vs = wipe σ vs)
    (ht : ∀ q ∈ ys, ∀ (H : Hp) (R : Bool → Hp → Prop), Same H1 H → H D ≠ none → (∀ H2, Same H H2 → R (p q) H2) → tt ((wipe σ vs).set i (some (it q))) H R) (he : ∀ q ∈ ys, ∀ (H : Hp) (R : V → Hp → Prop), Same H1 H → H D ≠ none → (∀ H2, Same H H2 → R (f q) H2) → te ((wipe σ vs).set i (some (it q))) H R)
    (hd : ∀ H, Same H1 H → H D = some (.lst ((ys.filter p).map f)) → Qd H) :
    ∃ W : Nat → Nat → Hp → Prop, (∃ m, W 0 m (upd H1 D (.lst []))) ∧ ∀ i' m H, W i' m H →
      ((Itl K a).stop i' H ∧ Qd H) ∨ ((Itl K a).go i' H ∧ ∃ Nx : Hp → Prop, (∀ H', Nx H' → ∃ m', m' < m ∧ W (i' + 1) m' H') ∧ ∀ x H', (Itl K a).yld i' H x H' → gName i x (wipe σ vs) H' fun σ2 H2 => wipe σ2 vs = wipe σ vs ∧ tt σ2 H2 fun b H3 =>
        if b = true then te σ2 H3 fun y H4 => ∃ acc, H4 D = some (.lst acc) ∧ acc.length < sizeLine ∧ Nx (upd H4 D (.lst (acc ++ [y]))) else Nx H3) := by
  have hlen : ∀ n, (((ys.take n).filter p).map f).length ≤ ys.length := fun n => by
    rw [List.length_map]
    exact Nat.le_trans (List.length_filter_le _ _) (by rw [List.length_take]; exact Nat.min_le_right _ _)
  refine lc_list (K := K) (a := a) (xs := ys.map it) (fun n H => Same H1 H ∧ H D = some (.lst (((ys.take n).filter p).map f))) ⟨same_upd hD, upd_same⟩ (fun n H _ h => h.1.seq hs) (fun n x H hx h => ?_) fun H h => ?_
  · obtain ⟨q, hq, rfl⟩ : ∃ q, ys[n]? = some q ∧ x = it q := by
      rw [List.getElem?_map] at hx
      cases z : ys[n]? with
      | none => rw [z] at hx; cases hx
      | some q => rw [z] at hx; exact ⟨q, rfl, (Option.some.inj hx).symm⟩
    have hm : q ∈ ys := List.mem_of_getElem? hq
    have htk : ys.take (n + 1) = ys.take n ++ [q] := by rw [List.take_add_one, hq]; rfl
    show wipe ((wipe σ vs).set i (some (it q))) vs = wipe σ vs ∧ _
    refine ⟨hw _, ht q hm H _ h.1 (by rw [h.2]; simp) fun H2 s2 => ?_⟩
    cases hp : p q with
    | true =>
      rw [if_pos rfl]
      refine he q hm H2 _ (h.1.trans s2) (by rw [s2 _ _ h.2]; simp) fun H3 s3 => ⟨_, s3 _ _ (s2 _ _ h.2), Nat.lt_of_le_of_lt (hlen n) hn, same_put ((h.1.trans s2).trans s3) hD, ?_⟩
      rw [upd_same, htk, List.filter_append, List.map_append, List.filter_cons_of_pos hp]
      rfl
    | false =>
      rw [if_neg Bool.false_ne_true]
      refine ⟨h.1.trans s2, ?_⟩
      rw [s2 _ _ h.2, htk, List.filter_append, List.map_append, List.filter_cons_of_neg (by rw [hp]; exact Bool.false_ne_true)]
      simp
  · rw [List.length_map, List.take_length] at h
    exact hd H h.1 h.2
theorem lc_fmW {α : Type} {J : It} {G : Hp → Prop} {Y : Nat → Hp → V → Hp → Prop} {D : Addr} {i : Nat} {σ : L2.St} {vs : List Nat} {H1 : Hp} {tt : TT} {te : TE} {Qd : Hp → Prop} (ep : List (Addr × α)) (p : Addr × α → Bool) (f : Addr × α → V) (hW : Walk J ep.length G Y) (hG : ∀ H, Same H1 H → G H)
    (hY : ∀ n H x H', n < ep.length → Y n H x H' → H' = H ∧ ∃ q, ep[n]? = some q ∧ x = V.ref q.1) (hD : H1 D = none) (hn : ep.length < sizeLine) (hw : ∀ v : V, wipe ((wipe σ vs).set i (some v)) vs = wipe σ vs)
    (ht : ∀ q ∈ ep, ∀ (H : Hp) (R : Bool → Hp → Prop), Same H1 H → R (p q) H → tt ((wipe σ vs).set i (some (.ref q.1))) H R) (he : ∀ q ∈ ep, ∀ (H : Hp) (R : V → Hp → Prop), Same H1 H → R (f q) H → te ((wipe σ vs).set i (some (.ref q.1))) H R)
    (hd : ∀ H, Same H1 H → H D = some (.lst ((ep.filter p).map f)) → Qd H) :
    ∃ W : Nat → Nat → Hp → Prop, (∃ m, W 0 m (upd H1 D (.lst []))) ∧ ∀ i' m H, W i' m H →
      (J.stop i' H ∧ Qd H) ∨ (J.go i' H ∧ ∃ Nx : Hp → Prop, (∀ H', Nx H' → ∃ m', m' < m ∧ W (i' + 1) m' H') ∧ ∀ x H', J.yld i' H x H' → gName i x (wipe σ vs) H' fun σ2 H2 => wipe σ2 vs = wipe σ vs ∧ tt σ2 H2 fun b H3 =>
        if b = true then te σ2 H3 fun y H4 => ∃ acc, H4 D = some (.lst acc) ∧ acc.length < sizeLine ∧ Nx (upd H4 D (.lst (acc ++ [y]))) else Nx H3) := by
  have hlen : ∀ n, (((ep.take n).filter p).map f).length ≤ ep.length := fun n => by
    rw [List.length_map]
    exact Nat.le_trans (List.length_filter_le _ _) (by rw [List.length_take]; exact Nat.min_le_right _ _)
  refine lc_it hW (fun n H => Same H1 H ∧ H D = some (.lst (((ep.take n).filter p).map f))) ⟨same_upd hD, upd_same⟩ (fun n H _ h => hG H h.1) (fun n x H H' hlt h hy => ?_) fun H h => ?_
  · obtain ⟨rfl, q, hq, rfl⟩ := hY n H x H' hlt hy
    have hm : q ∈ ep := List.mem_of_getElem? hq
    have htk : ep.take (n + 1) = ep.take n ++ [q] := by rw [List.take_add_one, hq]; rfl
    show wipe ((wipe σ vs).set i (some (.ref q.1))) vs = wipe σ vs ∧ _
    refine ⟨hw _, ht q hm _ _ h.1 ?_⟩
    cases hp : p q with
    | true =>
      rw [if_pos rfl]
      refine he q hm _ _ h.1 ⟨_, h.2, Nat.lt_of_le_of_lt (hlen n) hn, same_put h.1 hD, ?_⟩
      rw [upd_same, htk, List.filter_append, List.map_append, List.filter_cons_of_pos hp]
      rfl
    | false =>
      rw [if_neg Bool.false_ne_true]
      refine ⟨h.1, ?_⟩
      rw [h.2, htk, List.filter_append, List.map_append, List.filter_cons_of_neg (by rw [hp]; exact Bool.false_ne_true)]
      simp
  · rw [List.take_length] at h
    exact hd H h.1 h.2
/-- a thing locked for a while -/
theorem same_unlock {H H1 : Hp} {d : Addr} {u : HO} {od : Obj} (h : H d = some u) (s : Same (upd H d (.frz od u)) H1) : Same H (upd H1 d u) := fun b o e => by
  by_cases z : b = d
  · rw [z, upd_same]; rw [z, h] at e; exact e
  · rw [upd_ne z]
    exact s b o (by rw [upd_ne z]; exact e)
end Bp

set_option Elab.async false
set_option linter.all false
set_option maxRecDepth 100000
set_option maxHeartbeats 4000000
namespace Bp
open PySem PySem.Spec PyProof.Rows L2 LamX
/-! ### the text by places -/
def top (i : Nat) : Stmt := PySem.Challenge.pw_branchcaches_s01_answers.main.body.getD i (.Pass ⟨0, 0, 0, 0⟩)
abbrev sBrInit : Stmt := inClass (top 4) 0
abbrev sEnInit : Stmt := inClass (top 5) 0
abbrev sHoInit : Stmt := inClass (top 6) 0
abbrev sAnew : Stmt := inClass (top 6) 1
abbrev sHas : Stmt := inClass (top 6) 2
abbrev sLine : Stmt := inClass (top 6) 3
abbrev sShares : Stmt := inClass (top 6) 4
abbrev sMark : Stmt := inClass (top 6) 5
abbrev sAdd : Stmt := inClass (top 6) 6
abbrev sDrop : Stmt := inClass (top 6) 7
abbrev sOfBranch : Stmt := top 7
abbrev sWithout : Stmt := top 8
abbrev sSizes : Stmt := top 9
abbrev sCounted : Stmt := top 10
abbrev sBegins : Stmt := top 23
abbrev sOpens : Stmt := top 24
abbrev sCloses : Stmt := top 25
abbrev sShare : Stmt := top 26
abbrev sState : Stmt := top 27
abbrev sRdInit : Stmt := inClass (top 29) 0
abbrev sDone : Stmt := inClass (top 29) 1
abbrev sNumber : Stmt := inClass (top 29) 2
abbrev sTakeList : Stmt := inClass (top 29) 3
abbrev sTakeLists : Stmt := inClass (top 29) 4
abbrev sFdInit : Stmt := inClass (top 32) 0
abbrev sOnLine : Stmt := top 33
abbrev sAmong : Stmt := top 34
abbrev sBegun : Stmt := top 35
abbrev sIsKey : Stmt := top 38
abbrev sIsBeg : Stmt := top 39
abbrev sKeyByte : Stmt := top 40
abbrev sToGo : Stmt := top 42
abbrev sGiving : Stmt := top 43
abbrev sLeast : Stmt := top 44
abbrev sSave : Stmt := top 49
abbrev sWould : Stmt := top 50
abbrev sFind : Stmt := top 51
abbrev sPass : Stmt := top 52
abbrev sList : Stmt := top 53
abbrev sIsSize : Stmt := top 54
abbrev sTaken : Stmt := top 55
abbrev sAreBeg : Stmt := top 56
abbrev sAnswers : Stmt := top 67
abbrev sFrom : Stmt := top 68
abbrev sCall : Stmt := top 69
/-! ### the classes -/
structure Cl where
  B : Addr
  E : Addr
  H : Addr
  R : Addr
  F : Addr
abbrev nB : List Str := ["parent", "share"]
abbrev nE : List Str := ["branch", "size", "content", "key", "last_use", "last_day"]
abbrev nH : List Str := ["room", "life", "day", "uses", "branches", "entries"]
abbrev nR : List Str := ["calls", "place"]
abbrev nF : List Str := ["way", "entry"]
abbrev iN (n : Nat) : V := .int (n : Int)
abbrev brF (x : Br) : List (Str × V) := fz nB [iN x.parent, iN x.share]
abbrev enF (e : En) (ka : Addr) : List (Str × V) := fz nE [iN e.branch, iN e.size, iN e.content, .ref ka, iN (e.used + 1), iN e.day]
abbrev hoF (h : Ho) (d l : Addr) : List (Str × V) := fz nH [iN h.room, iN h.life, iN h.today, iN h.clock, .ref d, .ref l]
/-- what the top leaves: classes without those names, built-ins, constants -/
structure Txt (K : PySem.W.Frag) (mg : Str → Option Value) (c : Cl) : Prop where
  cB : Cls K c.B
  cE : Cls K c.E
  cH : Cls K c.H
  cR : Cls K c.R
  cF : Cls K c.F
  nB : ∀ f ∈ nB, NoAttr K c.B f
  nE : ∀ f ∈ nE, NoAttr K c.E f
  nH : ∀ f ∈ nH, NoAttr K c.H f
  nR : ∀ f ∈ nR, NoAttr K c.R f
  nF : ∀ f ∈ nF, NoAttr K c.F f
  len : mg "len" = none
  sum : mg "sum" = none
  all : mg "all" = none
  min : mg "min" = none
  ord : mg "ord" = none
  list : mg "list" = none
  range : mg "range" = none
  sorted : mg "sorted" = none
  enumerate : mg "enumerate" = none
theorem Txt.bP {K mg c} (T : Txt K mg c) : NoAttr K c.B "parent" := T.nB _ (by decide +kernel)
theorem Txt.bS {K mg c} (T : Txt K mg c) : NoAttr K c.B "share" := T.nB _ (by decide +kernel)
theorem Txt.eB {K mg c} (T : Txt K mg c) : NoAttr K c.E "branch" := T.nE _ (by decide +kernel)
theorem Txt.eS {K mg c} (T : Txt K mg c) : NoAttr K c.E "size" := T.nE _ (by decide +kernel)
theorem Txt.eC {K mg c} (T : Txt K mg c) : NoAttr K c.E "content" := T.nE _ (by decide +kernel)
theorem Txt.eK {K mg c} (T : Txt K mg c) : NoAttr K c.E "key" := T.nE _ (by decide +kernel)
theorem Txt.eU {K mg c} (T : Txt K mg c) : NoAttr K c.E "last_use" := T.nE _ (by decide +kernel)
theorem Txt.eD {K mg c} (T : Txt K mg c) : NoAttr K c.E "last_day" := T.nE _ (by decide +kernel)
theorem Txt.hR {K mg c} (T : Txt K mg c) : NoAttr K c.H "room" := T.nH _ (by decide +kernel)
theorem Txt.hL {K mg c} (T : Txt K mg c) : NoAttr K c.H "life" := T.nH _ (by decide +kernel)
theorem Txt.hD {K mg c} (T : Txt K mg c) : NoAttr K c.H "day" := T.nH _ (by decide +kernel)
theorem Txt.hU {K mg c} (T : Txt K mg c) : NoAttr K c.H "uses" := T.nH _ (by decide +kernel)
theorem Txt.hB {K mg c} (T : Txt K mg c) : NoAttr K c.H "branches" := T.nH _ (by decide +kernel)
theorem Txt.hE {K mg c} (T : Txt K mg c) : NoAttr K c.H "entries" := T.nH _ (by decide +kernel)
theorem Txt.rC {K mg c} (T : Txt K mg c) : NoAttr K c.R "calls" := T.nR _ (by decide +kernel)
theorem Txt.rP {K mg c} (T : Txt K mg c) : NoAttr K c.R "place" := T.nR _ (by decide +kernel)
theorem Txt.fW {K mg c} (T : Txt K mg c) : NoAttr K c.F "way" := T.nF _ (by decide +kernel)
theorem Txt.fE {K mg c} (T : Txt K mg c) : NoAttr K c.F "entry" := T.nF _ (by decide +kernel)
theorem en_branch {e : En} {ka : Addr} : (enF e ka).lookup ("branch" : Str) = some (iN e.branch) := fz_look (i := 0) (by decide +kernel) rfl
theorem en_size {e : En} {ka : Addr} : (enF e ka).lookup ("size" : Str) = some (iN e.size) := fz_look (i := 1) (by decide +kernel) rfl
theorem en_content {e : En} {ka : Addr} : (enF e ka).lookup ("content" : Str) = some (iN e.content) := fz_look (i := 2) (by decide +kernel) rfl
theorem en_key {e : En} {ka : Addr} : (enF e ka).lookup ("key" : Str) = some (.ref ka) := fz_look (i := 3) (by decide +kernel) rfl
theorem en_use {e : En} {ka : Addr} : (enF e ka).lookup ("last_use" : Str) = some (iN (e.used + 1)) := fz_look (i := 4) (by decide +kernel) rfl
theorem en_day {e : En} {ka : Addr} : (enF e ka).lookup ("last_day" : Str) = some (iN e.day) := fz_look (i := 5) (by decide +kernel) rfl
theorem br_parent {x : Br} : (brF x).lookup ("parent" : Str) = some (iN x.parent) := fz_look (i := 0) (by decide +kernel) rfl
theorem br_share {x : Br} : (brF x).lookup ("share" : Str) = some (iN x.share) := fz_look (i := 1) (by decide +kernel) rfl
theorem ho_room {h : Ho} {d l : Addr} : (hoF h d l).lookup ("room" : Str) = some (iN h.room) := fz_look (i := 0) (by decide +kernel) rfl
theorem ho_life {h : Ho} {d l : Addr} : (hoF h d l).lookup ("life" : Str) = some (iN h.life) := fz_look (i := 1) (by decide +kernel) rfl
theorem ho_day {h : Ho} {d l : Addr} : (hoF h d l).lookup ("day" : Str) = some (iN h.today) := fz_look (i := 2) (by decide +kernel) rfl
theorem ho_uses {h : Ho} {d l : Addr} : (hoF h d l).lookup ("uses" : Str) = some (iN h.clock) := fz_look (i := 3) (by decide +kernel) rfl
theorem ho_branches {h : Ho} {d l : Addr} : (hoF h d l).lookup ("branches" : Str) = some (.ref d) := fz_look (i := 4) (by decide +kernel) rfl
theorem ho_entries {h : Ho} {d l : Addr} : (hoF h d l).lookup ("entries" : Str) = some (.ref l) := fz_look (i := 5) (by decide +kernel) rfl

/-! ### lists of entries -/
def EnR (c : Cl) (H : Hp) (a : Addr) (e : En) : Prop := ∃ dx ka, H a = some (.ins c.E dx (enF e ka)) ∧ H ka = some (.lst (e.key.map iN))
theorem EnR.up {c : Cl} {H H1 : Hp} {a : Addr} {e : En} (s : Same H H1) (h : EnR c H a e) : EnR c H1 a e :=
  let ⟨dx, ka, h1, h2⟩ := h; ⟨dx, ka, s _ _ h1, s _ _ h2⟩
/-- at l a list of these entries -/
structure LstAt (c : Cl) (H : Hp) (l : Addr) (ep : List (Addr × En)) : Prop where
  lst : H l = some (.lst (ep.map fun q => V.ref q.1))
  en : ∀ q ∈ ep, EnR c H q.1 q.2
  few : ep.length ≤ 40
theorem LstAt.up {c : Cl} {H H1 : Hp} {l : Addr} {ep : List (Addr × En)} (s : Same H H1) (h : LstAt c H l ep) : LstAt c H1 l ep := ⟨s _ _ h.lst, fun q hq => (h.en q hq).up s, h.few⟩
theorem LstAt.line {c : Cl} {H : Hp} {l : Addr} {ep : List (Addr × En)} (h : LstAt c H l ep) : ep.length < sizeLine := Nat.lt_of_le_of_lt h.few (by decide)
/-! ### promises -/
def spOfBranch (c : Cl) : Sp := fun vs H Q _ => ∃ (l : Addr) (ep : List (Addr × En)) (n : Nat), vs = [.ref l, iN n] ∧ LstAt c H l ep ∧ ∀ H1 q, Same H H1 → H q = none → LstAt c H1 q (ep.filter fun x => decide (x.2.branch = n)) → Q (.ref q) H1
def spWithout (c : Cl) : Sp := fun vs H Q _ => ∃ (l g : Addr) (ep : List (Addr × En)) (e : En), vs = [.ref l, .ref g] ∧ LstAt c H l ep ∧ EnR c H g e ∧ ∀ H1 q, Same H H1 → H q = none → LstAt c H1 q (ep.filter fun x => decide (x.2.used ≠ e.used)) → Q (.ref q) H1
def spSizes (c : Cl) : Sp := fun vs H Q _ => ∃ (l : Addr) (ep : List (Addr × En)), vs = [.ref l] ∧ LstAt c H l ep ∧ ∀ H1, Same H H1 → Q (iN (Rp03.size (ep.map (·.2)))) H1
def spCounted (c : Cl) : Sp := fun vs H Q _ => ∃ (l : Addr) (ep : List (Addr × En)), vs = [.ref l] ∧ LstAt c H l ep ∧ ∀ H1 q, Same H H1 → H q = none → H1 q = some (.lst ((ep.length :: ep.map fun x => x.2.content).map iN)) → Q (.ref q) H1
section
variable {P : Program} {w : World} {K : PySem.W.Frag} {mg : Str → Option Value} {base : Heap} {c : Cl}
theorem scOfBranch : FnScope ["entries", "number", "entry"] ["entries", "number"] (defScope sOfBranch) := ⟨rfl, rfl, rfl, by decide +kernel, rfl, by decide +kernel, by decide +kernel⟩
theorem ok_ofBranch {f : Addr} {fd : FuncData} (F : Fun K "entries_of_branch" "entries_of_branch" sOfBranch f fd) (T : Txt K mg c) : FnOk P w K mg base L2.CX0 1 f fd ["entries", "number"] (spOfBranch c) := by
  refine F.ok scOfBranch (fun vs H Q E h => ?_) (fun cdv A outer s H vs Q E hr h => ?_)
  · obtain ⟨l, ep, n, rfl, _⟩ := h
    rfl
  · obtain ⟨l, ep, n, rfl, hl, k⟩ := h
    refine ⟨_, pss_one (ps_ret (pe_lc (own := [("entry", 2)]) (g := gName 2) (tt := tTest (tOp rEq (tFld K (tVar 2) "branch") (tVar 1))) rfl scOfBranch.nd (pi_list (pv 0)) (blkOk_by (N := ["entries", "number", "entry"]) (sc := defScope sOfBranch) (by decide +kernel)) (fun _ _ _ _ _ => pg_name (i := 2) scOfBranch.nd rfl (Or.inl rfl))
      (fun _ _ _ _ _ => pts_one (pt_cmpR op_eq (pe_fld (pv 2) rfl) (pv 1) (nomark _))) (fun _ _ _ _ _ => pv 2))), ?_⟩
    refine ⟨_, rfl, l, rfl, ⟨_, SqL.of hl.lst⟩, fun D hD => lc_fm ep (fun x => decide (x.2.branch = n)) (fun x => V.ref x.1) hD (SqL.of hl.lst) hl.line (fun v => rfl) (fun q hq H1 R s1 r => ?_) (fun q hq H1 R s1 r => ⟨_, rfl, r⟩) fun H1 s1 hD1 => ?_⟩
    · obtain ⟨dx, ka, h1, h2⟩ := (hl.en q hq).up s1
      refine ⟨_, rfl, q.1, c.E, dx, _, _, rfl, h1, T.cE, T.eB, en_branch, _, rfl, rfl, _, rfl, ?_⟩
      have e1 : decide (iN q.2.branch = iN n) = decide (q.2.branch = n) := by
        rw [decide_eq_decide]
        exact ⟨fun z => by injection z with z; omega, fun z => by rw [z]⟩
      rw [e1]
      exact r
    · exact k H1 D s1 hD ⟨hD1, fun q hq => (hl.en q (List.mem_filter.mp hq).1).up s1, Nat.le_trans (List.length_filter_le _ _) hl.few⟩
end
end Bp
namespace Bp
open PySem PySem.Spec PyProof.Rows L2 LamX
/-! ### the house in the heap -/
/-- what is known of the tables of code objects -/
abbrev Tb := List (Addr × Str)
def BrAt (c : Cl) (H : Hp) (a : Addr) (x : Br) : Prop := ∃ dx, H a = some (.ins c.B dx (brF x))
/-- an entry of the house: H0 has nothing of it -/
def EnAt (c : Cl) (H0 H : Hp) (a : Addr) (e : En) : Prop := H0 a = none ∧ ∃ dx ka, H0 ka = none ∧ H a = some (.ins c.E dx (enF e ka)) ∧ H ka = some (.lst (e.key.map iN))
theorem EnAt.r {c : Cl} {H0 H : Hp} {a : Addr} {e : En} (h : EnAt c H0 H a e) : EnR c H a e := let ⟨_, dx, ka, _, h1, h2⟩ := h; ⟨dx, ka, h1, h2⟩
abbrev dictOf (bp : List (Addr × Br)) : List (Key × V) := bp.map fun q => (Sum.inl (q.2.id : Int), V.ref q.1)
/-- beside H0 (all that is not the house's, kept) stands the house h at p -/
structure HAt (c : Cl) (T : Tb) (H0 H : Hp) (p : Addr) (h : Ho) (dx d l : Addr) (bp : List (Addr × Br)) (ep : List (Addr × En)) : Prop where
  same : Same H0 H
  nt : ∀ b ps, H0 b ≠ some (.tbl ps)
  tabs : Tabs T H
  good : Bc.Good h
  p0 : H0 p = none
  d0 : H0 d = none
  l0 : H0 l = none
  eb : h.branches = bp.map (·.2)
  ee : h.entries = ep.map (·.2)
  at_ : H p = some (.ins c.H dx (hoF h d l))
  dict : H d = some (.dK (dictOf bp))
  bnd : (bp.map (·.1)).Nodup
  br : ∀ q ∈ bp, H0 q.1 = none ∧ BrAt c H q.1 q.2
  lst : H l = some (.lst (ep.map fun q => V.ref q.1))
  en : ∀ q ∈ ep, EnAt c H0 H q.1 q.2
def HouseAt (c : Cl) (T : Tb) (H0 H : Hp) (p : Addr) (h : Ho) : Prop := ∃ dx d l bp ep, HAt c T H0 H p h dx d l bp ep
section
variable {c : Cl} {T : Tb} {H0 H H0' H' : Hp} {p dx d l : Addr} {h : Ho} {bp : List (Addr × Br)} {ep : List (Addr × En)}
theorem HAt.list (A : HAt c T H0 H p h dx d l bp ep) : LstAt c H l ep := ⟨A.lst, fun q hq => (A.en q hq).r, by have := A.good.ne; rw [A.ee, List.length_map] at this; exact this⟩
/-- what is not of H0 stays; H0 may be another -/
theorem HAt.frame (A : HAt c T H0 H p h dx d l bp ep) (s : Same H0' H') (nt : ∀ b ps, H0' b ≠ some (.tbl ps)) (t : Tabs T H') (k : ∀ b o, H0 b = none → (∀ ps, o ≠ .tbl ps) → H b = some o → H' b = some o ∧ H0' b = none) : HAt c T H0' H' p h dx d l bp ep := by
  have kp := k p _ A.p0 (fun _ z => by cases z) A.at_
  have kd := k d _ A.d0 (fun _ z => by cases z) A.dict
  have kl := k l _ A.l0 (fun _ z => by cases z) A.lst
  refine ⟨s, nt, t, A.good, kp.2, kd.2, kl.2, A.eb, A.ee, kp.1, kd.1, A.bnd, fun q hq => ?_, kl.1, fun q hq => ?_⟩
  · obtain ⟨h0, dx, h1⟩ := A.br q hq
    have z := k _ _ h0 (fun _ z => by cases z) h1
    exact ⟨z.2, dx, z.1⟩
  · obtain ⟨h0, dx, ka, k0, h1, h2⟩ := A.en q hq
    have z := k _ _ h0 (fun _ z => by cases z) h1
    have z2 := k _ _ k0 (fun _ z => by cases z) h2
    exact ⟨z.2, dx, ka, z2.2, z.1, z2.1⟩
theorem tabs_up {T : Tb} {H H1 : Hp} (s : Same H H1) (t : Tabs T H) : Tabs T H1 := t.ext s
/-- new things alone -/
theorem HAt.grow (A : HAt c T H0 H p h dx d l bp ep) (s : Same H H') : HAt c T H0 H' p h dx d l bp ep :=
  A.frame (A.same.trans s) A.nt (tabs_up s A.tabs) fun b o z _ e => ⟨s b o e, z⟩
theorem HAt.growN (A : HAt c T H0 H p h dx d l bp ep) (s : ExtN H H') (t : Tabs T H') : HAt c T H0 H' p h dx d l bp ep :=
  A.frame (fun b o z => s b o (A.same b o z) fun ps w => A.nt b ps (by rw [z, w])) A.nt t fun b o z n e => ⟨s b o e n, z⟩
/-- a smaller H0 -/
theorem HAt.less (A : HAt c T H0 H p h dx d l bp ep) (s : Same H0' H0) : HAt c T H0' H p h dx d l bp ep :=
  A.frame (s.trans A.same) (fun b ps z => A.nt b ps (s b _ z)) A.tabs fun b o z _ e => ⟨e, s.free z⟩
/-- a new thing that is not the house's -/
theorem HAt.beside {q : Addr} {o : HO} (A : HAt c T H0 H p h dx d l bp ep) (hq : H q = none) (nt : ∀ ps, o ≠ .tbl ps) : HAt c T (upd H0 q o) (upd H q o) p h dx d l bp ep := by
  refine A.frame (fun b u z => ?_) (fun b ps z => ?_) (tabs_up (same_upd hq) A.tabs) fun b u z _ e => ?_
  · by_cases e : b = q
    · rw [e, upd_same] at z ⊢; exact z
    · rw [upd_ne e] at z ⊢; exact A.same b u z
  · by_cases e : b = q
    · rw [e, upd_same] at z; exact nt ps (Option.some.inj z)
    · rw [upd_ne e] at z; exact A.nt b ps z
  · have n := ne_of_none e hq
    exact ⟨by rw [upd_ne n]; exact e, by rw [upd_ne n]; exact z⟩
theorem tabs_put {T : Tb} {H : Hp} {q : Addr} {o o' : HO} (t : Tabs T H) (hq : H q = some o) (n1 : ∀ ps, o ≠ .tbl ps) (n2 : ∀ f, o ≠ .ext f) : Tabs T (upd H q o') := fun y hy => by
  obtain ⟨ps, h1, h2, h3⟩ := t y hy
  refine ⟨ps, ?_, h2, fun pos cv hc => ?_⟩
  · rw [upd_ne (fun z => n1 ps (Option.some.inj (hq.symm.trans (by rw [← z]; exact h1))))]; exact h1
  · obtain ⟨a, e1, e2⟩ := h3 pos cv hc
    refine ⟨a, e1, ?_⟩
    rw [upd_ne (fun z => n2 _ (Option.some.inj (hq.symm.trans (by rw [← z]; exact e2))))]; exact e2
/-- a thing that is not the house's is written -/
theorem HAt.other {q : Addr} {o o' : HO} (A : HAt c T H0 H p h dx d l bp ep) (hq : H0 q = some o) (n1 : ∀ ps, o ≠ .tbl ps) (n2 : ∀ f, o ≠ .ext f) (n3 : ∀ ps, o' ≠ .tbl ps) : HAt c T (upd H0 q o') (upd H q o') p h dx d l bp ep := by
  refine A.frame (fun b u z => ?_) (fun b ps z => ?_) (tabs_put A.tabs (A.same _ _ hq) n1 n2) fun b u z _ e => ?_
  · by_cases e : b = q
    · rw [e, upd_same] at z ⊢; exact z
    · rw [upd_ne e] at z ⊢; exact A.same b u z
  · by_cases e : b = q
    · rw [e, upd_same] at z; exact n3 ps (Option.some.inj z)
    · rw [upd_ne e] at z; exact A.nt b ps z
  · have n : b ≠ q := fun w => by rw [w, hq] at z; cases z
    exact ⟨by rw [upd_ne n]; exact e, by rw [upd_ne n]; exact z⟩
end
end Bp

set_option Elab.async false
set_option linter.all false
set_option maxRecDepth 100000
set_option maxHeartbeats 4000000
namespace Bp
open PySem PySem.Spec PyProof.Rows L2 LamX
section
variable {P : Program} {w : World} {K : PySem.W.Frag} {mg : Str → Option Value} {base : Heap} {c : Cl}
theorem scWithout : FnScope ["entries", "gone", "entry"] ["entries", "gone"] (defScope sWithout) := ⟨rfl, rfl, rfl, by decide +kernel, rfl, by decide +kernel, by decide +kernel⟩
theorem dec_ne_use {a b : Nat} : (!decide (iN (a + 1) = iN (b + 1))) = decide (a ≠ b) := by
  rw [decide_not, decide_eq_decide.mpr (show (iN (a + 1) = iN (b + 1)) ↔ a = b from ⟨fun z => by injection z with z; omega, fun z => by rw [z]⟩)]
theorem ok_without {f : Addr} {fd : FuncData} (F : Fun K "entries_without" "entries_without" sWithout f fd) (T : Txt K mg c) : FnOk P w K mg base L2.CX0 1 f fd ["entries", "gone"] (spWithout c) := by
  refine F.ok scWithout (fun vs H Q E h => ?_) (fun cdv A outer s H vs Q E hr h => ?_)
  · obtain ⟨l, g, ep, e, rfl, _⟩ := h
    rfl
  · obtain ⟨l, g, ep, e, rfl, hl, hg, k⟩ := h
    refine ⟨_, pss_one (ps_ret (pe_lc (own := [("entry", 2)]) (g := gName 2) (tt := tTest (tOp rNe (tFld K (tVar 2) "last_use") (tFld K (tVar 1) "last_use"))) rfl scWithout.nd (pi_list (pv 0)) (blkOk_by (N := ["entries", "gone", "entry"]) (sc := defScope sWithout) (by decide +kernel))
      (fun _ _ _ _ _ => pg_name (i := 2) scWithout.nd rfl (Or.inl rfl)) (fun _ _ _ _ _ => pts_one (pt_cmpR op_ne (pe_fld (pv 2) rfl) (pe_fld (pv 1) rfl) (nomark _))) (fun _ _ _ _ _ => pv 2))), ?_⟩
    refine ⟨_, rfl, l, rfl, ⟨_, SqL.of hl.lst⟩, fun D hD => lc_fm ep (fun x => decide (x.2.used ≠ e.used)) (fun x => V.ref x.1) hD (SqL.of hl.lst) hl.line (fun v => rfl) (fun q hq H1 R s1 r => ?_) (fun q hq H1 R s1 r => ⟨_, rfl, r⟩) fun H1 s1 hD1 => ?_⟩
    · obtain ⟨dx, ka, h1, h2⟩ := (hl.en q hq).up s1
      obtain ⟨dg, kg, g1, g2⟩ := hg.up s1
      refine ⟨_, rfl, q.1, c.E, dx, _, _, rfl, h1, T.cE, T.eU, en_use, _, rfl, g, c.E, dg, _, _, rfl, g1, T.cE, T.eU, en_use, rfl, _, rfl, ?_⟩
      rw [dec_ne_use]
      exact r
    · exact k H1 D s1 hD ⟨hD1, fun q hq => (hl.en q (List.mem_filter.mp hq).1).up s1, Nat.le_trans (List.length_filter_le _ _) hl.few⟩
theorem filter_yes {α : Type} : ∀ l : List α, l.filter (fun _ => true) = l
  | [] => rfl
  | a :: l => by rw [List.filter_cons_of_pos rfl, filter_yes l]
theorem sum_cast : ∀ l : List Nat, (l.map fun n : Nat => (n : Int)).sum = ((l.sum : Nat) : Int)
  | [] => rfl
  | a :: l => by rw [List.map_cons, List.sum_cons, List.sum_cons, sum_cast l]; omega
theorem scSizes : FnScope ["entries", "entry"] ["entries"] (defScope sSizes) := ⟨rfl, rfl, rfl, by decide +kernel, rfl, by decide +kernel, by decide +kernel⟩
theorem ok_sizes {f : Addr} {fd : FuncData} (F : Fun K "sizes_together" "sizes_together" sSizes f fd) (T : Txt K mg c) : FnOk P w K mg base L2.CX0 1 f fd ["entries"] (spSizes c) := by
  refine F.ok scSizes (fun vs H Q E h => ?_) (fun cdv A outer s H vs Q E hr h => ?_)
  · obtain ⟨l, ep, rfl, _⟩ := h
    rfl
  · obtain ⟨l, ep, rfl, hl, k⟩ := h
    refine ⟨_, pss_one (ps_ret (pe_callB (cr_sum rfl) (by rfl) T.sum (by decide +kernel) (pa_cons (pe_lc (own := [("entry", 1)]) (g := gName 1) (tt := tYes) (te := tFld K (tVar 1) "size") rfl scSizes.nd (pi_list (pv 0)) (blkOk_by (N := ["entries", "entry"]) (sc := defScope sSizes) (by decide +kernel))
      (fun _ _ _ _ _ => pg_name (i := 1) scSizes.nd rfl (Or.inl rfl)) (fun _ _ _ _ _ => pts_nil) (fun _ _ _ _ _ => pe_fld (pv 1) rfl)) pa_nil))), ?_⟩
    refine ⟨_, rfl, l, rfl, ⟨_, SqL.of hl.lst⟩, fun D hD => lc_fm ep (fun _ => true) (fun x => iN x.2.size) hD (SqL.of hl.lst) hl.line (fun v => rfl) (fun q hq H1 R s1 r => r) (fun q hq H1 R s1 r => ?_) fun H1 s1 hD1 => ?_⟩
    · obtain ⟨dx, ka, h1, h2⟩ := (hl.en q hq).up s1
      exact ⟨_, rfl, q.1, c.E, dx, _, _, rfl, h1, T.cE, T.eS, en_size, r⟩
    · refine ⟨D, (ep.map fun x => x.2.size).map fun n : Nat => (n : Int), rfl, SqL.of ?_, ?_⟩
      · rw [hD1, filter_yes, List.map_map, List.map_map]
        rfl
      · rw [sum_cast]
        have e1 : Rp03.size (ep.map (·.2)) = (ep.map fun x => x.2.size).sum := by rw [Bc.size_eq, List.map_map]; rfl
        rw [← e1]
        exact k H1 s1
theorem scCounted : FnScope ["entries", "entry"] ["entries"] (defScope sCounted) := ⟨rfl, rfl, rfl, by decide +kernel, rfl, by decide +kernel, by decide +kernel⟩
theorem ok_counted {f : Addr} {fd : FuncData} (F : Fun K "counted_contents" "counted_contents" sCounted f fd) (T : Txt K mg c) : FnOk P w K mg base L2.CX0 1 f fd ["entries"] (spCounted c) := by
  refine F.ok scCounted (fun vs H Q E h => ?_) (fun cdv A outer s H vs Q E hr h => ?_)
  · obtain ⟨l, ep, rfl, _⟩ := h
    rfl
  · obtain ⟨l, ep, rfl, hl, k⟩ := h
    refine ⟨_, pss_one (ps_ret (pe_op op_cat (pe_lst (pa_cons (pe_callB call_len_seq (by rfl) T.len PySem.boot_len (pa_cons (pv 0) pa_nil)) pa_nil)) (pe_lc (own := [("entry", 1)]) (g := gName 1) (tt := tYes) (te := tFld K (tVar 1) "content") rfl scCounted.nd (pi_list (pv 0)) (blkOk_by (N := ["entries", "entry"]) (sc := defScope sCounted) (by decide +kernel))
      (fun _ _ _ _ _ => pg_name (i := 1) scCounted.nd rfl (Or.inl rfl)) (fun _ _ _ _ _ => pts_nil) (fun _ _ _ _ _ => pe_fld (pv 1) rfl)))), ?_⟩
    refine ⟨_, rfl, l, _, rfl, .inl (SqL.of hl.lst), (by show 1 ≤ sizeLine; decide), fun D0 hD0 => ?_⟩
    have s0 : Same H (upd H D0 (.lst [V.int ((ep.map fun q => V.ref q.1).length : Nat)])) := same_upd hD0
    have hl0 := hl.up s0
    refine ⟨_, rfl, l, rfl, ⟨_, SqL.of hl0.lst⟩, fun D hD => lc_fm ep (fun _ => true) (fun x => iN x.2.content) hD (SqL.of hl0.lst) hl.line (fun v => rfl) (fun q hq H1 R s1 r => r) (fun q hq H1 R s1 r => ?_) fun H1 s1 hD1 => ?_⟩
    · obtain ⟨dx, ka, h1, h2⟩ := (hl0.en q hq).up s1
      exact ⟨_, rfl, q.1, c.E, dx, _, _, rfl, h1, T.cE, T.eC, en_content, r⟩
    · rw [filter_yes] at hD1
      refine ⟨D0, D, _, _, rfl, rfl, s1 _ _ upd_same, hD1, ?_, fun q hq => ?_⟩
      · have := hl.few
        refine Nat.le_trans (?_ : _ ≤ 100) (by decide)
        simp only [List.length_map, List.length_cons, List.length_nil]
        omega
      · refine k _ q ((s0.trans s1).trans (same_upd hq)) ((s0.trans s1).free hq) ?_
        rw [upd_same, List.length_map, List.map_cons, List.map_map]
        rfl
end
end Bp

set_option Elab.async false
set_option linter.all false
set_option maxRecDepth 100000
set_option maxHeartbeats 4000000
namespace Bp
open PySem PySem.Spec PyProof.Rows L2 LamX
/-! ### promises of the makers -/
def spBrInit (c : Cl) : Sp := fun vs H Q _ => ∃ (p dx : Addr) (a s : Nat), vs = [.ref p, iN a, iN s] ∧ H p = some (.ins c.B dx []) ∧ ∀ H1 : Hp, H1 p = some (.ins c.B dx (fz nB [iN a, iN s])) → (∀ b, b ≠ p → H1 b = H b) → Q .non H1
def spEnInit (c : Cl) : Sp := fun vs H Q _ => ∃ (p dx ka : Addr) (b z t : Nat), vs = [.ref p, iN b, iN z, iN t, .ref ka] ∧ H p = some (.ins c.E dx []) ∧ ∀ H1 : Hp, H1 p = some (.ins c.E dx (fz nE [iN b, iN z, iN t, .ref ka, iN 0, iN 0])) → (∀ b, b ≠ p → H1 b = H b) → Q .non H1
/-- the fields of a house that is to be made anew: none yet, or all -/
def AnyF (fs : List (Str × V)) : Prop := fs = [] ∨ ∃ vs : List V, vs.length = 6 ∧ fs = fz nH vs
def newHo (r n s : Nat) : Ho := ⟨r, n, 0, 0, [⟨0, 0, s⟩], []⟩
structure NewAt (c : Cl) (H H1 : Hp) (p dx d l b : Addr) (r n s : Nat) : Prop where
  fd : H d = none
  fl : H l = none
  fb : H b = none
  at_ : H1 p = some (.ins c.H dx (hoF (newHo r n s) d l))
  dict : H1 d = some (.dK [(Sum.inl 0, V.ref b)])
  br : BrAt c H1 b ⟨0, 0, s⟩
  lst : H1 l = some (.lst [])
  keep : ∀ x o, H x = some o → x ≠ p → H1 x = some o
def spAnew (c : Cl) : Sp := fun vs H Q _ => ∃ (p dx : Addr) (fs : List (Str × V)) (r n s : Nat), vs = [.ref p, iN r, iN n, iN s] ∧ H p = some (.ins c.H dx fs) ∧ AnyF fs ∧ ∀ H1 d l b, NewAt c H H1 p dx d l b r n s → Q .non H1
def spHoInit (c : Cl) : Sp := fun vs H Q _ => ∃ (p dx : Addr), vs = [.ref p] ∧ H p = some (.ins c.H dx []) ∧ ∀ H1 d l b, NewAt c H H1 p dx d l b 100 7 0 → Q .non H1
section
variable {P : Program} {w : World} {K : PySem.W.Frag} {mg : Str → Option Value} {base : Heap} {c : Cl}
theorem scBrInit : FnScope ["self", "parent", "share"] ["self", "parent", "share"] (defScope sBrInit) := ⟨rfl, rfl, rfl, by decide +kernel, rfl, by decide +kernel, by decide +kernel⟩
theorem ok_brInit {f : Addr} {fd : FuncData} (F : Fun K "__init__" "Branch.__init__" sBrInit f fd) (T : Txt K mg c) : FnOk P w K mg base L2.CX0 1 f fd ["self", "parent", "share"] (spBrInit c) := by
  refine F.ok scBrInit (fun vs H Q E h => ?_) (fun cdv A outer s H vs Q E hr h => ?_)
  · obtain ⟨p, dx, a, s, rfl, _⟩ := h
    rfl
  · obtain ⟨p, dx, a, s, rfl, hp, k⟩ := h
    refine ⟨_, pss_cons (ps_fld (pv 0) (pv 1) rfl) (pss_one (ps_fld (pv 0) (pv 2) rfl)), ?_⟩
    refine ⟨_, rfl, _, rfl, p, c.B, dx, [], rfl, hp, T.cB, T.bP, (by show 0 < 1000; decide), _, rfl, _, rfl, p, c.B, dx, _, rfl, upd_same, T.cB, T.bS, (by show 1 < 1000; decide), ?_⟩
    refine k _ ?_ fun b hb => by rw [upd_ne hb, upd_ne hb]
    rw [upd_same]
    exact congrArg (fun q => some (HO.ins c.B dx q)) (fz_new (x := "share") (ns := ["parent"]) (vs := [iN a]) (by decide +kernel) rfl)
theorem scEnInit : FnScope ["self", "branch", "size", "content", "key"] ["self", "branch", "size", "content", "key"] (defScope sEnInit) := ⟨rfl, rfl, rfl, by decide +kernel, rfl, by decide +kernel, by decide +kernel⟩
theorem ok_enInit {f : Addr} {fd : FuncData} (F : Fun K "__init__" "Entry.__init__" sEnInit f fd) (T : Txt K mg c) : FnOk P w K mg base L2.CX0 1 f fd ["self", "branch", "size", "content", "key"] (spEnInit c) := by
  refine F.ok scEnInit (fun vs H Q E h => ?_) (fun cdv A outer s H vs Q E hr h => ?_)
  · obtain ⟨p, dx, ka, b, z, t, rfl, _⟩ := h
    rfl
  · obtain ⟨p, dx, ka, b, z, t, rfl, hp, k⟩ := h
    refine ⟨_, pss_cons (ps_fld (pv 0) (pv 1) rfl) (pss_cons (ps_fld (pv 0) (pv 2) rfl) (pss_cons (ps_fld (pv 0) (pv 3) rfl) (pss_cons (ps_fld (pv 0) (pv 4) rfl) (pss_cons (ps_fld (pv 0) pe_int rfl) (pss_one (ps_fld (pv 0) pe_int rfl)))))), ?_⟩
    have f1 : putF "size" (iN z) (putF "branch" (iN b) []) = fz ["branch", "size"] [iN b, iN z] := fz_new (ns := ["branch"]) (vs := [iN b]) (by decide +kernel) rfl
    have f2 : putF "content" (iN t) (fz ["branch", "size"] [iN b, iN z]) = fz ["branch", "size", "content"] [iN b, iN z, iN t] := fz_new (by decide +kernel) rfl
    have f3 : putF "key" (.ref ka) (fz ["branch", "size", "content"] [iN b, iN z, iN t]) = fz ["branch", "size", "content", "key"] [iN b, iN z, iN t, .ref ka] := fz_new (by decide +kernel) rfl
    have f4 : putF "last_use" (iN 0) (fz ["branch", "size", "content", "key"] [iN b, iN z, iN t, .ref ka]) = fz ["branch", "size", "content", "key", "last_use"] [iN b, iN z, iN t, .ref ka, iN 0] := fz_new (by decide +kernel) rfl
    have f5 : putF "last_day" (iN 0) (fz ["branch", "size", "content", "key", "last_use"] [iN b, iN z, iN t, .ref ka, iN 0]) = fz nE [iN b, iN z, iN t, .ref ka, iN 0, iN 0] := fz_new (by decide +kernel) rfl
    refine ⟨_, rfl, _, rfl, p, c.E, dx, [], rfl, hp, T.cE, T.eB, (by show 0 < 1000; decide), _, rfl, _, rfl, p, c.E, dx, _, rfl, upd_same, T.cE, T.eS, (by show 1 < 1000; decide), ?_⟩
    rw [f1]
    refine ⟨_, rfl, _, rfl, p, c.E, dx, _, rfl, upd_same, T.cE, T.eC, (by show 2 < 1000; decide), ?_⟩
    rw [f2]
    refine ⟨_, rfl, _, rfl, p, c.E, dx, _, rfl, upd_same, T.cE, T.eK, (by show 3 < 1000; decide), ?_⟩
    rw [f3]
    refine ⟨_, rfl, p, c.E, dx, _, rfl, upd_same, T.cE, T.eU, (by show 4 < 1000; decide), ?_⟩
    show _ ; rw [show putF "last_use" (V.int 0) (fz ["branch", "size", "content", "key"] [iN b, iN z, iN t, .ref ka]) = _ from f4]
    refine ⟨_, rfl, p, c.E, dx, _, rfl, upd_same, T.cE, T.eD, (by show 5 < 1000; decide), ?_⟩
    rw [show putF "last_day" (V.int 0) (fz ["branch", "size", "content", "key", "last_use"] [iN b, iN z, iN t, .ref ka, iN 0]) = _ from f5]
    exact k _ upd_same fun b hb => by rw [upd_ne hb, upd_ne hb, upd_ne hb, upd_ne hb, upd_ne hb, upd_ne hb]
theorem putF_len {x : Str} {v : V} : ∀ fs : List (Str × V), (putF x v fs).length ≤ fs.length + 1
  | [] => Nat.le_refl _
  | (y, u) :: r => by
    unfold putF
    split
    · exact Nat.le_succ _
    · rw [List.length_cons, List.length_cons]
      exact Nat.succ_le_succ (putF_len r)
theorem anyF_len {fs : List (Str × V)} (h : AnyF fs) : fs.length ≤ 6 := by
  rcases h with e | ⟨vs, e1, e2⟩
  · rw [e]; exact Nat.zero_le _
  · rw [e2, List.length_zip, e1]; decide
theorem anew_fields {fs : List (Str × V)} (h : AnyF fs) (r n y u d l : V) : putF "entries" l (putF "branches" d (putF "uses" u (putF "day" y (putF "life" n (putF "room" r fs))))) = fz nH [r, n, y, u, d, l] := by
  rcases h with e | ⟨vs, e1, e2⟩
  · have f1 : putF "life" n (putF "room" r []) = fz ["room", "life"] [r, n] := fz_new (ns := ["room"]) (vs := [r]) (by decide +kernel) rfl
    have f2 : putF "day" y (fz ["room", "life"] [r, n]) = fz ["room", "life", "day"] [r, n, y] := fz_new (by decide +kernel) rfl
    have f3 : putF "uses" u (fz ["room", "life", "day"] [r, n, y]) = fz ["room", "life", "day", "uses"] [r, n, y, u] := fz_new (by decide +kernel) rfl
    have f4 : putF "branches" d (fz ["room", "life", "day", "uses"] [r, n, y, u]) = fz ["room", "life", "day", "uses", "branches"] [r, n, y, u, d] := fz_new (by decide +kernel) rfl
    have f5 : putF "entries" l (fz ["room", "life", "day", "uses", "branches"] [r, n, y, u, d]) = fz nH [r, n, y, u, d, l] := fz_new (by decide +kernel) rfl
    rw [e, f1, f2, f3, f4, f5]
  · match vs, e1 with
    | [a1, a2, a3, a4, a5, a6], _ =>
      rw [e2, fz_put (x := "room") (i := 0) (by decide +kernel) (by show 0 < 6; decide), fz_put (x := "life") (i := 1) (by decide +kernel) (by show 1 < 6; decide), fz_put (x := "day") (i := 2) (by decide +kernel) (by show 2 < 6; decide), fz_put (x := "uses") (i := 3) (by decide +kernel) (by show 3 < 6; decide),
        fz_put (x := "branches") (i := 4) (by decide +kernel) (by show 4 < 6; decide), fz_put (x := "entries") (i := 5) (by decide +kernel) (by show 5 < 6; decide)]
      rfl
theorem scAnew : FnScope ["self", "room", "life", "share"] ["self", "room", "life", "share"] (defScope sAnew) := ⟨rfl, rfl, rfl, by decide +kernel, rfl, by decide +kernel, by decide +kernel⟩
theorem ok_anew {f : Addr} {fd : FuncData} (F : Fun K "start_anew" "House.start_anew" sAnew f fd) (T : Txt K mg c) (GB : Ms P w K mg base "Branch" c.B 1 ["self", "parent", "share"] (spBrInit c)) : FnOk P w K mg base L2.CX0 3 f fd ["self", "room", "life", "share"] (spAnew c) := by
  refine F.ok scAnew (fun vs H Q E h => ?_) (fun cdv A outer s H vs Q E hr h => ?_)
  · obtain ⟨p, dx, fs, r, n, s, rfl, _⟩ := h
    rfl
  · obtain ⟨p, dx, fs, r, n, s, rfl, hp, hf, k⟩ := h
    refine ⟨_, pss_cons (ps_fld (pv 0) (pv 1) rfl) (pss_cons (ps_fld (pv 0) (pv 2) rfl) (pss_cons (ps_fld (pv 0) pe_int rfl) (pss_cons (ps_fld (pv 0) pe_int rfl)
      (pss_cons (ps_fld (pv 0) (pe_disp (pps_cons pe_int (pe_ms GB hr (pa_cons pe_int (pa_cons (pv 3) pa_nil))) pps_nil) (by rfl) (by rfl) (fun z => by cases z) (by decide)) rfl) (pss_one (ps_fld (pv 0) (pe_lst pa_nil) rfl)))))), ?_⟩
    have n0 := anyF_len hf
    have n1 := putF_len (x := "room") (v := iN r) fs
    have n2 := putF_len (x := "life") (v := iN n) (putF "room" (iN r) fs)
    have n3 := putF_len (x := "day") (v := iN 0) (putF "life" (iN n) (putF "room" (iN r) fs))
    have n4 := putF_len (x := "uses") (v := iN 0) (putF "day" (iN 0) (putF "life" (iN n) (putF "room" (iN r) fs)))
    refine ⟨_, rfl, _, rfl, p, c.H, dx, fs, rfl, hp, T.cH, T.hR, (by omega), ?_⟩
    refine ⟨_, rfl, _, rfl, p, c.H, dx, _, rfl, upd_same, T.cH, T.hL, (by omega), ?_⟩
    refine ⟨_, rfl, p, c.H, dx, _, rfl, upd_same, T.cH, T.hD, (by omega), ?_⟩
    refine ⟨_, rfl, p, c.H, dx, _, rfl, upd_same, T.cH, T.hU, Nat.lt_of_le_of_lt n3 (by omega), ?_⟩
    have e4 : ∀ b, b ≠ p → upd (upd (upd (upd H p (.ins c.H dx (putF "room" (iN r) fs))) p (.ins c.H dx (putF "life" (iN n) (putF "room" (iN r) fs)))) p (.ins c.H dx (putF "day" (iN 0) (putF "life" (iN n) (putF "room" (iN r) fs)))))
      p (.ins c.H dx (putF "uses" (iN 0) (putF "day" (iN 0) (putF "life" (iN n) (putF "room" (iN r) fs))))) b = H b := fun b hb => by rw [upd_ne hb, upd_ne hb, upd_ne hb, upd_ne hb]
    have p4 : upd (upd (upd (upd H p (.ins c.H dx (putF "room" (iN r) fs))) p (.ins c.H dx (putF "life" (iN n) (putF "room" (iN r) fs)))) p (.ins c.H dx (putF "day" (iN 0) (putF "life" (iN n) (putF "room" (iN r) fs)))))
      p (.ins c.H dx (putF "uses" (iN 0) (putF "day" (iN 0) (putF "life" (iN n) (putF "room" (iN r) fs))))) p = some (.ins c.H dx (putF "uses" (iN 0) (putF "day" (iN 0) (putF "life" (iN n) (putF "room" (iN r) fs))))) := upd_same
    revert e4 p4
    generalize upd (upd (upd (upd H p (.ins c.H dx (putF "room" (iN r) fs))) p (.ins c.H dx (putF "life" (iN n) (putF "room" (iN r) fs)))) p (.ins c.H dx (putF "day" (iN 0) (putF "life" (iN n) (putF "room" (iN r) fs)))))
      p (.ins c.H dx (putF "uses" (iN 0) (putF "day" (iN 0) (putF "life" (iN n) (putF "room" (iN r) fs))))) = H4
    intro e4 p4
    have fr : ∀ {b : Addr}, H4 b = none → H b = none := fun {b} z => by
      by_cases e : b = p
      · rw [e, p4] at z; cases z
      · rw [← e4 b e]; exact z
    refine fun d hd => ?_
    have npd : p ≠ d := ne_of_none p4 hd
    refine ⟨_, rfl, fun x dxb nx ndx nex => ?_⟩
    have nxd : x ≠ d := fun z => by rw [z, upd_same] at nx; cases nx
    have nxp : p ≠ x := fun z => by rw [← z, upd_ne npd, p4] at nx; cases nx
    have ndxd : dxb ≠ d := fun z => by rw [z, upd_same] at ndx; cases ndx
    have ndxp : p ≠ dxb := fun z => by rw [← z, upd_ne npd, p4] at ndx; cases ndx
    have nx4 : H4 x = none := by rw [upd_ne nxd] at nx; exact nx
    have ndx4 : H4 dxb = none := by rw [upd_ne ndxd] at ndx; exact ndx
    refine ⟨x, dxb, 0, s, rfl, upd_same, fun H5 h5 k5 => ⟨rfl, ?_⟩⟩
    have k5' : ∀ b, b ≠ x → b ≠ dxb → b ≠ d → H5 b = H4 b := fun b b1 b2 b3 => by rw [k5 b b1, upd_ne b1, upd_ne b2, upd_ne b3]
    have d5 : H5 d = some (.dK []) := by rw [k5 d nxd.symm, upd_ne nxd.symm, upd_ne ndxd.symm, upd_same]
    have p5 := (k5' p nxp ndxp npd).trans p4
    refine ⟨d5, [(Sum.inl 0, V.ref x)], rfl, (by show 1 ≤ 15; decide), _, rfl, p, c.H, dx, _, rfl, (by rw [upd_ne npd]; exact p5), T.cH, T.hB, Nat.lt_of_le_of_lt n4 (by omega), ?_⟩
    refine ⟨Nat.zero_le _, fun l hl => ?_⟩
    have npl : p ≠ l := fun z => by rw [← z, upd_same] at hl; cases hl
    have ndl : d ≠ l := fun z => by rw [← z, upd_ne npd.symm, upd_same] at hl; cases hl
    have nxl : x ≠ l := fun z => by rw [← z, upd_ne nxp.symm, upd_ne nxd, h5] at hl; cases hl
    have l5 : H5 l = none := by rw [upd_ne npl.symm, upd_ne ndl.symm] at hl; exact hl
    refine ⟨_, rfl, p, c.H, dx, _, rfl, (by rw [upd_ne npl, upd_same]), T.cH, T.hE, Nat.lt_of_le_of_lt (putF_len _) (by have := Nat.le_trans n4 (Nat.succ_le_succ n3); show _ + 1 < 1000; exact Nat.lt_of_le_of_lt (Nat.succ_le_succ n4) (by omega)), ?_⟩
    have hm : H l = none := by
      cases z : H l with
      | none => rfl
      | some o =>
        have z1 : l ≠ p := npl.symm
        have z2 : H4 l = some o := by rw [e4 l z1]; exact z
        have z3 : l ≠ dxb := ne_of_none z2 ndx4
        rw [k5' l nxl.symm z3 ndl.symm, z2] at l5
        cases l5
    refine k _ d l x ⟨fr hd, hm, fr nx4, ?_, ?_, ⟨dxb, ?_⟩, ?_, fun b o z zp => ?_⟩
    · rw [upd_same]
      exact congrArg (fun q => some (HO.ins c.H dx q)) (anew_fields hf (iN r) (iN n) (iN 0) (iN 0) (.ref d) (.ref l))
    · rw [upd_ne npd.symm, upd_ne ndl, upd_ne npd.symm, upd_same]
      rfl
    · rw [upd_ne nxp.symm, upd_ne nxl, upd_ne nxp.symm, upd_ne nxd]
      exact h5
    · rw [upd_ne npl.symm, upd_same]
    · have z4 : H4 b = some o := by rw [e4 b zp]; exact z
      have z5 : b ≠ d := ne_of_none z4 hd
      have z6 : H5 b = some o := by rw [k5' b (ne_of_none z4 nx4) (ne_of_none z4 ndx4) z5]; exact z4
      rw [upd_ne zp, upd_ne (ne_of_none z6 l5), upd_ne zp, upd_ne z5]
      exact z6
theorem scHoInit : FnScope ["self"] ["self"] (defScope sHoInit) := ⟨rfl, rfl, rfl, by decide +kernel, rfl, by decide +kernel, by decide +kernel⟩
theorem ok_hoInit {f : Addr} {fd : FuncData} (F : Fun K "__init__" "House.__init__" sHoInit f fd) (T : Txt K mg c) (GA : Mt P w K mg base c.H "start_anew" 3 ["self", "room", "life", "share"] (spAnew c))
    (c1 : ∃ t, mg "FIRST_ROOM" = some (.int 100 t)) (c2 : ∃ t, mg "FIRST_LIFE" = some (.int 7 t)) (c3 : ∃ t, mg "FIRST_SHARE" = some (.int 0 t)) : FnOk P w K mg base L2.CX0 4 f fd ["self"] (spHoInit c) := by
  refine F.ok scHoInit (fun vs H Q E h => ?_) (fun cdv A outer s H vs Q E hr h => ?_)
  · obtain ⟨p, dx, rfl, _⟩ := h
    rfl
  · obtain ⟨p, dx, rfl, hp, k⟩ := h
    refine ⟨_, pss_one (ps_expr (pe_mt GA T.cH hr (pv 0) (pa_cons (pe_cst c1) (pa_cons (pe_cst c2) (pa_cons (pe_cst c3) pa_nil))))), ?_⟩
    refine ⟨_, rfl, p, dx, [], rfl, hp, rfl, p, dx, [], 100, 7, 0, rfl, hp, .inl rfl, fun H1 d l b N => k H1 d l b N⟩
end
end Bp

set_option Elab.async false
set_option linter.all false
set_option maxRecDepth 100000
set_option maxHeartbeats 4000000
namespace Bp
open PySem PySem.Spec PyProof.Rows L2 LamX
/-! ### the house's methods -/
def spHas (c : Cl) (T : Tb) : Sp := fun vs H Q _ => ∃ (H0 : Hp) (p : Addr) (h : Ho) (n : Nat), vs = [.ref p, iN n] ∧ HouseAt c T H0 H p h ∧ Q (.bl (h.has n)) H
def spShares (c : Cl) (T : Tb) : Sp := fun vs H Q _ => ∃ (H0 : Hp) (p : Addr) (h : Ho), vs = [.ref p] ∧ HouseAt c T H0 H p h ∧ ∀ H1, Same H H1 → Q (iN h.shares) H1
def spMark (c : Cl) : Sp := fun vs H Q _ => ∃ (p a dx d l de : Addr) (h : Ho) (v1 v2 v3 v4 v5 v6 : V), vs = [.ref p, .ref a] ∧ H p = some (.ins c.H dx (hoF h d l)) ∧ H a = some (.ins c.E de (fz nE [v1, v2, v3, v4, v5, v6])) ∧
  ∀ H1 : Hp, H1 p = some (.ins c.H dx (hoF { h with clock := h.clock + 1 } d l)) → H1 a = some (.ins c.E de (fz nE [v1, v2, v3, v4, iN (h.clock + 1), iN h.today])) → (∀ x, x ≠ p → x ≠ a → H1 x = H x) → Q .non H1
def withNew (h : Ho) (b z t : Nat) (k : List Nat) : Ho := { h with clock := h.clock + 1, entries := h.entries ++ [⟨b, k, z, t, h.clock, h.clock, h.today⟩] }
def spAdd (c : Cl) (T : Tb) : Sp := fun vs H Q _ => ∃ (H0 : Hp) (p dx d l a de ka : Addr) (h : Ho) (bp : List (Addr × Br)) (ep : List (Addr × En)) (b z t : Nat) (k : List Nat), vs = [.ref p, .ref a] ∧ HAt c T H0 H p h dx d l bp ep ∧ H a = some (.ins c.E de (fz nE [iN b, iN z, iN t, .ref ka, iN 0, iN 0])) ∧ H0 a = none ∧
  H ka = some (.lst (k.map iN)) ∧ H0 ka = none ∧ ka ≠ l ∧ Bc.Good (withNew h b z t k) ∧ ∀ H1 : Hp, HouseAt c T H0 H1 p (withNew h b z t k) → (∀ x o, H x = some o → x ≠ p → x ≠ a → x ≠ l → H1 x = some o) → Q .non H1
def withoutUse (h : Ho) (e : En) : Ho := { h with entries := h.entries.filter fun x => decide (x.used ≠ e.used) }
def dropped (h : Ho) (gs : List En) : Ho := { h with entries := gs.foldl (fun es g => es.filter fun e => decide (e.used ≠ g.used)) h.entries }
theorem dropped_snoc (h : Ho) (gs : List En) (e : En) : withoutUse (dropped h gs) e = dropped h (gs ++ [e]) := by
  unfold withoutUse dropped
  rw [List.foldl_append]
  rfl
def spDrop (c : Cl) (T : Tb) : Sp := fun vs H Q _ => ∃ (H0 : Hp) (p q : Addr) (h : Ho) (gp : List (Addr × En)), vs = [.ref p, .ref q] ∧ HouseAt c T H0 H p h ∧ LstAt c H q gp ∧ ∀ H1 : Hp, HouseAt c T H0 H1 p (dropped h (gp.map (·.2))) → LstAt c H1 q gp → (∀ x o, H x = some o → x ≠ p → H1 x = some o) → Q .non H1
theorem valV_dict (n : Nat) : ∀ bp : List (Addr × Br), valV (dictOf bp) (Sum.inl (n : Int)) = (bp.find? fun q => q.2.id == n).map fun q => V.ref q.1
  | [] => rfl
  | q :: r => by
    show valV ((Sum.inl (q.2.id : Int), V.ref q.1) :: dictOf r) (Sum.inl (n : Int)) = _
    by_cases e : q.2.id = n
    · rw [valV_pos (by rw [e]), List.find?_cons_of_pos (by simpa using e)]
      rfl
    · rw [valV_neg (fun z => e (by injection z with z; omega)), List.find?_cons_of_neg (by simpa using e)]
      exact valV_dict n r
theorem has_valV {h : Ho} {bp : List (Addr × Br)} (eb : h.branches = bp.map (·.2)) (n : Nat) : (valV (dictOf bp) (Sum.inl (n : Int))).isSome = h.has n := by
  rw [valV_dict, Option.isSome_map]
  unfold Rp03.House.has Rp03.House.branch
  rw [eb, List.find?_map, Option.isSome_map]
  rfl
section
variable {P : Program} {w : World} {K : PySem.W.Frag} {mg : Str → Option Value} {base : Heap} {c : Cl} {Ts : Tb}
theorem scHas : FnScope ["self", "number"] ["self", "number"] (defScope sHas) := ⟨rfl, rfl, rfl, by decide +kernel, rfl, by decide +kernel, by decide +kernel⟩
theorem ok_has {f : Addr} {fd : FuncData} (F : Fun K "has_branch" "House.has_branch" sHas f fd) (T : Txt K mg c) : FnOk P w K mg base L2.CX0 1 f fd ["self", "number"] (spHas c Ts) := by
  refine F.ok scHas (fun vs H Q E h => ?_) (fun cdv A outer s H vs Q E hr h => ?_)
  · obtain ⟨H0, p, h, n, rfl, _⟩ := h
    rfl
  · obtain ⟨H0, p, h, n, rfl, ⟨dx, d, l, bp, ep, A⟩, k⟩ := h
    refine ⟨_, pss_one (ps_ret (pe_cmp (pc_din (hu_of hr) (pv 1) (pe_fld (pv 0) rfl)) rfl)), ?_⟩
    refine ⟨_, rfl, _, rfl, p, c.H, dx, _, _, rfl, A.at_, T.cH, T.hB, ho_branches, d, _, rfl, DGet.k (k := Sum.inl (n : Int)) A.dict, ?_⟩
    rw [has_valV A.eb]
    exact k
theorem scShares : FnScope ["self", "branch"] ["self"] (defScope sShares) := ⟨rfl, rfl, rfl, by decide +kernel, rfl, by decide +kernel, by decide +kernel⟩
theorem ok_shares {f : Addr} {fd : FuncData} (F : Fun K "shares_together" "House.shares_together" sShares f fd) (T : Txt K mg c) : FnOk P w K mg base L2.CX0 1 f fd ["self"] (spShares c Ts) := by
  refine F.ok scShares (fun vs H Q E h => ?_) (fun cdv A outer s H vs Q E hr h => ?_)
  · obtain ⟨H0, p, h, rfl, _⟩ := h
    rfl
  · obtain ⟨H0, p, h, rfl, ⟨dx, d, l, bp, ep, A⟩, k⟩ := h
    refine ⟨_, pss_one (ps_ret (pe_callB (cr_sum rfl) (by rfl) T.sum (by decide +kernel) (pa_cons (pe_lock (pe_lc (own := [("branch", 1)]) (g := gName 1) (tt := tYes) (te := tFld K (tVar 1) "share") rfl scShares.nd (pi_values (pe_fld (pv 0) rfl)) (blkOk_by (N := ["self", "branch"]) (sc := defScope sShares) (by decide +kernel))
      (fun _ _ _ _ _ => pg_name (i := 1) scShares.nd rfl (Or.inl rfl)) (fun _ _ _ _ _ => pts_nil) (fun _ _ _ _ _ => pe_fld (pv 1) rfl))) pa_nil))), ?_⟩
    have npd : p ≠ d := ne_of A.at_ A.dict (by intro z; cases z)
    have few : bp.length ≤ 8 := by have := A.good.nb; rw [A.eb, List.length_map] at this; exact this
    refine ⟨d, _, A.dict, trivial, fun od => ⟨_, rfl, p, c.H, dx, _, _, rfl, (by rw [upd_ne npd]; exact A.at_), T.cH, T.hB, ho_branches, d, od, _, rfl, upd_same, fun D hD =>
      lc_fmW bp (fun _ => true) (fun x => iN x.2.share) (by have q := walk_values (d := d) (o := od) (kvs := dictOf bp); rw [List.length_map] at q; exact q) (fun H1 s1 => s1 _ _ upd_same) (fun n H1 x H2 hlt hy => ?_) hD (Nat.lt_of_le_of_lt few (by decide)) (fun v => rfl) (fun q hq H1 R s1 r => r) (fun q hq H1 R s1 r => ?_) fun H1 s1 hD1 => ?_⟩⟩
    · obtain ⟨e, k0, z⟩ := hy
      refine ⟨e, bp[n], List.getElem?_eq_getElem hlt, ?_⟩
      rw [List.getElem?_map, List.getElem?_eq_getElem hlt] at z
      exact (Prod.mk.inj (Option.some.inj z)).2.symm
    · obtain ⟨_, db, h1⟩ := A.br q hq
      have nqd : q.1 ≠ d := ne_of h1 A.dict (by intro z; cases z)
      exact ⟨_, rfl, q.1, c.B, db, _, _, rfl, s1 _ _ (by rw [upd_ne nqd]; exact h1), T.cB, T.bS, br_share, r⟩
    · refine ⟨s1 _ _ upd_same, ?_⟩
      have nDd : D ≠ d := fun z => by rw [z, upd_same] at hD; cases hD
      refine ⟨D, (bp.map fun x => x.2.share).map fun n : Nat => (n : Int), rfl, SqL.of ?_, ?_⟩
      · rw [upd_ne nDd, hD1, filter_yes, List.map_map, List.map_map]
        rfl
      · rw [sum_cast]
        have e1 : h.shares = (bp.map fun x => x.2.share).sum := by
          unfold Rp03.House.shares
          rw [Bc.sum_eq, A.eb, List.map_map]
          rfl
        rw [← e1]
        exact k _ (same_unlock A.dict s1)
theorem ne_he {vs ws : List V} (hv : vs.length = 6) : fz nH vs ≠ fz nE ws := fun z => by
  match vs, hv with
  | [a1, a2, a3, a4, a5, a6], _ =>
    have e1 : (fz nH [a1, a2, a3, a4, a5, a6]).lookup ("room" : Str) = some a1 := fz_look (i := 0) (by decide +kernel) rfl
    rw [z, fz_none (by decide +kernel)] at e1
    cases e1
theorem put_use {v1 v2 v3 v4 v5 v6 u : V} : putF "last_use" u (fz nE [v1, v2, v3, v4, v5, v6]) = fz nE [v1, v2, v3, v4, u, v6] := fz_put (i := 4) (by decide +kernel) (by show 4 < 6; decide)
theorem put_day {v1 v2 v3 v4 v5 v6 u : V} : putF "last_day" u (fz nE [v1, v2, v3, v4, v5, v6]) = fz nE [v1, v2, v3, v4, v5, u] := fz_put (i := 5) (by decide +kernel) (by show 5 < 6; decide)
theorem put_uses {h : Ho} {d l : Addr} {n : Nat} : putF "uses" (iN n) (hoF h d l) = hoF { h with clock := n } d l := fz_put (i := 3) (by decide +kernel) (by show 3 < 6; decide)
theorem put_entries {h : Ho} {d l m : Addr} {es : List En} : putF "entries" (.ref m) (hoF h d l) = hoF { h with entries := es } d m := fz_put (i := 5) (by decide +kernel) (by show 5 < 6; decide)
theorem scMark : FnScope ["self", "entry"] ["self", "entry"] (defScope sMark) := ⟨rfl, rfl, rfl, by decide +kernel, rfl, by decide +kernel, by decide +kernel⟩
theorem ok_mark {f : Addr} {fd : FuncData} (F : Fun K "mark_used" "House.mark_used" sMark f fd) (T : Txt K mg c) : FnOk P w K mg base L2.CX0 1 f fd ["self", "entry"] (spMark c) := by
  refine F.ok scMark (fun vs H Q E h => ?_) (fun cdv A outer s H vs Q E hr h => ?_)
  · obtain ⟨p, a, dx, d, l, de, h, v1, v2, v3, v4, v5, v6, rfl, _⟩ := h
    rfl
  · obtain ⟨p, a, dx, d, l, de, h, v1, v2, v3, v4, v5, v6, rfl, hp, ha, k⟩ := h
    refine ⟨_, pss_cons (ps_fldaug (pv 0) pe_int in_add) (pss_cons (ps_fld (pv 1) (pe_fld (pv 0) rfl) rfl) (pss_one (ps_fld (pv 1) (pe_fld (pv 0) rfl) rfl))), ?_⟩
    have npa : p ≠ a := fun z => by
      rw [z, ha] at hp
      injection hp with hp
      injection hp with _ _ hp
      exact ne_he rfl hp.symm
    refine ⟨_, rfl, p, c.H, dx, _, _, rfl, hp, T.cH, T.hU, ho_uses, _, _, rfl, rfl, dx, _, hp, (by show 6 < 1000; decide), ?_⟩
    have e1 : putF "uses" (V.int ((h.clock : Int) + 1)) (hoF h d l) = hoF { h with clock := h.clock + 1 } d l := put_uses (n := h.clock + 1)
    rw [e1]
    refine ⟨_, rfl, p, c.H, dx, _, _, rfl, upd_same, T.cH, T.hU, ho_uses, _, rfl, a, c.E, de, _, rfl, (by rw [upd_ne npa.symm]; exact ha), T.cE, T.eU, (by show 6 < 1000; decide), ?_⟩
    rw [put_use]
    refine ⟨_, rfl, p, c.H, dx, _, _, rfl, (by rw [upd_ne npa, upd_same]), T.cH, T.hD, ho_day, _, rfl, a, c.E, de, _, rfl, upd_same, T.cE, T.eD, (by show 6 < 1000; decide), ?_⟩
    rw [put_day]
    exact k _ (by rw [upd_ne npa, upd_ne npa, upd_same]) upd_same fun x x1 x2 => by rw [upd_ne x2, upd_ne x2, upd_ne x1]
theorem good_filter {h : Ho} {p : En → Bool} (g : Bc.Good h) : Bc.Good { h with entries := h.entries.filter p } := Bc.good_pass (d := 0) g
theorem scDrop : FnScope ["self", "going", "gone"] ["self", "going"] (defScope sDrop) := ⟨rfl, rfl, rfl, by decide +kernel, rfl, by decide +kernel, by decide +kernel⟩
theorem tabs_but {T : Tb} {H H1 : Hp} {p C dx : Addr} {fs : List (Str × V)} (t : Tabs T H) (hp : H p = some (.ins C dx fs)) (k : ∀ x o, H x = some o → x ≠ p → H1 x = some o) : Tabs T H1 := fun y hy => by
  obtain ⟨ps, h1, h2, h3⟩ := t y hy
  refine ⟨ps, k _ _ h1 (fun z => by rw [z, hp] at h1; cases h1), h2, fun pos cv hc => ?_⟩
  obtain ⟨a, e1, e2⟩ := h3 pos cv hc
  exact ⟨a, e1, k _ _ e2 (fun z => by rw [z, hp] at e2; unfold CodeO at e2; cases e2)⟩
section
variable {H0 H : Hp} {p dx d l : Addr} {h : Ho} {bp : List (Addr × Br)} {ep : List (Addr × En)}
theorem HAt.bp_ne (A : HAt c Ts H0 H p h dx d l bp ep) : ∀ q ∈ bp, q.1 ≠ p := fun q hq z => by
  obtain ⟨_, db, y1⟩ := A.br q hq
  rw [z, A.at_] at y1
  injection y1 with y1
  injection y1 with _ _ y1
  have e1 : (hoF h d l).lookup ("room" : Str) = some (iN h.room) := ho_room
  rw [y1, fz_none (by decide +kernel)] at e1
  cases e1
theorem HAt.ep_ne (A : HAt c Ts H0 H p h dx d l bp ep) : ∀ q ∈ ep, q.1 ≠ p := fun q hq z => by
  obtain ⟨_, de, ka, _, y1, _⟩ := A.en q hq
  rw [z, A.at_] at y1
  injection y1 with y1
  injection y1 with _ _ y1
  exact ne_he rfl y1
theorem key_ne {k : List Nat} (hk : Rp03.isKey k = true) {as : List Addr} : k.map iN ≠ as.map V.ref := fun z => by
  cases k with
  | nil => cases hk
  | cons n r =>
    cases as with
    | nil => cases z
    | cons a as =>
      rw [List.map_cons, List.map_cons] at z
      injection z with z _
      cases z
theorem HAt.ka_ne (A : HAt c Ts H0 H p h dx d l bp ep) {q : Addr × En} (hq : q ∈ ep) {ka : Addr} (hk : H ka = some (.lst (q.2.key.map iN))) : ka ≠ l := fun z => by
  rw [z, A.lst] at hk
  injection hk with hk
  injection hk with hk
  have e1 : q.2 ∈ h.entries := by rw [A.ee]; exact List.mem_map.mpr ⟨q, hq, rfl⟩
  exact key_ne (as := ep.map (·.1)) (A.good.kok _ e1) (by rw [← hk, List.map_map]; rfl)
/-- the house's own object written: other entries (of those that were), another list -/
theorem HAt.put (A : HAt c Ts H0 H p h dx d l bp ep) {h1 : Ho} {l1 : Addr} {ep1 : List (Addr × En)} (g : Bc.Good h1) (eb : h1.branches = h.branches) (ee : h1.entries = ep1.map (·.2)) (l0 : H0 l1 = none) (lst : H l1 = some (.lst (ep1.map fun q => V.ref q.1))) (en : ∀ q ∈ ep1, q ∈ ep) :
    HAt c Ts H0 (upd H p (.ins c.H dx (hoF h1 d l1))) p h1 dx d l1 bp ep1 := by
  have kp : ∀ x o, H x = some o → x ≠ p → upd H p (.ins c.H dx (hoF h1 d l1)) x = some o := fun x o z z1 => by rw [upd_ne z1]; exact z
  refine ⟨fun b o z => kp b o (A.same b o z) (fun w => by rw [w, A.p0] at z; cases z), A.nt, tabs_but A.tabs A.at_ kp, g, A.p0, A.d0, l0, eb.trans A.eb, ee, upd_same, kp _ _ A.dict (ne_of A.dict A.at_ (by intro z; cases z)), A.bnd, fun y hy => ?_, kp _ _ lst (ne_of lst A.at_ (by intro z; cases z)), fun y hy => ?_⟩
  · obtain ⟨y0, db, y1⟩ := A.br y hy
    exact ⟨y0, db, kp _ _ y1 (A.bp_ne y hy)⟩
  · obtain ⟨y0, de, ka, ka0, y1, y2⟩ := A.en y (en y hy)
    exact ⟨y0, de, ka, ka0, kp _ _ y1 (A.ep_ne y (en y hy)), kp _ _ y2 (ne_of y2 A.at_ (by intro z; cases z))⟩
end
theorem LstAt.but {c : Cl} {H H1 : Hp} {l p C dx : Addr} {fs : List (Str × V)} {ep : List (Addr × En)} (h : LstAt c H l ep) (hp : H p = some (.ins C dx fs)) (ne : ∀ q ∈ ep, q.1 ≠ p) (k : ∀ x o, H x = some o → x ≠ p → H1 x = some o) : LstAt c H1 l ep :=
  ⟨k _ _ h.lst (ne_of h.lst hp (by intro z; cases z)), fun q hq => by
    obtain ⟨de, ka, h1, h2⟩ := h.en q hq
    exact ⟨de, ka, k _ _ h1 (ne q hq), k _ _ h2 (ne_of h2 hp (by intro z; cases z))⟩, h.few⟩
theorem lst_ne {c : Cl} {T : Tb} {H0 H : Hp} {p l : Addr} {h : Ho} {ep : List (Addr × En)} (A : HouseAt c T H0 H p h) (L : LstAt c H l ep) : ∀ q ∈ ep, q.1 ≠ p := fun q hq z => by
  obtain ⟨dx, d, l', bp, eh, A⟩ := A
  obtain ⟨de, ka, h1, h2⟩ := L.en q hq
  rw [z, A.at_] at h1
  injection h1 with h1
  injection h1 with _ _ h1
  exact ne_he rfl h1
theorem ok_drop {f : Addr} {fd : FuncData} (F : Fun K "drop_entries" "House.drop_entries" sDrop f fd) (T : Txt K mg c) (GW : Fn P w K mg base "entries_without" 1 ["entries", "gone"] (spWithout c)) : FnOk P w K mg base L2.CX0 2 f fd ["self", "going"] (spDrop c Ts) := by
  refine F.ok scDrop (fun vs H Q E h => ?_) (fun cdv A outer s H vs Q E hr h => ?_)
  · obtain ⟨H0, p, q, h, gp, rfl, _⟩ := h
    rfl
  · obtain ⟨H0, p, q, h, gp, rfl, AA, L, k⟩ := h
    refine ⟨_, pss_one (ps_for PassesOwn.never rfl (pi_list (pv 1)) (pg_name (i := 2) scDrop.nd rfl (Or.inl rfl)) (pss_one (ps_fld (pv 0) (pe_fn GW hr (pa_cons (pe_fld (pv 0) rfl) (pa_cons (pv 2) pa_nil))) rfl))), ?_⟩
    refine ⟨_, rfl, q, rfl, ⟨_, SqL.of L.lst⟩, for_list (K := K) (a := q) (xs := gp.map fun y => V.ref y.1) (fun i σ H1 => ∃ v2 : Option V, σ = [some (.ref p), some (.ref q), v2] ∧ HouseAt c Ts H0 H1 p (dropped h ((gp.take i).map (·.2))) ∧ LstAt c H1 q gp ∧ ∀ x o, H x = some o → x ≠ p → H1 x = some o)
      ⟨none, rfl, AA, L, fun _ _ e _ => e⟩ (fun i σ H1 _ ⟨_, _, _, L, _⟩ => SqL.of L.lst) ?_ ?_⟩
    · rintro i y σ H1 hi ⟨v2, rfl, AA1, L1, k1⟩
      obtain ⟨y, hy, rfl⟩ : ∃ x, gp[i]? = some x ∧ y = V.ref x.1 := by
        rw [List.getElem?_map] at hi
        cases e : gp[i]? with
        | none => rw [e] at hi; cases hi
        | some x => rw [e] at hi; exact ⟨x, rfl, (Option.some.inj hi).symm⟩
      have htk : (gp.take (i + 1)).map (·.2) = (gp.take i).map (·.2) ++ [y.2] := by rw [List.take_add_one, hy, List.map_append]; rfl
      obtain ⟨dx, d, l, bp, ep, A⟩ := id AA1
      refine ⟨_, rfl, p, c.H, dx, _, _, rfl, A.at_, T.cH, T.hE, ho_entries, _, rfl, l, y.1, ep, y.2, rfl, A.list, L1.en y (List.mem_of_getElem? hy), fun H2 q2 s2 hq2 hl2 => ?_⟩
      have A2 := A.grow s2
      refine ⟨_, rfl, p, c.H, dx, _, rfl, A2.at_, T.cH, T.hE, (by show 6 < 1000; decide), ?_⟩
      rw [put_entries (es := (dropped h ((gp.take i).map (·.2))).entries.filter fun x => decide (x.used ≠ y.2.used))]
      have A3 := A2.put (h1 := withoutUse (dropped h ((gp.take i).map (·.2))) y.2) (l1 := q2) (ep1 := ep.filter fun x => decide (x.2.used ≠ y.2.used)) (good_filter A.good) rfl (by
        show (dropped h ((gp.take i).map (·.2))).entries.filter _ = _
        rw [A.ee, List.filter_map]
        rfl) (A.same.free hq2) hl2.lst (fun x hx => (List.mem_filter.mp hx).1)
      have kp : ∀ x o, H1 x = some o → x ≠ p → upd H2 p (.ins c.H dx (hoF (withoutUse (dropped h ((gp.take i).map (·.2))) y.2) d q2)) x = some o := fun x o z z1 => by rw [upd_ne z1]; exact s2 x o z
      refine ⟨_, rfl, ?_, L1.but A.at_ (lst_ne AA1 L1) kp, fun x o e z => kp x o (k1 x o e z) z⟩
      rw [htk, ← dropped_snoc]
      exact ⟨dx, d, q2, bp, _, A3⟩
    · rintro σ H1 ⟨v2, rfl, AA1, L1, k1⟩
      rw [List.length_map, List.take_length] at AA1
      exact k H1 AA1 L1 k1
theorem ho_no {h : Ho} {d l : Addr} {m : Str} (q : ixOf m nH = none) : (hoF h d l).lookup m = none := fz_none q
theorem scAdd : FnScope ["self", "entry"] ["self", "entry"] (defScope sAdd) := ⟨rfl, rfl, rfl, by decide +kernel, rfl, by decide +kernel, by decide +kernel⟩
theorem ok_add {f : Addr} {fd : FuncData} (F : Fun K "add_entry" "House.add_entry" sAdd f fd) (T : Txt K mg c) (GM : Mt P w K mg base c.H "mark_used" 1 ["self", "entry"] (spMark c)) : FnOk P w K mg base L2.CX0 2 f fd ["self", "entry"] (spAdd c Ts) := by
  refine F.ok scAdd (fun vs H Q E h => ?_) (fun cdv A outer s H vs Q E hr h => ?_)
  · obtain ⟨H0, p, dx, d, l, a, de, ka, h, bp, ep, b, z, t, k, rfl, _⟩ := h
    rfl
  · obtain ⟨H0, p, dx, d, l, a, de, ka, h, bp, ep, b, z, t, k, rfl, A, ha, a0, hka, ka0, nkl, g, kk⟩ := h
    refine ⟨_, pss_cons (ps_expr (pe_mt GM T.cH hr (pv 0) (pa_cons (pv 1) pa_nil))) (pss_one (ps_expr (pe_bm PySem.F.plainAttrs_list PySem.F.slot_list_append PySem.F.type_list_append mt_append (pe_fld (pv 0) rfl) (pa_cons (pv 1) pa_nil)))), ?_⟩
    have npa : p ≠ a := fun w => by
      have := A.at_
      rw [w, ha] at this
      injection this with this
      injection this with _ _ this
      exact ne_he rfl this.symm
    refine ⟨_, rfl, p, dx, _, rfl, A.at_, ho_no (by decide +kernel), _, rfl, p, a, dx, d, l, de, h, _, _, _, _, _, _, rfl, A.at_, ha, fun H1 p1 a1 k1 => ?_⟩
    have npl : p ≠ l := ne_of A.at_ A.lst (by intro w; cases w)
    have nal : a ≠ l := ne_of ha A.lst (by intro w; cases w)
    have l1 : H1 l = some (.lst (ep.map fun q => V.ref q.1)) := by rw [k1 l npl.symm nal.symm]; exact A.lst
    refine ⟨_, rfl, p, c.H, dx, _, _, rfl, p1, T.cH, T.hE, ho_entries, .inl ⟨rfl, _, SqL.of l1⟩, _, rfl, l, _, _, rfl, rfl, l1, (by rw [List.length_map]; exact A.list.line), ?_⟩
    have kp : ∀ x o, H x = some o → x ≠ p → x ≠ a → x ≠ l → upd H1 l (.lst ((ep.map fun q => V.ref q.1) ++ [.ref a])) x = some o := fun x o e x1 x2 x3 => by rw [upd_ne x3, k1 x x1 x2]; exact e
    have n0 : ∀ x o, H0 x = some o → x ≠ p ∧ x ≠ a ∧ x ≠ l := fun x o e => ⟨fun w => (by rw [w, A.p0] at e; cases e), fun w => (by rw [w, a0] at e; cases e), fun w => (by rw [w, A.l0] at e; cases e)⟩
    refine kk _ ⟨dx, d, l, bp, ep ++ [(a, ⟨b, k, z, t, h.clock, h.clock, h.today⟩)], fun x o e => kp x o (A.same x o e) (n0 x o e).1 (n0 x o e).2.1 (n0 x o e).2.2, A.nt, fun y hy => ?_, g, A.p0, A.d0, A.l0, A.eb, ?_, (by rw [upd_ne npl]; exact p1),
      kp _ _ A.dict (ne_of A.dict A.at_ (by intro w; cases w)) (ne_of A.dict ha (by intro w; cases w)) (ne_of A.dict A.lst (by intro w; cases w)), A.bnd, fun y hy => ?_, (by rw [upd_same, List.map_append]; rfl), fun y hy => ?_⟩ kp
    · obtain ⟨ps, h1, h2, h3⟩ := A.tabs y hy
      refine ⟨ps, kp _ _ h1 (ne_of h1 A.at_ (by intro w; cases w)) (ne_of h1 ha (by intro w; cases w)) (ne_of h1 A.lst (by intro w; cases w)), h2, fun pos cv hc => ?_⟩
      obtain ⟨x, e1, e2⟩ := h3 pos cv hc
      exact ⟨x, e1, kp _ _ e2 (ne_of e2 A.at_ (by intro w; unfold CodeO at w; cases w)) (ne_of e2 ha (by intro w; unfold CodeO at w; cases w)) (ne_of e2 A.lst (by intro w; unfold CodeO at w; cases w))⟩
    · show h.entries ++ [_] = _
      rw [A.ee, List.map_append]
      rfl
    · obtain ⟨y0, db, y1⟩ := A.br y hy
      refine ⟨y0, db, kp _ _ y1 (A.bp_ne y hy) (fun w => ?_) (ne_of y1 A.lst (by intro w; cases w))⟩
      rw [w, ha] at y1
      injection y1 with y1
      injection y1 with _ _ y1
      have e1 : (brF y.2).lookup ("parent" : Str) = some (iN y.2.parent) := br_parent
      rw [← y1, fz_none (by decide +kernel)] at e1
      cases e1
    · rcases List.mem_append.mp hy with hy | hy
      · obtain ⟨y0, dy, ky, ky0, y1, y2⟩ := A.en y hy
        refine ⟨y0, dy, ky, ky0, kp _ _ y1 (A.ep_ne y hy) (fun w => ?_) (ne_of y1 A.lst (by intro w; cases w)), kp _ _ y2 (ne_of y2 A.at_ (by intro w; cases w)) (ne_of y2 ha (by intro w; cases w)) (A.ka_ne hy y2)⟩
        rw [w, ha] at y1
        injection y1 with y1
        injection y1 with _ _ y1
        have e1 : (enF y.2 ky).lookup ("last_use" : Str) = some (iN (y.2.used + 1)) := en_use
        rw [← y1, show (fz nE [iN b, iN z, iN t, V.ref ka, iN 0, iN 0]).lookup ("last_use" : Str) = some (iN 0) from fz_look (i := 4) (by decide +kernel) rfl] at e1
        injection e1 with e1
        injection e1 with e1
        omega
      · rw [List.mem_singleton.mp hy]
        refine ⟨a0, de, ka, ka0, (by rw [upd_ne nal]; exact a1), ?_⟩
        rw [upd_ne nkl, k1 ka (ne_of hka A.at_ (by intro w; cases w)) (ne_of hka ha (by intro w; cases w))]
        exact hka
end
end Bp

set_option Elab.async false
set_option linter.all false
set_option maxRecDepth 100000
set_option maxHeartbeats 4000000
namespace Bp
open PySem PySem.Spec PyProof.Rows L2 LamX
/-! ### the reader -/
abbrev rdF (a : Addr) (n : Nat) : List (Str × V) := fz nR [.ref a, iN n]
theorem rd_calls {a : Addr} {n : Nat} : (rdF a n).lookup ("calls" : Str) = some (.ref a) := fz_look (i := 0) (by decide +kernel) rfl
theorem rd_place {a : Addr} {n : Nat} : (rdF a n).lookup ("place" : Str) = some (iN n) := fz_look (i := 1) (by decide +kernel) rfl
theorem rd_no {a : Addr} {n : Nat} {m : Str} (q : ixOf m nR = none) : (rdF a n).lookup m = none := fz_none q
theorem rd_put {a : Addr} {n m : Nat} : putF "place" (iN m) (rdF a n) = rdF a m := fz_put (i := 1) (by decide +kernel) (by show 1 < 2; decide)
theorem sq_but {K : PySem.W.Frag} {H H1 : Hp} {a r C dx : Addr} {xs : List V} {fs : List (Str × V)} (q : SqL K H a xs) (hr : H r = some (.ins C dx fs)) (k : ∀ b o, H b = some o → b ≠ r → H1 b = some o) : SqL K H1 a xs := by
  rcases q with (h | ⟨o, h⟩) | h
  · exact .inl (.inl (k _ _ h (ne_of h hr (by intro z; cases z))))
  · exact .inl (.inr ⟨o, k _ _ h (ne_of h hr (by intro z; cases z))⟩)
  · exact .inr h
def spRdInit (c : Cl) : Sp := fun vs H Q _ => ∃ (p dx a : Addr), vs = [.ref p, .ref a] ∧ H p = some (.ins c.R dx []) ∧ ∀ H1 : Hp, H1 p = some (.ins c.R dx (rdF a 0)) → (∀ b, b ≠ p → H1 b = H b) → Q .non H1
def spDone (c : Cl) (K : PySem.W.Frag) : Sp := fun vs H Q _ => ∃ (r dx a : Addr) (n : Nat) (ns : List Int), vs = [.ref r] ∧ H r = some (.ins c.R dx (rdF a n)) ∧ SqL K H a (ns.map V.int) ∧ Q (.bl (decide (ns.length ≤ n))) H
def spNumber (c : Cl) (K : PySem.W.Frag) : Sp := fun vs H Q _ => ∃ (r dx a : Addr) (n : Nat) (ns : List Int) (z : Int), vs = [.ref r] ∧ H r = some (.ins c.R dx (rdF a n)) ∧ SqL K H a (ns.map V.int) ∧ ns[n]? = some z ∧ Q (.int z) (upd H r (.ins c.R dx (rdF a (n + 1))))
def spTakeList (c : Cl) (K : PySem.W.Frag) : Sp := fun vs H Q _ => ∃ (r dx a : Addr) (n : Nat) (ns xs rest : List Int), vs = [.ref r] ∧ H r = some (.ins c.R dx (rdF a n)) ∧ SqL K H a (ns.map V.int) ∧ ns.drop n = (xs.length : Int) :: (xs ++ rest) ∧
  ∀ H1 q, H1 r = some (.ins c.R dx (rdF a (n + 1 + xs.length))) → H q = none → H1 q = some (.lst (xs.map V.int)) → (∀ b o, H b = some o → b ≠ r → H1 b = some o) → Q (.ref q) H1
/-- at q a new list of new lists, these the rows -/
structure RowsAt (H H1 : Hp) (q : Addr) (qs : List (Addr × List Int)) : Prop where
  new : H q = none
  lst : H1 q = some (.lst (qs.map fun y => V.ref y.1))
  row : ∀ y ∈ qs, H y.1 = none ∧ y.1 ≠ q ∧ H1 y.1 = some (.lst (y.2.map V.int))
def spTakeLists (c : Cl) (K : PySem.W.Frag) : Sp := fun vs H Q _ => ∃ (r dx a : Addr) (n : Nat) (ns rest : List Int) (xs : List (List Int)), vs = [.ref r] ∧ H r = some (.ins c.R dx (rdF a n)) ∧ SqL K H a (ns.map V.int) ∧ xs.length ≤ 100 ∧ ns.drop n = (xs.length : Int) :: (PyFlat.putRows xs ++ rest) ∧
  ∀ H1 q qs, H1 r = some (.ins c.R dx (rdF a (n + 1 + (PyFlat.putRows xs).length))) → RowsAt H H1 q qs → qs.map (·.2) = xs → (∀ b o, H b = some o → b ≠ r → H1 b = some o) → Q (.ref q) H1
theorem drop_at {ns r : List Int} {n : Nat} {z : Int} (h : ns.drop n = z :: r) : ns[n]? = some z ∧ ns.drop (n + 1) = r := by
  refine ⟨?_, ?_⟩
  · have e : (ns.drop n)[0]? = some z := by rw [h]; rfl
    rw [List.getElem?_drop] at e
    exact e
  · rw [← List.drop_drop, h]
    rfl
section
variable {P : Program} {w : World} {K : PySem.W.Frag} {mg : Str → Option Value} {base : Heap} {c : Cl} {Ts : Tb}
theorem scRdInit : FnScope ["self", "calls"] ["self", "calls"] (defScope sRdInit) := ⟨rfl, rfl, rfl, by decide +kernel, rfl, by decide +kernel, by decide +kernel⟩
theorem ok_rdInit {f : Addr} {fd : FuncData} (F : Fun K "__init__" "Reader.__init__" sRdInit f fd) (T : Txt K mg c) : FnOk P w K mg base L2.CX0 1 f fd ["self", "calls"] (spRdInit c) := by
  refine F.ok scRdInit (fun vs H Q E h => ?_) (fun cdv A outer s H vs Q E hr h => ?_)
  · obtain ⟨p, dx, a, rfl, _⟩ := h
    rfl
  · obtain ⟨p, dx, a, rfl, hp, k⟩ := h
    refine ⟨_, pss_cons (ps_fld (pv 0) (pv 1) rfl) (pss_one (ps_fld (pv 0) pe_int rfl)), ?_⟩
    refine ⟨_, rfl, _, rfl, p, c.R, dx, [], rfl, hp, T.cR, T.rC, (by show 0 < 1000; decide), _, rfl, p, c.R, dx, _, rfl, upd_same, T.cR, T.rP, (by show 1 < 1000; decide), ?_⟩
    refine k _ ?_ fun b hb => by rw [upd_ne hb, upd_ne hb]
    rw [upd_same]
    exact congrArg (fun q => some (HO.ins c.R dx q)) (fz_new (x := "place") (v := iN 0) (ns := ["calls"]) (vs := [.ref a]) (by decide +kernel) rfl)
theorem scDone : FnScope ["self"] ["self"] (defScope sDone) := ⟨rfl, rfl, rfl, by decide +kernel, rfl, by decide +kernel, by decide +kernel⟩
theorem ok_done {f : Addr} {fd : FuncData} (F : Fun K "is_done" "Reader.is_done" sDone f fd) (T : Txt K mg c) : FnOk P w K mg base L2.CX0 1 f fd ["self"] (spDone c K) := by
  refine F.ok scDone (fun vs H Q E h => ?_) (fun cdv A outer s H vs Q E hr h => ?_)
  · obtain ⟨r, dx, a, n, ns, rfl, _⟩ := h
    rfl
  · obtain ⟨r, dx, a, n, ns, rfl, hr0, hs, k⟩ := h
    refine ⟨_, pss_one (ps_ret (pe_cmpR op_ge (pe_fld (pv 0) rfl) (pe_callB call_len_seq (by rfl) T.len PySem.boot_len (pa_cons (pe_fld (pv 0) rfl) pa_nil)) (nomark _))), ?_⟩
    refine ⟨_, rfl, r, c.R, dx, _, _, rfl, hr0, T.cR, T.rP, rd_place, _, rfl, r, c.R, dx, _, _, rfl, hr0, T.cR, T.rC, rd_calls, a, _, rfl, .inl hs, _, _, rfl, rfl, ?_⟩
    have e : decide ((((ns.map V.int).length : Nat) : Int) ≤ (n : Int)) = decide (ns.length ≤ n) := by
      rw [List.length_map, decide_eq_decide]
      omega
    show Q (V.bl (decide ((((ns.map V.int).length : Nat) : Int) ≤ (n : Int)))) H
    rw [e]
    exact k
theorem scNumber : FnScope ["self", "number"] ["self"] (defScope sNumber) := ⟨rfl, rfl, rfl, by decide +kernel, rfl, by decide +kernel, by decide +kernel⟩
theorem ok_number {f : Addr} {fd : FuncData} (F : Fun K "take_number" "Reader.take_number" sNumber f fd) (T : Txt K mg c) : FnOk P w K mg base L2.CX0 1 f fd ["self"] (spNumber c K) := by
  refine F.ok scNumber (fun vs H Q E h => ?_) (fun cdv A outer s H vs Q E hr h => ?_)
  · obtain ⟨r, dx, a, n, ns, z, rfl, _⟩ := h
    rfl
  · obtain ⟨r, dx, a, n, ns, z, rfl, hr0, hs, hz, k⟩ := h
    refine ⟨_, pss_cons (ps_set (i := 1) scNumber.nd rfl (Or.inl rfl) (pe_ix ix_list (pe_fld (pv 0) rfl) (pe_fld (pv 0) rfl) (fun _ _ => rfl))) (pss_cons (ps_fldaug (pv 0) pe_int in_add) (pss_one (ps_ret (pv 1)))), ?_⟩
    refine ⟨_, rfl, r, c.R, dx, _, _, rfl, hr0, T.cR, T.rC, rd_calls, _, rfl, r, c.R, dx, _, _, rfl, hr0, T.cR, T.rP, rd_place, a, _, _, _, rfl, rfl, hs, atI_nat (j := n) (v := V.int z) (by rw [List.getElem?_map, hz]; rfl), ?_⟩
    refine ⟨_, rfl, r, c.R, dx, _, _, rfl, hr0, T.cR, T.rP, rd_place, _, _, rfl, rfl, dx, _, hr0, (by show 2 < 1000; decide), ?_⟩
    rw [show putF "place" (V.int ((n : Int) + 1)) (rdF a n) = rdF a (n + 1) from rd_put (m := n + 1)]
    exact ⟨_, rfl, k⟩
theorem scTakeList : FnScope ["self", "length", "begin"] ["self"] (defScope sTakeList) := ⟨rfl, rfl, rfl, by decide +kernel, rfl, by decide +kernel, by decide +kernel⟩
theorem cut_ints {ns xs rest : List Int} {n : Nat} (h : ns.drop n = xs ++ rest) : cutV (ns.map V.int) (some (n : Int)) (some ((n : Int) + (xs.length : Int))) = xs.map V.int := by
  have e2 : (n : Int) + (xs.length : Int) = ((n + xs.length : Nat) : Int) := by omega
  unfold cutV
  rw [e2, HT.sIx_nat, HT.sIx_nat, List.length_map]
  by_cases e : n ≤ ns.length
  · have hl := congrArg List.length h
    rw [List.length_drop, List.length_append] at hl
    rw [Nat.min_eq_left e, Nat.min_eq_left (by omega), Nat.add_sub_cancel_left, ← List.map_drop, h, ← List.map_take, List.take_left' rfl]
  · rw [List.drop_of_length_le (by omega)] at h
    have e3 := (List.append_eq_nil_iff.mp h.symm).1
    rw [e3]
    simp
theorem ok_takeList {f : Addr} {fd : FuncData} (F : Fun K "take_list" "Reader.take_list" sTakeList f fd) (T : Txt K mg c) (GN : Mt P w K mg base c.R "take_number" 1 ["self"] (spNumber c K)) : FnOk P w K mg base L2.CX0 2 f fd ["self"] (spTakeList c K) := by
  refine F.ok scTakeList (fun vs H Q E h => ?_) (fun cdv A outer s H vs Q E hr h => ?_)
  · obtain ⟨r, dx, a, n, ns, xs, rest, rfl, _⟩ := h
    rfl
  · obtain ⟨r, dx, a, n, ns, xs, rest, rfl, hr0, hs, hd, k⟩ := h
    obtain ⟨hz, hd1⟩ := drop_at hd
    refine ⟨_, pss_cons (ps_set (i := 1) scTakeList.nd rfl (Or.inl rfl) (pe_mt0 GN T.cR hr (pv 0))) (pss_cons (ps_set (i := 2) scTakeList.nd rfl (Or.inl rfl) (pe_fld (pv 0) rfl)) (pss_cons (ps_fldaug (pv 0) (pv 1) in_add)
      (pss_one (ps_ret (pe_slice sl_list (pe_fld (pv 0) rfl) (po_some (pv 2)) (po_some (pe_op op_add (pv 2) (pv 1)))))))), ?_⟩
    refine ⟨_, rfl, r, dx, _, rfl, hr0, rd_no (by decide +kernel), r, dx, a, n, ns, _, rfl, hr0, hs, hz, ?_⟩
    refine ⟨_, rfl, r, c.R, dx, _, _, rfl, upd_same, T.cR, T.rP, rd_place, ?_⟩
    refine ⟨_, rfl, r, c.R, dx, _, _, rfl, upd_same, T.cR, T.rP, rd_place, _, rfl, _, _, rfl, rfl, dx, _, upd_same, (by show 2 < 1000; decide), ?_⟩
    rw [show putF "place" (V.int (((n + 1 : Nat) : Int) + (xs.length : Int))) (rdF a (n + 1)) = rdF a (n + 1 + xs.length) from rd_put (m := n + 1 + xs.length)]
    have s1 : SqL K (upd (upd H r (.ins c.R dx (rdF a (n + 1)))) r (.ins c.R dx (rdF a (n + 1 + xs.length)))) a (ns.map V.int) := sq_but hs hr0 fun b o e z => by rw [upd_ne z, upd_ne z]; exact e
    refine ⟨_, rfl, r, c.R, dx, _, _, rfl, upd_same, T.cR, T.rC, rd_calls, _, rfl, _, rfl, _, rfl, _, rfl, _, _, rfl, rfl, _, rfl, a, _, rfl, s1, fun q hq => ?_⟩
    have nqr : r ≠ q := fun z => by rw [← z, upd_same] at hq; cases hq
    refine k _ q (by rw [upd_ne nqr, upd_same]) ?_ ?_ fun b o e z => ?_
    · rw [upd_ne nqr.symm, upd_ne nqr.symm] at hq
      exact hq
    · rw [upd_same]
      exact congrArg (fun y => some (HO.lst y)) (cut_ints (n := n + 1) hd1)
    · have nbq : b ≠ q := fun w => by
        rw [w] at e z
        rw [upd_ne z, upd_ne z, e] at hq
        cases hq
      rw [upd_ne nbq, upd_ne z, upd_ne z]
      exact e
theorem rows_snoc (x : List Int) : ∀ xs : List (List Int), PyFlat.putRows (xs ++ [x]) = PyFlat.putRows xs ++ PyFlat.putRow x
  | [] => by
    show PyFlat.putRow x ++ PyFlat.putRows [] = [] ++ PyFlat.putRow x
    rw [show PyFlat.putRows [] = [] from rfl]; simp
  | y :: r => by
    show PyFlat.putRow y ++ PyFlat.putRows (r ++ [x]) = (PyFlat.putRow y ++ PyFlat.putRows r) ++ PyFlat.putRow x
    rw [rows_snoc x r, List.append_assoc]
theorem rows_append : ∀ xs ys : List (List Int), PyFlat.putRows (xs ++ ys) = PyFlat.putRows xs ++ PyFlat.putRows ys
  | [], ys => rfl
  | y :: r, ys => by
    show PyFlat.putRow y ++ PyFlat.putRows (r ++ ys) = (PyFlat.putRow y ++ PyFlat.putRows r) ++ PyFlat.putRows ys
    rw [rows_append r ys, List.append_assoc]
theorem scTakeLists : FnScope ["self", "lists", "turn"] ["self"] (defScope sTakeLists) := ⟨rfl, rfl, rfl, by decide +kernel, rfl, by decide +kernel, by decide +kernel⟩
theorem ok_takeLists {f : Addr} {fd : FuncData} (F : Fun K "take_lists" "Reader.take_lists" sTakeLists f fd) (T : Txt K mg c) (GN : Mt P w K mg base c.R "take_number" 1 ["self"] (spNumber c K)) (GL : Mt P w K mg base c.R "take_list" 2 ["self"] (spTakeList c K)) :
    FnOk P w K mg base L2.CX0 3 f fd ["self"] (spTakeLists c K) := by
  refine F.ok scTakeLists (fun vs H Q E h => ?_) (fun cdv A outer s H vs Q E hr h => ?_)
  · obtain ⟨r, dx, a, n, ns, rest, xs, rfl, _⟩ := h
    rfl
  · obtain ⟨r, dx, a, n, ns, rest, xs, rfl, hr0, hs, hlen, hd, k⟩ := h
    obtain ⟨hz, hd1⟩ := drop_at hd
    refine ⟨_, pss_cons (ps_set (i := 1) scTakeLists.nd rfl (Or.inl rfl) (pe_lst pa_nil)) (pss_cons (ps_for PassesOwn.never rfl (pi_range1 rfl T.range (pa_cons (pe_mt0 GN T.cR hr (pv 0)) pa_nil)) (pg_name (i := 2) scTakeLists.nd rfl (Or.inl rfl))
      (pss_one (ps_expr (pe_bm PySem.F.plainAttrs_list PySem.F.slot_list_append PySem.F.type_list_append mt_append (pv 1) (pa_cons (pe_mt0 GL T.cR hr (pv 0)) pa_nil))))) (pss_one (ps_ret (pv 1)))), ?_⟩
    refine ⟨Nat.zero_le _, fun q hq => ?_⟩
    have nrq : r ≠ q := ne_of_none hr0 hq
    refine ⟨_, rfl, r, dx, _, rfl, (by rw [upd_ne nrq]; exact hr0), rd_no (by decide +kernel), r, dx, a, n, ns, _, rfl, (by rw [upd_ne nrq]; exact hr0), (same_upd hq).seq hs, hz, ?_⟩
    refine ⟨(xs.length : Int), rfl, by omega, by omega, ?_⟩
    refine for_range (lo := 0) (n := ((xs.length : Int)).toNat) (fun i σ H1 => ∃ (qs : List (Addr × List Int)) (v : Option V), σ = [some (.ref r), some (.ref q), v] ∧ H1 r = some (.ins c.R dx (rdF a (n + 1 + (PyFlat.putRows (xs.take i)).length))) ∧ RowsAt H H1 q qs ∧ qs.map (·.2) = xs.take i ∧ ∀ b o, H b = some o → b ≠ r → H1 b = some o)
      ⟨[], none, rfl, upd_same, ⟨hq, by rw [upd_ne nrq.symm, upd_same]; rfl, fun y hy => by cases hy⟩, rfl, fun b o e z => by rw [upd_ne z, upd_ne (ne_of_none e hq)]; exact e⟩ ?_ ?_
    · rintro i σ H1 hi ⟨qs, v, rfl, h1, R, em, fr⟩
      rw [Int.toNat_natCast] at hi
      obtain ⟨x, hx⟩ : ∃ x, xs[i]? = some x := ⟨_, List.getElem?_eq_getElem hi⟩
      have htk : xs.take (i + 1) = xs.take i ++ [x] := by rw [List.take_add_one, hx]; rfl
      have hdr : xs.drop i = x :: xs.drop (i + 1) := by rw [List.drop_eq_getElem_cons hi]; rw [List.getElem?_eq_getElem hi] at hx; rw [Option.some.inj hx]
      have hat : ns.drop (n + 1 + (PyFlat.putRows (xs.take i)).length) = (x.length : Int) :: (x ++ (PyFlat.putRows (xs.drop (i + 1)) ++ rest)) := by
        rw [← List.drop_drop, hd1]
        have e1 : PyFlat.putRows xs = PyFlat.putRows (xs.take i) ++ PyFlat.putRows (xs.drop i) := by rw [← rows_append, List.take_append_drop]
        rw [e1, List.append_assoc, List.drop_left' rfl, hdr]
        show (PyFlat.putRow x ++ PyFlat.putRows (xs.drop (i + 1))) ++ rest = _
        rw [List.append_assoc]
        rfl
      have qlen : qs.length = i := by
        have := congrArg List.length em
        rw [List.length_map, List.length_take] at this
        omega
      refine ⟨_, rfl, .inl ⟨rfl, _, SqL.of R.lst⟩, _, rfl, r, dx, _, rfl, h1, rd_no (by decide +kernel), r, dx, a, _, ns, x, _, rfl, h1, sq_but hs hr0 fr, hat, fun H2 q2 g1 g2 g3 g4 => ?_⟩
      have R2 : H2 q = some (.lst (qs.map fun y => V.ref y.1)) := g4 _ _ R.lst nrq.symm
      refine ⟨q, _, _, rfl, rfl, R2, (by rw [List.length_map, qlen]; exact Nat.lt_of_lt_of_le hi (Nat.le_trans hlen (by decide))), ?_⟩
      have nrq2 : r ≠ q2 := ne_of_none h1 g2
      have nqq2 : q2 ≠ q := fun z => by rw [z, R.lst] at g2; cases g2
      have q20 : H q2 = none := by
        cases z : H q2 with
        | none => rfl
        | some o => rw [fr q2 o z nrq2.symm] at g2; cases g2
      refine ⟨qs ++ [(q2, x)], _, rfl, ?_, ⟨R.new, by rw [upd_same, List.map_append]; rfl, fun y hy => ?_⟩, by rw [List.map_append, em, htk]; rfl, fun b o e z => ?_⟩
      · rw [upd_ne nrq, g1, htk, rows_snoc, List.length_append]
        show some (HO.ins c.R dx (rdF a (n + 1 + (PyFlat.putRows (xs.take i)).length + 1 + x.length))) = some (HO.ins c.R dx (rdF a (n + 1 + ((PyFlat.putRows (xs.take i)).length + (x.length + 1)))))
        rw [show n + 1 + (PyFlat.putRows (xs.take i)).length + 1 + x.length = n + 1 + ((PyFlat.putRows (xs.take i)).length + (x.length + 1)) by omega]
      · rcases List.mem_append.mp hy with hy | hy
        · obtain ⟨y0, y1, y2⟩ := R.row y hy
          exact ⟨y0, y1, by rw [upd_ne y1]; exact g4 _ _ y2 (fun z => by rw [z, h1] at y2; cases y2)⟩
        · rw [List.mem_singleton.mp hy]
          exact ⟨q20, nqq2, by rw [upd_ne nqq2]; exact g3⟩
      · rw [upd_ne (ne_of_none e R.new)]
        exact g4 b o (fr b o e z) z
    · rintro σ H1 ⟨qs, v, rfl, h1, R, em, fr⟩
      rw [Int.toNat_natCast, List.take_length] at h1 em
      exact ⟨_, rfl, k H1 q qs h1 R em fr⟩
end
end Bp

set_option Elab.async false
set_option linter.all false
set_option maxRecDepth 100000
set_option maxHeartbeats 4000000
namespace Bp
open PySem PySem.Spec PyProof.Rows L2 LamX
/-! ### what is a key -/
def keyByte (n : Nat) : Bool := (decide (97 ≤ n) && decide (n ≤ 122)) || ((decide (48 ≤ n) && decide (n ≤ 57)) || (n == 45 || (n == 46 || n == 47)))
def spKeyByte : Sp := fun vs H Q _ => ∃ n : Nat, vs = [iN n] ∧ Q (.bl (keyByte n)) H
def spBeg (K : PySem.W.Frag) : Sp := fun vs H Q _ => ∃ (a : Addr) (ns : List Nat), vs = [.ref a] ∧ SqL K H a (ns.map iN) ∧ ns.length ≤ 1000 ∧ ∀ H1, Same H H1 → Q (.bl (Rp03.letters ns)) H1
def spAreBeg (K : PySem.W.Frag) : Sp := fun vs H Q _ => ∃ (a : Addr) (qs : List (Addr × List Nat)), vs = [.ref a] ∧ SqL K H a (qs.map fun y => V.ref y.1) ∧ (∀ y ∈ qs, SqL K H y.1 (y.2.map iN) ∧ y.2.length ≤ 1000) ∧ qs.length ≤ 1000 ∧ ∀ H1, Same H H1 → Q (.bl (decide (qs.length ≤ 4) && (qs.map (·.2)).all Rp03.letters)) H1
def spIsKey (K : PySem.W.Frag) : Sp := fun vs H Q _ => ∃ (a : Addr) (ns : List Nat), vs = [.ref a] ∧ SqL K H a (ns.map iN) ∧ ns.length ≤ 1000 ∧ ∀ H1, Same H H1 → Q (.bl (Rp03.isKey ns)) H1
theorem keyByte_is (n : Nat) : keyByte n = (if 45 ≤ n ∧ n ≤ 57 then true else decide (97 ≤ n ∧ n ≤ 122)) := by
  unfold keyByte
  rw [Bool.eq_iff_iff]
  by_cases h : 45 ≤ n ∧ n ≤ 57
  · rw [if_pos h]
    simp
    omega
  · rw [if_neg h]
    simp
    omega
section
variable {P : Program} {w : World} {K : PySem.W.Frag} {mg : Str → Option Value} {base : Heap} {c : Cl} {Ts : Tb}
theorem scKeyByte : FnScope ["byte"] ["byte"] (defScope sKeyByte) := ⟨rfl, rfl, rfl, by decide +kernel, rfl, by decide +kernel, by decide +kernel⟩
theorem ord_hy : (("-" : Str).cps.getD 0 0) = 45 := by decide +kernel
theorem ord_9 : (("9" : Str).cps.getD 0 0) = 57 := by decide +kernel
theorem ord_a : (("a" : Str).cps.getD 0 0) = 97 := by decide +kernel
theorem ord_z : (("z" : Str).cps.getD 0 0) = 122 := by decide +kernel
theorem dec_nn {a b : Nat} : decide ((a : Int) ≤ (b : Int)) = decide (a ≤ b) := by rw [decide_eq_decide]; omega
theorem ok_keyByte {f : Addr} {fd : FuncData} (F : Fun K "is_key_byte" "is_key_byte" sKeyByte f fd) (T : Txt K mg c) : FnOk P w K mg base L2.CX0 1 f fd ["byte"] spKeyByte := by
  refine F.ok scKeyByte (fun vs H Q E h => ?_) (fun cdv A outer s H vs Q E hr h => ?_)
  · obtain ⟨n, rfl, _⟩ := h
    rfl
  · obtain ⟨n, rfl, k⟩ := h
    refine ⟨_, pss_one (ps_ret (pe_or (pe_chain op_le op_le (pe_callB call_ord (by rfl) T.ord (by decide +kernel) (pa_cons pe_str pa_nil)) (pv 0) (pe_callB call_ord (by rfl) T.ord (by decide +kernel) (pa_cons pe_str pa_nil)))
      (pe_one (pe_chain op_le op_le (pe_callB call_ord (by rfl) T.ord (by decide +kernel) (pa_cons pe_str pa_nil)) (pv 0) (pe_callB call_ord (by rfl) T.ord (by decide +kernel) (pa_cons pe_str pa_nil)))))), ?_⟩
    rw [keyByte_is] at k
    refine ⟨_, rfl, (by decide +kernel), _, rfl, _, _, rfl, rfl, _, rfl, ?_⟩
    have last : ∀ b : Bool, b = false → (45 ≤ n ∧ n ≤ 57 → False) → True := fun _ _ _ => trivial
    rw [ord_hy, dec_nn]
    by_cases h1 : 45 ≤ n
    · rw [if_pos (decide_eq_true h1)]
      refine ⟨_, rfl, (by decide +kernel), _, _, rfl, rfl, _, rfl, ?_⟩
      rw [ord_9, dec_nn]
      by_cases h2 : n ≤ 57
      · rw [if_pos (decide_eq_true h2)]
        rw [if_pos ⟨h1, h2⟩] at k
        exact k
      · rw [if_neg (by simpa using h2)]
        rw [if_neg (fun z => h2 z.2)] at k
        refine ⟨_, rfl, (by decide +kernel), _, rfl, _, _, rfl, rfl, _, rfl, ?_⟩
        rw [ord_a, dec_nn]
        by_cases h3 : 97 ≤ n
        · rw [if_pos (decide_eq_true h3)]
          refine ⟨_, rfl, (by decide +kernel), _, _, rfl, rfl, ?_⟩
          show Q (V.bl (decide ((n : Int) ≤ ((("z" : Str).cps.getD 0 0 : Nat) : Int)))) H
          rw [ord_z, dec_nn, show decide (n ≤ 122) = decide (97 ≤ n ∧ n ≤ 122) by rw [decide_eq_decide]; omega]
          exact k
        · rw [if_neg (by simpa using h3)]
          rw [show decide (97 ≤ n ∧ n ≤ 122) = false by rw [decide_eq_false_iff_not]; omega] at k
          exact k
    · rw [if_neg (by simpa using h1)]
      rw [if_neg (fun z => h1 z.1), show decide (97 ≤ n ∧ n ≤ 122) = false by rw [decide_eq_false_iff_not]; omega] at k
      refine ⟨_, rfl, ?_⟩
      rw [if_neg Bool.false_ne_true]
      refine ⟨_, rfl, (by decide +kernel), _, rfl, _, _, rfl, rfl, _, rfl, ?_⟩
      rw [ord_a, dec_nn, if_neg (by simp; omega)]
      exact k
theorem letters_is (ns : List Nat) : Rp03.letters ns = (decide (ns.length ≤ 24) && ns.all keyByte) := rfl
theorem scIsBeg : FnScope ["row", "byte"] ["row"] (defScope sIsBeg) := ⟨rfl, rfl, rfl, by decide +kernel, rfl, by decide +kernel, by decide +kernel⟩
theorem ok_isBeg {f : Addr} {fd : FuncData} (F : Fun K "is_beginning" "is_beginning" sIsBeg f fd) (T : Txt K mg c) (GB : Fn P w K mg base "is_key_byte" 1 ["byte"] spKeyByte) (c1 : ∃ t, mg "LONGEST_KEY" = some (.int 24 t)) : FnOk P w K mg base L2.CX0 2 f fd ["row"] (spBeg K) := by
  refine F.ok scIsBeg (fun vs H Q E h => ?_) (fun cdv A outer s H vs Q E hr h => ?_)
  · obtain ⟨a, ns, rfl, _⟩ := h
    rfl
  · obtain ⟨a, ns, rfl, hs, hl, k⟩ := h
    refine ⟨_, pss_one (ps_ret (pe_and (pe_cmpR op_le (pe_callB call_len_seq (by rfl) T.len PySem.boot_len (pa_cons (pv 0) pa_nil)) (pe_cst c1) (nomark _)) (pe_one (pe_callB (cr_all rfl) (by rfl) T.all (by decide +kernel) (pa_cons (pe_lc (own := [("byte", 1)]) (g := gName 1) (tt := tYes) (te := tCall spKeyByte [] E0 (tCons (tVar 1) tNil)) rfl scIsBeg.nd (pi_list (pv 0)) (blkOk_by (N := ["row", "byte"]) (sc := defScope sIsBeg) (by decide +kernel))
      (fun _ _ _ _ _ => pg_name (i := 1) scIsBeg.nd rfl (Or.inl rfl)) (fun _ _ _ _ _ => pts_nil) (fun _ _ _ _ _ => pe_fn GB hr (pa_cons (pv 1) pa_nil))) pa_nil))))), ?_⟩
    rw [letters_is] at k
    refine ⟨_, rfl, a, _, rfl, .inl hs, _, _, rfl, rfl, _, rfl, ?_⟩
    refine ite2 (fun e => ?_) (fun e => ?_)
    · have e' : ns.length ≤ 24 := by
        have w : (((ns.map iN).length : Nat) : Int) ≤ (24 : Int) := of_decide_eq_true e
        rw [List.length_map] at w
        omega
      rw [decide_eq_true e', Bool.true_and] at k
      refine ⟨_, rfl, a, rfl, ⟨_, hs⟩, fun D hD => lc_fmG ns iN (fun _ => true) (fun n => V.bl (keyByte n)) hD hs (Nat.lt_of_le_of_lt hl (by decide)) (fun v => rfl) (fun q hq H1 R s1 _ r => r H1 (Same.refl _)) (fun q hq H1 R s1 _ r => ⟨_, rfl, q, rfl, r H1 (Same.refl _)⟩) fun H1 s1 hD1 => ?_⟩
      refine ⟨D, ns.map keyByte, rfl, SqL.of ?_, ?_⟩
      · rw [hD1, filter_yes, List.map_map]
        rfl
      · rw [List.all_map]
        exact k H1 s1
    · have e' : ¬ ns.length ≤ 24 := fun w => e (decide_eq_true (by
        show (((ns.map iN).length : Nat) : Int) ≤ (24 : Int)
        rw [List.length_map]
        omega))
      rw [decide_eq_false e', Bool.false_and] at k
      exact k H (Same.refl _)
theorem scIsKey : FnScope ["row"] ["row"] (defScope sIsKey) := ⟨rfl, rfl, rfl, by decide +kernel, rfl, by decide +kernel, by decide +kernel⟩
theorem isKey_is (ns : List Nat) : Rp03.isKey ns = (decide (0 < ns.length) && Rp03.letters ns) := by
  unfold Rp03.isKey
  cases ns with
  | nil => rfl
  | cons n r => rw [decide_eq_true (show 0 < (n :: r).length from Nat.zero_lt_succ _)]; rfl
theorem ok_isKey {f : Addr} {fd : FuncData} (F : Fun K "is_key" "is_key" sIsKey f fd) (T : Txt K mg c) (GB : Fn P w K mg base "is_beginning" 2 ["row"] (spBeg K)) : FnOk P w K mg base L2.CX0 3 f fd ["row"] (spIsKey K) := by
  refine F.ok scIsKey (fun vs H Q E h => ?_) (fun cdv A outer s H vs Q E hr h => ?_)
  · obtain ⟨a, ns, rfl, _⟩ := h
    rfl
  · obtain ⟨a, ns, rfl, hs, hl, k⟩ := h
    refine ⟨_, pss_one (ps_ret (pe_and (pe_cmpR op_gt (pe_callB call_len_seq (by rfl) T.len PySem.boot_len (pa_cons (pv 0) pa_nil)) pe_int (nomark _)) (pe_one (pe_fn GB hr (pa_cons (pv 0) pa_nil))))), ?_⟩
    rw [isKey_is] at k
    refine ⟨_, rfl, a, _, rfl, .inl hs, _, _, rfl, rfl, _, rfl, ?_⟩
    refine ite2 (fun e => ?_) (fun e => ?_)
    · have e' : 0 < ns.length := by
        have w : (0 : Int) < (((ns.map iN).length : Nat) : Int) := of_decide_eq_true e
        rw [List.length_map] at w
        omega
      rw [decide_eq_true e', Bool.true_and] at k
      exact ⟨_, rfl, a, ns, rfl, hs, hl, k⟩
    · have e' : ¬ 0 < ns.length := fun w => e (decide_eq_true (by
        show (0 : Int) < (((ns.map iN).length : Nat) : Int)
        rw [List.length_map]
        omega))
      rw [decide_eq_false e', Bool.false_and] at k
      exact k H (Same.refl _)
theorem scAreBeg : FnScope ["rows", "row"] ["rows"] (defScope sAreBeg) := ⟨rfl, rfl, rfl, by decide +kernel, rfl, by decide +kernel, by decide +kernel⟩
theorem ok_areBeg {f : Addr} {fd : FuncData} (F : Fun K "are_beginnings" "are_beginnings" sAreBeg f fd) (T : Txt K mg c) (GB : Fn P w K mg base "is_beginning" 2 ["row"] (spBeg K)) (c1 : ∃ t, mg "MOST_BEGINNINGS" = some (.int 4 t)) : FnOk P w K mg base L2.CX0 3 f fd ["rows"] (spAreBeg K) := by
  refine F.ok scAreBeg (fun vs H Q E h => ?_) (fun cdv A outer s H vs Q E hr h => ?_)
  · obtain ⟨a, qs, rfl, _⟩ := h
    rfl
  · obtain ⟨a, qs, rfl, hs, hrow, hl, k⟩ := h
    refine ⟨_, pss_one (ps_ret (pe_and (pe_cmpR op_le (pe_callB call_len_seq (by rfl) T.len PySem.boot_len (pa_cons (pv 0) pa_nil)) (pe_cst c1) (nomark _)) (pe_one (pe_callB (cr_all rfl) (by rfl) T.all (by decide +kernel) (pa_cons (pe_lc (own := [("row", 1)]) (g := gName 1) (tt := tYes) (te := tCall (spBeg K) [] E0 (tCons (tVar 1) tNil)) rfl scAreBeg.nd (pi_list (pv 0)) (blkOk_by (N := ["rows", "row"]) (sc := defScope sAreBeg) (by decide +kernel))
      (fun _ _ _ _ _ => pg_name (i := 1) scAreBeg.nd rfl (Or.inl rfl)) (fun _ _ _ _ _ => pts_nil) (fun _ _ _ _ _ => pe_fn GB hr (pa_cons (pv 1) pa_nil))) pa_nil))))), ?_⟩
    refine ⟨_, rfl, a, _, rfl, .inl hs, _, _, rfl, rfl, _, rfl, ?_⟩
    refine ite2 (fun e => ?_) (fun e => ?_)
    · have e' : qs.length ≤ 4 := by
        have w : (((qs.map fun y => V.ref y.1).length : Nat) : Int) ≤ (4 : Int) := of_decide_eq_true e
        rw [List.length_map] at w
        omega
      rw [decide_eq_true e', Bool.true_and] at k
      refine ⟨_, rfl, a, rfl, ⟨_, hs⟩, fun D hD => lc_fmG qs (fun y => V.ref y.1) (fun _ => true) (fun y => V.bl (Rp03.letters y.2)) hD hs (Nat.lt_of_le_of_lt hl (by decide)) (fun v => rfl) (fun q hq H1 R s1 _ r => r H1 (Same.refl _)) (fun q hq H1 R s1 _ r => ⟨_, rfl, q.1, q.2, rfl, s1.seq (hrow q hq).1, (hrow q hq).2, fun H2 s2 => r H2 s2⟩) fun H1 s1 hD1 => ?_⟩
      refine ⟨D, (qs.map (·.2)).map Rp03.letters, rfl, SqL.of ?_, ?_⟩
      · rw [hD1, filter_yes, List.map_map, List.map_map]
        rfl
      · rw [List.all_map]
        exact k H1 s1
    · have e' : ¬ qs.length ≤ 4 := fun w => e (decide_eq_true (by
        show (((qs.map fun y => V.ref y.1).length : Nat) : Int) ≤ (4 : Int)
        rw [List.length_map]
        omega))
      rw [decide_eq_false e', Bool.false_and] at k
      exact k H (Same.refl _)
end
end Bp

set_option Elab.async false
set_option linter.all false
set_option maxRecDepth 100000
set_option maxHeartbeats 4000000
namespace Bp
open PySem PySem.Spec PyProof.Rows L2 LamX
/-! ### a key that is taken -/
def pk (k : List Nat) : PyData := .list (k.map fun n : Nat => .int (n : Int))
theorem ints_can : ∀ k : List Nat, PyData.canLayAll0 (k.map fun n : Nat => PyData.int (n : Int)) = true
  | [] => rfl
  | n :: k => by
    rw [List.map_cons]
    simp only [PyData.canLayAll0, PyData.canLay0, Bool.true_and]
    exact ints_can k
theorem ints_depth : ∀ k : List Nat, PyData.depthAll (k.map fun n : Nat => PyData.int (n : Int)) = 0
  | [] => rfl
  | n :: k => by
    rw [List.map_cons]
    simp only [PyData.depthAll, PyData.depth]
    rw [ints_depth k]
    rfl
theorem pk_can (k : List Nat) : (pk k).canLay0 = true := by unfold pk; simp only [PyData.canLay0]; exact ints_can k
theorem pk_depth (k : List Nat) : (pk k).depth = 1 := by unfold pk; simp only [PyData.depth]; rw [ints_depth]
theorem pks_can : ∀ l : List (List Nat), PyData.canLayAll0 (l.map pk) = true
  | [] => rfl
  | k :: l => by
    rw [List.map_cons]
    simp only [PyData.canLayAll0]
    rw [pk_can, pks_can l]
    rfl
theorem pks_depth : ∀ l : List (List Nat), PyData.depthAll (l.map pk) ≤ 1
  | [] => Nat.zero_le _
  | k :: l => by
    rw [List.map_cons]
    simp only [PyData.depthAll]
    have := pks_depth l
    rw [pk_depth]
    omega
theorem pk_shaped (k : List Nat) : SeqAt.shaped (pk k) = true := by
  unfold SeqAt.shaped
  rw [pk_can, pk_depth]
  rfl
theorem pks_shaped (l : List (List Nat)) : SeqAt.shaped (.list (l.map pk)) = true := by
  unfold SeqAt.shaped
  have h1 : (PyData.list (l.map pk)).canLay0 = true := by simp only [PyData.canLay0]; exact pks_can l
  have h2 : (PyData.list (l.map pk)).depth ≤ 64 := by simp only [PyData.depth]; have := pks_depth l; omega
  rw [h1, decide_eq_true h2]
  rfl
theorem ints_eqv : ∀ k j : List Nat, PyData.eqvAll (k.map fun n : Nat => PyData.int (n : Int)) (j.map fun n : Nat => PyData.int (n : Int)) = (k == j)
  | [], [] => by simp [PyData.eqvAll]
  | [], _ :: _ => by simp [PyData.eqvAll]
  | _ :: _, [] => by simp [PyData.eqvAll]
  | a :: k, b :: j => by
    rw [List.map_cons, List.map_cons, List.cons_beq_cons]
    simp only [PyData.eqvAll, PyData.eqv]
    rw [ints_eqv k j, show ((a : Int) == (b : Int)) = (a == b) by rw [Bool.eq_iff_iff]; simp only [beq_iff_eq]; omega]
theorem pk_eqv (k j : List Nat) : PyData.eqv (pk k) (pk j) = (k == j) := by unfold pk; simp only [PyData.eqv]; exact ints_eqv k j
theorem dp_ints {K : PySem.W.Frag} {H : Hp} : ∀ k : List Nat, DpAll K H (k.map iN) (k.map fun n : Nat => PyData.int (n : Int))
  | [] => .nil
  | n :: k => .cons (.int _) (dp_ints k)
theorem dp_pk {K : PySem.W.Frag} {H : Hp} {a : Addr} {k : List Nat} (h : SqL K H a (k.map iN)) : Dp K H (.ref a) (pk k) := .lst h (dp_ints k)
theorem dp_pks {K : PySem.W.Frag} {H : Hp} : ∀ l : List (Addr × List Nat), (∀ q ∈ l, H q.1 = some (.lst (q.2.map iN))) → DpAll K H (l.map fun q => V.ref q.1) ((l.map (·.2)).map pk)
  | [], _ => .nil
  | q :: l, h => .cons (dp_pk (SqL.of (h q (List.mem_cons_self ..)))) (dp_pks l fun y hy => h y (List.mem_cons_of_mem _ hy))
def spTaken (c : Cl) (T : Tb) (K : PySem.W.Frag) : Sp := fun vs H Q _ => ∃ (H0 : Hp) (p ka : Addr) (h : Ho) (n : Nat) (k : List Nat), vs = [.ref p, iN n, .ref ka] ∧ HouseAt c T H0 H p h ∧ SqL K H ka (k.map iN) ∧ ∀ H1, Same H H1 → Q (.bl (h.entries.any fun e => e.branch == n && e.key == k)) H1
section
variable {P : Program} {w : World} {K : PySem.W.Frag} {mg : Str → Option Value} {base : Heap} {c : Cl} {Ts : Tb}
theorem scTaken : FnScope ["house", "number", "key", "entry"] ["house", "number", "key"] (defScope sTaken) := ⟨rfl, rfl, rfl, by decide +kernel, rfl, by decide +kernel, by decide +kernel⟩
theorem with_keys {H : Hp} : ∀ ep : List (Addr × En), (∀ q ∈ ep, EnR c H q.1 q.2) → ∃ kl : List (Addr × (Addr × En)), kl.map (·.2) = ep ∧ ∀ y ∈ kl, (∃ dx, H y.2.1 = some (.ins c.E dx (enF y.2.2 y.1))) ∧ H y.1 = some (.lst (y.2.2.key.map iN))
  | [], _ => ⟨[], rfl, fun y hy => by cases hy⟩
  | q :: r, h => by
    obtain ⟨kl, e1, e2⟩ := with_keys r fun y hy => h y (List.mem_cons_of_mem _ hy)
    obtain ⟨dx, ka, h1, h2⟩ := h q (List.mem_cons_self ..)
    refine ⟨(ka, q) :: kl, by rw [List.map_cons, e1], fun y hy => ?_⟩
    rcases List.mem_cons.mp hy with z | z
    · rw [z]; exact ⟨⟨dx, h1⟩, h2⟩
    · exact e2 y z
theorem ok_taken {f : Addr} {fd : FuncData} (F : Fun K "is_key_taken" "is_key_taken" sTaken f fd) (T : Txt K mg c) (GO : Fn P w K mg base "entries_of_branch" 1 ["entries", "number"] (spOfBranch c)) : FnOk P w K mg base L2.CX0 2 f fd ["house", "number", "key"] (spTaken c Ts K) := by
  refine F.ok scTaken (fun vs H Q E h => ?_) (fun cdv A outer s H vs Q E hr h => ?_)
  · obtain ⟨H0, p, ka, h, n, k, rfl, _⟩ := h
    rfl
  · obtain ⟨H0, p, ka, h, n, k, rfl, ⟨dx, d, l, bp, ep, A⟩, hk, kk⟩ := h
    refine ⟨_, pss_one (ps_ret (pe_cmpR (op_inD (by have := hr.un; show _ + 65 < cLine; exact Nat.lt_of_le_of_lt (Nat.add_le_add_left (by omega) _) this)) (pv 2) (pe_lc (own := [("entry", 3)]) (g := gName 3) (tt := tYes) (te := tFld K (tVar 3) "key") rfl scTaken.nd (pi_list (pe_fn GO hr (pa_cons (pe_fld (pv 0) rfl) (pa_cons (pv 1) pa_nil))))
      (blkOk_by (N := ["house", "number", "key", "entry"]) (sc := defScope sTaken) (by decide +kernel)) (fun _ _ _ _ _ => pg_name (i := 3) scTaken.nd rfl (Or.inl rfl)) (fun _ _ _ _ _ => pts_nil) (fun _ _ _ _ _ => pe_fld (pv 3) rfl)) (by rfl))), ?_⟩
    refine ⟨_, rfl, _, rfl, p, c.H, dx, _, _, rfl, A.at_, T.cH, T.hE, ho_entries, _, rfl, l, ep, n, rfl, A.list, fun H1 q s1 hq hl => ?_⟩
    obtain ⟨kl, e1, e2⟩ := with_keys _ hl.en
    have hlist : H1 q = some (.lst (kl.map fun y => V.ref y.2.1)) := by rw [hl.lst, ← e1, List.map_map]; rfl
    have hlen : kl.length < sizeLine := by have := hl.line; rw [← e1, List.length_map] at this; exact this
    refine ⟨q, rfl, ⟨_, SqL.of hlist⟩, fun D hD => lc_fmG kl (fun y => V.ref y.2.1) (fun _ => true) (fun y => V.ref y.1) hD (SqL.of hlist) hlen (fun v => rfl) (fun y hy H2 R s2 _ r => r H2 (Same.refl _)) (fun y hy H2 R s2 _ r => ?_) fun H2 s2 hD2 => ?_⟩
    · obtain ⟨⟨de, h1⟩, _⟩ := e2 y hy
      exact ⟨_, rfl, y.2.1, c.E, de, _, _, rfl, s2 _ _ h1, T.cE, T.eK, en_key, r H2 (Same.refl _)⟩
    · rw [filter_yes] at hD2
      refine ⟨pk k, (kl.map fun y => y.2.2.key).map pk, dp_pk ((s1.trans s2).seq hk), .lst (SqL.of hD2) ?_, pk_shaped _, pks_shaped _, ?_⟩
      · have z := dp_pks (K := K) (H := H2) (kl.map fun y => (y.1, y.2.2.key)) (fun y hy => ?_)
        · simp only [List.map_map] at z ⊢
          exact z
        · obtain ⟨x, hx, rfl⟩ := List.mem_map.mp hy
          exact s2 _ _ (e2 x hx).2
      · have e3 : (((kl.map fun y => y.2.2.key).map pk).any fun z => PyData.eqv z (pk k)) = h.entries.any fun e => e.branch == n && e.key == k := by
          rw [List.any_map, List.any_map, A.ee, List.any_map]
          have e4 : (kl.any fun y => y.2.2.key == k) = ((ep.filter fun x => decide (x.2.branch = n)).any fun x => x.2.key == k) := by rw [← e1, List.any_map]; rfl
          have e5 : ((ep.filter fun x => decide (x.2.branch = n)).any fun x => x.2.key == k) = ep.any fun x => x.2.branch == n && x.2.key == k := by
            rw [List.any_filter]
            rfl
          rw [show (((fun z => PyData.eqv z (pk k)) ∘ pk) ∘ fun y : Addr × (Addr × En) => y.2.2.key) = fun y => y.2.2.key == k from funext fun y => pk_eqv _ _]
          rw [e4, e5]
          rfl
        rw [e3]
        exact kk H2 (s1.trans s2)
theorem scLeast : FnScope ["entries"] ["entries"] (defScope sLeast) := ⟨rfl, rfl, rfl, by decide +kernel, rfl, by decide +kernel, by decide +kernel⟩
def lamOf (st : Stmt) : Expr := match defBody st with
  | [.Return (some (.Call _ _ [⟨_, e, _⟩] _)) _] => e
  | _ => .Constant .none 0 ⟨0, 0, 0, 0⟩
def lamArgs (e : Expr) : Arguments := match e with
  | .Lambda a _ _ _ => a
  | _ => { posonlyargs := [], args := [], vararg := none, kwonlyargs := [], kw_defaults := [], kwarg := none, defaults := [] }
def lamBody (e : Expr) : Expr := match e with
  | .Lambda _ b _ _ => b
  | _ => e
def lamScope (e : Expr) : Scope := match e with
  | .Lambda _ _ s _ => s
  | _ => { kind := .function, names := [], isGenerator := false, isCoroutine := false }
def qLam : Str := (envOfC "least_lately_used" (defScope sLeast) 0 0 .none).qual ++ "<lambda>"
def spLeast (c : Cl) (T : Tb) : Sp := fun vs H Q _ => ∃ (l : Addr) (ep : List (Addr × En)), vs = [.ref l] ∧ LstAt c H l ep ∧ 0 < ep.length ∧ Tabs T H ∧ ∀ H1 q, ExtN H H1 → Tabs T H1 → q ∈ ep → (∀ y ∈ ep, q.2.used ≤ y.2.used) → Q (.ref q.1) H1
theorem ok_least {f cA PA : Addr} {fd : FuncData} (F : Fun K "least_lately_used" "least_lately_used" sLeast f fd) (hcd : fd.code = .ref cA) (T : Txt K mg c) (TB : TabB base mg cA PA) (hin : (PA, qLam) ∈ Ts) (hone : ∀ p ∈ Ts, p.1 = PA → p.2 = qLam) : FnOk P w K mg base L2.CX0 3 f fd ["entries"] (spLeast c Ts) := by
  refine BcK.fun_okC F hcd scLeast (fun vs H Q E h => ?_) (fun A outer s H vs Q E hr h => ?_)
  · obtain ⟨l, ep, rfl, _⟩ := h
    rfl
  · obtain ⟨l, ep, rfl, hl, hne, hT, k⟩ := h
    refine ⟨_, pss_one (ps_ret (pe_callBK (BcK.cr_minBy (x := "entry") (q := qLam) (ag := lamArgs (lamOf sLeast)) (bd := lamBody (lamOf sLeast)) (sc := lamScope (lamOf sLeast)) (tb := tFld K (tVar 0) "last_use") (k := 0) rfl hr (NdefX.nscope_by (by decide +kernel)) (fun _ _ _ _ => rfl) (fun f1 c1 A1 outer1 s1 H1 hr1 => pe_fld (pv 0) rfl))
      (by rfl) T.min (by decide +kernel) (pa_cons (pv 0) pa_nil) (pk_cons (BcK.pe_lam (T := Ts) (c := cA) (P := PA) (ag := lamArgs (lamOf sLeast)) (bd := lamBody (lamOf sLeast)) (sc := lamScope (lamOf sLeast)) TB rfl hin hone rfl (by decide +kernel) rfl) pk_nil))), ?_⟩
    refine ⟨_, rfl, hT, fun f1 c1 H1 x1 _ t1 _ hf1 hc1 => ?_⟩
    have up : ∀ b o, H b = some o → (∀ ps, o ≠ .tbl ps) → H1 b = some o := x1
    have hlst : H1 l = some (.lst (ep.map fun q => V.ref q.1)) := up _ _ hl.lst (fun _ z => by cases z)
    refine ⟨l, f1, c1, ep.map (·.1), fun i => ((ep[i]?).map fun q => ((q.2.used + 1 : Nat) : Int)).getD 0, rfl, rfl, hf1, hc1, SqL.of (by rw [hlst, List.map_map]; rfl), by rw [List.length_map]; exact hne, fun i a ha => ?_, fun i a ha hb => ?_⟩
    · obtain ⟨q, hq, rfl⟩ : ∃ q, ep[i]? = some q ∧ q.1 = a := by
        rw [List.getElem?_map] at ha
        cases z : ep[i]? with
        | none => rw [z] at ha; cases ha
        | some q => rw [z] at ha; exact ⟨q, rfl, Option.some.inj ha⟩
      obtain ⟨dx, ka, h1, _⟩ := hl.en q (List.mem_of_getElem? hq)
      refine ⟨_, rfl, q.1, c.E, dx, _, _, rfl, up _ _ h1 (fun _ z => by cases z), T.cE, T.eU, en_use, ?_, rfl⟩
      dsimp only
      rw [hq]
      rfl
    · obtain ⟨q, hq, rfl⟩ : ∃ q, ep[i]? = some q ∧ q.1 = a := by
        rw [List.getElem?_map] at ha
        cases z : ep[i]? with
        | none => rw [z] at ha; cases ha
        | some q => rw [z] at ha; exact ⟨q, rfl, Option.some.inj ha⟩
      refine k H1 q x1 t1 (List.mem_of_getElem? hq) fun y hy => ?_
      obtain ⟨j, hj, rfl⟩ := List.getElem_of_mem hy
      have := (hb j (by rw [List.length_map]; exact hj)).1
      dsimp only at this
      rw [hq, List.getElem?_eq_getElem hj] at this
      have e : ((q.2.used + 1 : Nat) : Int) ≤ ((ep[j].2.used + 1 : Nat) : Int) := this
      omega
end
end Bp

set_option Elab.async false
set_option linter.all false
set_option maxRecDepth 100000
set_option maxHeartbeats 4000000
namespace Bp
open PySem PySem.Spec PyProof.Rows L2 LamX
/-! ### who gives -/
def optV : Option Nat → V
  | none => .non
  | some n => iN n
def spGiving (c : Cl) (T : Tb) : Sp := fun vs H Q _ => ∃ (H0 : Hp) (p l : Addr) (h : Ho) (ep : List (Addr × En)) (sv z : Nat), vs = [.ref p, .ref l, iN sv, iN z] ∧ HouseAt c T H0 H p h ∧ LstAt c H l ep ∧ ∀ H1, Same H H1 → Q (optV (h.giver (ep.map (·.2)) sv z)) H1
theorem nat_perm {ys : List Int} {ids : List Nat} (hp : ys.Perm (ids.map fun n : Nat => (n : Int))) : ∃ ms : List Nat, ys = ms.map (fun n : Nat => (n : Int)) ∧ ms.Perm ids := by
  refine ⟨ys.map Int.toNat, ?_, ?_⟩
  · rw [List.map_map]
    have e : ∀ y ∈ ys, ((fun n : Nat => (n : Int)) ∘ Int.toNat) y = y := fun y hy => by
      obtain ⟨n, _, rfl⟩ := List.mem_map.mp (hp.mem_iff.mp hy)
      show ((((n : Int).toNat : Nat)) : Int) = _
      rw [Int.toNat_natCast]
    rw [List.map_congr_left (g := id) e, List.map_id]
  · have z := hp.map Int.toNat
    rw [List.map_map] at z
    have e : ∀ n ∈ ids, (Int.toNat ∘ fun n : Nat => (n : Int)) n = n := fun n _ => Int.toNat_natCast n
    rw [List.map_congr_left (g := id) e, List.map_id] at z
    exact z
theorem over_is {h : Ho} (g : Bc.Good h) {x : Br} (hx : x ∈ h.branches) (es : List En) (sv z : Nat) (ab : Int) (far : Nat) (e : ab = ((Rp03.sizeOn es x.id : Nat) : Int) - (x.share : Int) + (if x.id = sv then (z : Int) else 0)) : (far : Int) < ab ↔ far < h.over es sv z x.id := by
  unfold Rp03.House.over
  rw [Bc.share_of g.ids hx]
  by_cases q : x.id = sv
  · rw [if_pos q] at e ⊢
    omega
  · rw [if_neg q] at e ⊢
    omega
theorem over_val {h : Ho} (g : Bc.Good h) {x : Br} (hx : x ∈ h.branches) (es : List En) (sv z : Nat) (ab : Int) (far : Nat) (e : ab = ((Rp03.sizeOn es x.id : Nat) : Int) - (x.share : Int) + (if x.id = sv then (z : Int) else 0)) (hl : (far : Int) < ab) : ab = ((h.over es sv z x.id : Nat) : Int) := by
  unfold Rp03.House.over
  rw [Bc.share_of g.ids hx]
  by_cases q : x.id = sv
  · rw [if_pos q] at e ⊢
    omega
  · rw [if_neg q] at e ⊢
    omega
section
variable {P : Program} {w : World} {K : PySem.W.Frag} {mg : Str → Option Value} {base : Heap} {c : Cl} {Ts : Tb}
abbrev nmGiving : List Str := ["house", "staying", "saver", "size", "chosen", "farthest", "number", "held", "above"]
theorem scGiving : FnScope nmGiving ["house", "staying", "saver", "size"] (defScope sGiving) := ⟨rfl, rfl, rfl, by decide +kernel, rfl, by decide +kernel, by decide +kernel⟩
theorem ok_giving {f : Addr} {fd : FuncData} (F : Fun K "giving_branch" "giving_branch" sGiving f fd) (T : Txt K mg c) (GO : Fn P w K mg base "entries_of_branch" 1 ["entries", "number"] (spOfBranch c)) (GS : Fn P w K mg base "sizes_together" 1 ["entries"] (spSizes c)) :
    FnOk P w K mg base L2.CX0 2 f fd ["house", "staying", "saver", "size"] (spGiving c Ts) := by
  refine F.ok scGiving (fun vs H Q E h => ?_) (fun cdv A outer s H vs Q E hr h => ?_)
  · obtain ⟨H0, p, l, h, ep, sv, z, rfl, _⟩ := h
    rfl
  · obtain ⟨H0, p, l, h, ep, sv, z, rfl, ⟨dx, d, lh, bp, eh, A⟩, hl, k⟩ := h
    refine ⟨_, pss_cons (ps_set (i := 4) scGiving.nd rfl (Or.inl rfl) pe_non) (pss_cons (ps_set (i := 5) scGiving.nd rfl (Or.inl rfl) pe_int)
      (pss_cons (ps_for PassesOwn.never rfl (pi_list (pe_callB (call_sortedDI rfl) (by rfl) T.sorted (by decide +kernel) (pa_cons (pe_fld (pv 0) rfl) pa_nil))) (pg_name (i := 6) scGiving.nd rfl (Or.inl rfl))
        (pss_cons (ps_set (i := 7) scGiving.nd rfl (Or.inl rfl) (pe_fn GO hr (pa_cons (pv 1) (pa_cons (pv 6) pa_nil))))
        (pss_cons (ps_set (i := 8) scGiving.nd rfl (Or.inl rfl) (pe_op op_sub (pe_fn GS hr (pa_cons (pv 7) pa_nil)) (pe_fld (pe_dget (hu_of hr) (pe_fld (pv 0) rfl) (pv 6) (fun _ _ => rfl)) rfl)))
        (pss_cons (ps_if (pt_cmpR op_eq (pv 6) (pv 2) (nomark _)) (pss_one (ps_aug (i := 8) scGiving.nd rfl (Or.inl rfl) (pv 3) ip_add)) pss_nil)
        (pss_one (ps_if (PW.pt (pw_and (pt_cmpR op_gt (pe_callB call_len_seq (by rfl) T.len PySem.boot_len (pa_cons (pv 7) pa_nil)) pe_int (nomark _)) (pw_and1 (pt_cmpR op_gt (pv 8) (pv 5) (nomark _)))))
          (pss_cons (ps_set (i := 4) scGiving.nd rfl (Or.inl rfl) (pv 6)) (pss_one (ps_set (i := 5) scGiving.nd rfl (Or.inl rfl) (pv 8)))) pss_nil))))))
      (pss_one (ps_ret (pv 4))))), ?_⟩
    refine ⟨_, rfl, p, c.H, dx, _, _, rfl, A.at_, T.cH, T.hB, ho_branches, d, _, (bp.map fun q => q.2.id).map fun n : Nat => (n : Int), rfl, .of A.dict, ?_, ?_, fun ys q hperm hord hq => ?_⟩
    · rw [List.map_map, List.map_map, List.map_map]
      rfl
    · rw [List.length_map, List.length_map]
      have := A.good.nb
      rw [A.eb, List.length_map] at this
      omega
    obtain ⟨ms, rfl, hms⟩ := nat_perm hperm
    have eids : h.branches.map Rp03.Branch.id = bp.map fun q => q.2.id := by rw [A.eb, List.map_map]; rfl
    have mem : ∀ n, n ∈ ms ↔ n ∈ h.branches.map Rp03.Branch.id := fun n => by rw [eids]; exact hms.mem_iff
    have ord : ms.Pairwise (· ≤ ·) := by
      have z := hord
      rw [List.pairwise_map] at z
      exact z.imp fun {a b} w => by omega
    have eL : (ms.map fun n : Nat => (n : Int)).map V.int = ms.map iN := by rw [List.map_map]; rfl
    rw [eL]
    have s0 : Same H (upd H q (.lst (ms.map iN))) := same_upd hq
    refine ⟨q, rfl, ⟨_, SqL.of upd_same⟩, for_list (K := K) (a := q) (xs := ms.map iN) (fun i σ H1 => ∃ (ch : Option Nat) (far : Nat) (v6 v7 v8 : Option V), σ = [some (.ref p), some (.ref l), some (iN sv), some (iN z), some (optV ch), some (iN far), v6, v7, v8] ∧ Same (upd H q (.lst (ms.map iN))) H1 ∧ Bc.Chosen h (ep.map (·.2)) sv z (ms.take i) ch far)
      ⟨none, 0, none, none, none, rfl, Same.refl _, rfl, fun n hn => by cases hn⟩ (fun i σ H1 _ ⟨_, _, _, _, _, _, s1, _⟩ => SqL.of (s1 _ _ upd_same)) ?_ ?_⟩
    · rintro i y σ H1 hi ⟨ch, far, v6, v7, v8, rfl, s1, C⟩
      obtain ⟨m, hm, rfl⟩ : ∃ m, ms[i]? = some m ∧ y = iN m := by
        rw [List.getElem?_map] at hi
        cases e : ms[i]? with
        | none => rw [e] at hi; cases hi
        | some m => rw [e] at hi; exact ⟨m, rfl, (Option.some.inj hi).symm⟩
      have htk : ms.take (i + 1) = ms.take i ++ [m] := by rw [List.take_add_one, hm]; rfl
      have hup : ∀ n ∈ ms.take i, n ≤ m := fun n hn => by
        obtain ⟨hi', e⟩ := List.getElem?_eq_some_iff.mp hm
        have e2 : ms = ms.take i ++ ms.drop i := (List.take_append_drop i ms).symm
        have e3 := ord
        rw [e2] at e3
        have e4 := (List.pairwise_append.mp e3).2.2
        refine e4 n hn m ?_
        rw [List.drop_eq_getElem_cons hi', e]
        exact List.mem_cons_self ..
      have hmid : m ∈ bp.map fun q => q.2.id := by rw [← eids]; exact (mem m).mp (List.mem_of_getElem? hm)
      obtain ⟨b, hb⟩ : ∃ b, bp.find? (fun q => q.2.id == m) = some b := by
        cases e : bp.find? (fun q => q.2.id == m) with
        | some b => exact ⟨b, rfl⟩
        | none =>
          obtain ⟨b, hb, e2⟩ := List.mem_map.mp hmid
          exact absurd (beq_iff_eq.mpr e2) (List.find?_eq_none.mp e b hb)
      have hbm : b ∈ bp := List.mem_of_find?_eq_some hb
      have hbi : b.2.id = m := eq_of_beq (List.find?_some (p := fun q : Addr × Br => q.2.id == m) hb)
      have hxb : b.2 ∈ h.branches := by rw [A.eb]; exact List.mem_map.mpr ⟨b, hbm, rfl⟩
      have S1 := s0.trans s1
      refine ⟨_, rfl, _, rfl, l, ep, m, rfl, hl.up S1, fun H2 q2 s2 hq2 hl2 => ?_⟩
      refine ⟨_, rfl, q2, _, rfl, hl2, fun H3 s3 => ?_⟩
      have S3 := (S1.trans s2).trans s3
      have A3 := A.grow S3
      obtain ⟨_, db, hb3⟩ := A3.br b hbm
      have hval : valV (dictOf bp) (Sum.inl (m : Int)) = some (V.ref b.1) := by rw [valV_dict, hb]; rfl
      have hget : DGet H3 d (kV (Sum.inl (m : Int))) (some (V.ref b.1)) := by rw [← hval]; exact DGet.k A3.dict
      refine ⟨_, rfl, p, c.H, dx, _, _, rfl, A3.at_, T.cH, T.hB, ho_branches, _, rfl, d, _, rfl, hget, b.1, c.B, db, _, _, rfl, hb3, T.cB, T.bS, br_share, _, _, rfl, rfl, ?_⟩
      refine ⟨_, rfl, _, rfl, rfl, _, rfl, ?_⟩
      have esz : Rp03.size ((ep.filter fun x => decide (x.2.branch = m)).map (·.2)) = Rp03.sizeOn (ep.map (·.2)) m := by
        unfold Rp03.sizeOn
        rw [List.filter_map]
        rfl
      have eno : (∃ e ∈ ep.map (·.2), e.branch = m) ↔ 0 < (ep.filter fun x => decide (x.2.branch = m)).length := by
        rw [List.length_pos_iff_exists_mem]
        constructor
        · rintro ⟨e, he, h2⟩
          obtain ⟨x, hx, rfl⟩ := List.mem_map.mp he
          exact ⟨x, List.mem_filter.mpr ⟨hx, decide_eq_true h2⟩⟩
        · rintro ⟨x, hx⟩
          obtain ⟨h1, h2⟩ := List.mem_filter.mp hx
          exact ⟨x.2, List.mem_map.mpr ⟨x, h1, rfl⟩, of_decide_eq_true h2⟩
      have hq2l : SqL K H3 q2 ((ep.filter fun x => decide (x.2.branch = m)).map fun x => V.ref x.1) := SqL.of (s3 _ _ hl2.lst)
      have sEnd : Same (upd H q (.lst (ms.map iN))) H3 := (s1.trans s2).trans s3
      have dm : ∀ {a b : Nat}, (iN a = iN b) ↔ a = b := fun {a b} => ⟨fun w => by injection w with w; omega, fun w => by rw [w]⟩
      refine ite2 (fun e => ?_) (fun e => ?_)
      · refine ⟨_, rfl, _, rfl, _, _, rfl, rfl, ?_⟩
        have esv : b.2.id = sv := hbi.trans (dm.mp (of_decide_eq_true e))
        have eab : ((Rp03.size ((ep.filter fun x => decide (x.2.branch = m)).map (·.2)) : Nat) : Int) - (b.2.share : Int) + (z : Int) = ((Rp03.sizeOn (ep.map (·.2)) b.2.id : Nat) : Int) - (b.2.share : Int) + (if b.2.id = sv then (z : Int) else 0) := by rw [if_pos esv, esz, hbi]
        have LT := over_is A.good hxb (ep.map (·.2)) sv z _ far eab
        have LV := over_val A.good hxb (ep.map (·.2)) sv z _ far eab
        rw [hbi] at LT LV
        refine ⟨_, rfl, q2, _, rfl, .inl hq2l, _, _, rfl, rfl, _, rfl, ?_⟩
        rw [List.length_map]
        refine ite2 (fun e1 => ?_) (fun e1 => ?_)
        · have e1' : 0 < (ep.filter fun x => decide (x.2.branch = m)).length := by have := of_decide_eq_true e1; omega
          refine ⟨_, rfl, _, rfl, _, _, rfl, rfl, _, rfl, ?_⟩
          refine ite2 (fun e2 => ?_) (fun e2 => ?_)
          · have e2' := LT.mp (of_decide_eq_true e2)
            refine ⟨_, rfl, _, rfl, some m, h.over (ep.map (·.2)) sv z m, some (iN m), some (.ref q2), some (V.int (((Rp03.size ((ep.filter fun x => decide (x.2.branch = m)).map (·.2)) : Nat) : Int) - (b.2.share : Int) + (z : Int))), ?_, sEnd, ?_⟩
            · rw [show iN (h.over (ep.map (·.2)) sv z m) = V.int _ from congrArg V.int (LV (of_decide_eq_true e2)).symm]; rfl
            · rw [htk]; exact Bc.chosen_take C (eno.mpr e1') e2'
          · refine ⟨ch, far, _, _, _, rfl, sEnd, ?_⟩
            rw [htk]
            exact Bc.chosen_leave C hup fun w => e2 (decide_eq_true (LT.mpr w.2))
        · refine ⟨ch, far, _, _, _, rfl, sEnd, ?_⟩
          rw [htk]
          exact Bc.chosen_leave C hup fun w => e1 (decide_eq_true (by have := eno.mp w.1; omega))
      · have esv : ¬ b.2.id = sv := fun w => e (decide_eq_true (dm.mpr (hbi.symm.trans w)))
        have eab : ((Rp03.size ((ep.filter fun x => decide (x.2.branch = m)).map (·.2)) : Nat) : Int) - (b.2.share : Int) = ((Rp03.sizeOn (ep.map (·.2)) b.2.id : Nat) : Int) - (b.2.share : Int) + (if b.2.id = sv then (z : Int) else 0) := by rw [if_neg esv, esz, hbi]; omega
        have LT := over_is A.good hxb (ep.map (·.2)) sv z _ far eab
        have LV := over_val A.good hxb (ep.map (·.2)) sv z _ far eab
        rw [hbi] at LT LV
        refine ⟨_, rfl, q2, _, rfl, .inl hq2l, _, _, rfl, rfl, _, rfl, ?_⟩
        rw [List.length_map]
        refine ite2 (fun e1 => ?_) (fun e1 => ?_)
        · have e1' : 0 < (ep.filter fun x => decide (x.2.branch = m)).length := by have := of_decide_eq_true e1; omega
          refine ⟨_, rfl, _, rfl, _, _, rfl, rfl, _, rfl, ?_⟩
          refine ite2 (fun e2 => ?_) (fun e2 => ?_)
          · have e2' := LT.mp (of_decide_eq_true e2)
            refine ⟨_, rfl, _, rfl, some m, h.over (ep.map (·.2)) sv z m, some (iN m), some (.ref q2), some (V.int (((Rp03.size ((ep.filter fun x => decide (x.2.branch = m)).map (·.2)) : Nat) : Int) - (b.2.share : Int))), ?_, sEnd, ?_⟩
            · rw [show iN (h.over (ep.map (·.2)) sv z m) = V.int _ from congrArg V.int (LV (of_decide_eq_true e2)).symm]; rfl
            · rw [htk]; exact Bc.chosen_take C (eno.mpr e1') e2'
          · refine ⟨ch, far, _, _, _, rfl, sEnd, ?_⟩
            rw [htk]
            exact Bc.chosen_leave C hup fun w => e2 (decide_eq_true (LT.mpr w.2))
        · refine ⟨ch, far, _, _, _, rfl, sEnd, ?_⟩
          rw [htk]
          exact Bc.chosen_leave C hup fun w => e1 (decide_eq_true (by have := eno.mp w.1; omega))
    · rintro σ H1 ⟨ch, far, v6, v7, v8, rfl, s1, C⟩
      rw [List.length_map, List.take_length] at C
      refine ⟨_, rfl, ?_⟩
      rw [← Bc.chosen_end C mem]
      exact k H1 (s0.trans s1)
end
end Bp

set_option Elab.async false
set_option linter.all false
set_option maxRecDepth 100000
set_option maxHeartbeats 4000000
namespace Bp
open PySem PySem.Spec PyProof.Rows L2 LamX
/-! ### what has to go -/
def spToGo (c : Cl) (T : Tb) : Sp := fun vs H Q _ => ∃ (H0 : Hp) (p : Addr) (h : Ho) (sv z : Nat), vs = [.ref p, iN sv, iN z] ∧ HouseAt c T H0 H p h ∧ (h.must sv z = none → ∀ H1, ExtN H H1 → Tabs T H1 → Q .non H1) ∧
  ∀ H1 q gp, ExtN H H1 → Tabs T H1 → H q = none → h.must sv z = some (gp.map (·.2)) → LstAt c H1 q gp → Q (.ref q) H1
def lenAt (σ : L2.St) (H : Hp) (i : Nat) : Nat := match σ[i]? with
  | some (some (.ref l)) => (match H l with
    | some (.lst xs) => xs.length
    | _ => 0)
  | _ => 0
theorem LstAt.upN {c : Cl} {H H1 : Hp} {l : Addr} {ep : List (Addr × En)} (s : ExtN H H1) (h : LstAt c H l ep) : LstAt c H1 l ep := ⟨s _ _ h.lst (fun _ z => by cases z), fun q hq => by
    obtain ⟨dx, ka, h1, h2⟩ := h.en q hq
    exact ⟨dx, ka, s _ _ h1 (fun _ z => by cases z), s _ _ h2 (fun _ z => by cases z)⟩, h.few⟩
theorem lst_of {c : Cl} {T : Tb} {H0 H : Hp} {p dx d l q : Addr} {h : Ho} {bp : List (Addr × Br)} {ep sp : List (Addr × En)} (A : HAt c T H0 H p h dx d l bp ep) (hl : H q = some (.lst (sp.map fun y => V.ref y.1))) (sub : ∀ y ∈ sp, y ∈ ep) (few : sp.length ≤ 40) : LstAt c H q sp :=
  ⟨hl, fun y hy => (A.en y (sub y hy)).r, few⟩
section
variable {P : Program} {w : World} {K : PySem.W.Frag} {mg : Str → Option Value} {base : Heap} {c : Cl} {Ts : Tb}
theorem scToGo : FnScope ["house", "saver", "size", "staying", "going", "number", "gone"] ["house", "saver", "size"] (defScope sToGo) := ⟨rfl, rfl, rfl, by decide +kernel, rfl, by decide +kernel, by decide +kernel⟩
theorem ok_toGo {f : Addr} {fd : FuncData} (F : Fun K "entries_to_go" "entries_to_go" sToGo f fd) (T : Txt K mg c) (GO : Fn P w K mg base "entries_of_branch" 1 ["entries", "number"] (spOfBranch c)) (GS : Fn P w K mg base "sizes_together" 1 ["entries"] (spSizes c))
    (GG : Fn P w K mg base "giving_branch" 2 ["house", "staying", "saver", "size"] (spGiving c Ts)) (GL : Fn P w K mg base "least_lately_used" 3 ["entries"] (spLeast c Ts)) (GW : Fn P w K mg base "entries_without" 1 ["entries", "gone"] (spWithout c)) :
    FnOk P w K mg base L2.CX0 4 f fd ["house", "saver", "size"] (spToGo c Ts) := by
  refine F.ok scToGo (fun vs H Q E h => ?_) (fun cdv A outer s H vs Q E hr h => ?_)
  · obtain ⟨H0, p, h, sv, z, rfl, _⟩ := h
    rfl
  · obtain ⟨H0, p, h, sv, z, rfl, ⟨dx, d, l, bp, ep, A⟩, k1, k2⟩ := h
    refine ⟨_, pss_cons (ps_set (i := 3) scToGo.nd rfl (Or.inl rfl) (pe_callTy call_list_of (by rfl) T.list (by decide +kernel) (pa_cons (pe_fld (pv 0) rfl) pa_nil))) (pss_cons (ps_set (i := 4) scToGo.nd rfl (Or.inl rfl) (pe_lst pa_nil))
      (pss_cons (ps_while PassesOwn.never (pt_cmpR op_gt (pe_op op_add (pe_fn GS hr (pa_cons (pv 3) pa_nil)) (pv 2)) (pe_fld (pv 0) rfl) (nomark _))
        (pss_cons (ps_set (i := 5) scToGo.nd rfl (Or.inl rfl) (pe_fn GG hr (pa_cons (pv 0) (pa_cons (pv 3) (pa_cons (pv 1) (pa_cons (pv 2) pa_nil))))))
        (pss_cons (ps_if (pt_cmpR op_isN (pv 5) pe_non (nomark _)) (pss_one (ps_ret pe_non)) pss_nil)
        (pss_cons (ps_set (i := 6) scToGo.nd rfl (Or.inl rfl) (pe_fn GL hr (pa_cons (pe_fn GO hr (pa_cons (pv 3) (pa_cons (pv 5) pa_nil))) pa_nil)))
        (pss_cons (ps_set (i := 3) scToGo.nd rfl (Or.inl rfl) (pe_fn GW hr (pa_cons (pv 3) (pa_cons (pv 6) pa_nil))))
        (pss_one (ps_expr (pe_bm PySem.F.plainAttrs_list PySem.F.slot_list_append PySem.F.type_list_append mt_append (pv 4) (pa_cons (pv 6) pa_nil))))))))
      ) (pss_one (ps_ret (pv 4))))), ?_⟩
    refine ⟨_, rfl, p, c.H, dx, _, _, rfl, A.at_, T.cH, T.hE, ho_entries, l, _, rfl, .inl (SqL.of A.lst), fun l3 hl3 => ?_⟩
    refine ⟨Nat.zero_le _, fun q hq => ?_⟩
    have s1 : Same H (upd H l3 (.lst (ep.map fun q => V.ref q.1))) := same_upd hl3
    have s2 := s1.trans (same_upd (o := .lst []) hq)
    have nlq : l3 ≠ q := fun w => by rw [← w, upd_same] at hq; cases hq
    have hq0 : H q = none := s1.free hq
    refine while_by (fun σ H1 => ∃ (l3 : Addr) (sp gp : List (Addr × En)) (v5 v6 : Option V), σ = [some (.ref p), some (iN sv), some (iN z), some (.ref l3), some (.ref q), v5, v6] ∧ ExtN H H1 ∧ Tabs Ts H1 ∧ H1 l3 = some (.lst (sp.map fun y => V.ref y.1)) ∧ (∀ y ∈ sp, y ∈ ep) ∧ H1 q = some (.lst (gp.map fun y => V.ref y.1)) ∧ (∀ y ∈ gp, y ∈ ep) ∧ q ≠ l3 ∧ Bc.Going h sv z (gp.map (·.2)) (sp.map (·.2)) ∧ gp.length + sp.length ≤ 40)
      (fun σ H1 => lenAt σ H1 3) ⟨l3, ep, [], none, none, rfl, ExtN.of s2, tabs_up s2 A.tabs, by rw [upd_ne nlq, upd_same], fun y hy => hy, upd_same, fun y hy => (by cases hy), nlq.symm, by rw [← A.ee]; exact Bc.going_start, by have := A.list.few; simp; omega⟩ ?_ ?_
    · rintro σ H1 ⟨l3, sp, gp, v5, v6, rfl, x1, t1, hs0, ssub, hg0, gsub, nq, G, few⟩
      have A1 := A.growN x1 t1
      have hs := lst_of A1 hs0 ssub (by omega)
      refine ⟨_, rfl, l3, sp, rfl, hs, fun H2 s2 => ?_⟩
      have A2 := A1.grow s2
      refine ⟨_, rfl, _, _, rfl, rfl, _, rfl, p, c.H, dx, _, _, rfl, A2.at_, T.cH, T.hR, ho_room, _, _, rfl, rfl, _, rfl, ?_⟩
      have x2 : ExtN H H2 := x1.trans (ExtN.of s2)
      refine ite2 (fun e => ?_) (fun e => ?_)
      · have big : ¬ Rp03.size (sp.map (·.2)) + z ≤ h.room := by
          have e' : (h.room : Int) < ((Rp03.size (sp.map (·.2)) : Nat) : Int) + (z : Int) := of_decide_eq_true e
          omega
        refine ⟨_, rfl, _, rfl, _, rfl, _, rfl, H0, p, l3, h, sp, sv, z, rfl, ⟨dx, d, l, bp, ep, A2⟩, hs.up s2, fun H3 s3 => ?_⟩
        have x3 : ExtN H H3 := x2.trans (ExtN.of s3)
        have t3 := (A2.grow s3).tabs
        cases hgv : h.giver (sp.map (·.2)) sv z with
        | none =>
          refine ⟨_, rfl, rfl, _, rfl, ?_⟩
          refine ite2 (fun _ => ?_) (fun w => absurd (show decide (optV none = V.non) = true from rfl) w)
          exact k1 (Bc.going_stuck G big hgv) H3 x3 t3
        | some b =>
          refine ⟨_, rfl, rfl, _, rfl, ?_⟩
          refine ite2 (fun w => absurd (of_decide_eq_true w) (fun w2 => by cases w2)) (fun _ => ?_)
          refine ⟨_, rfl, _, rfl, l3, sp, b, rfl, (hs.up s2).up s3, fun H4 q4 s4 hq4 hl4 => ?_⟩
          have M := (Bc.giver_some hgv).may
          obtain ⟨e0, he0, heb⟩ := M.2
          obtain ⟨y0, hy0, rfl⟩ := List.mem_map.mp he0
          refine ⟨q4, _, rfl, hl4, List.length_pos_of_mem (List.mem_filter.mpr ⟨hy0, decide_eq_true heb⟩), tabs_up s4 t3, fun H5 y x5 t5 hy hmin => ?_⟩
          obtain ⟨hy1, hy2⟩ := List.mem_filter.mp hy
          have hs5 : LstAt c H5 l3 sp := (((hs.up s2).up s3).up s4).upN x5
          have hg5 : H5 q = some (.lst (gp.map fun y => V.ref y.1)) := x5 _ _ (s4 _ _ (s3 _ _ (s2 _ _ hg0))) (fun _ w => by cases w)
          have x5' : ExtN H H5 := (x3.trans (ExtN.of s4)).trans x5
          refine ⟨_, rfl, _, rfl, l3, y.1, sp, y.2, rfl, hs5, hs5.en y hy1, fun H6 q6 s6 hq6 hl6 => ?_⟩
          have hg6 := s6 _ _ hg5
          refine ⟨_, rfl, .inl ⟨rfl, _, SqL.of hg6⟩, _, rfl, q, _, _, rfl, rfl, hg6, (by rw [List.length_map]; exact Nat.lt_of_le_of_lt (by omega : gp.length ≤ 40) (by decide)), ?_⟩
          have pw : (sp.map (·.2)).Pairwise fun a b => a.used ≠ b.used := A.good.used.sublist G.sub
          have hym : y.2 ∈ sp.map (·.2) := List.mem_map.mpr ⟨y, hy1, rfl⟩
          have hold : Rp03.oldest b (sp.map (·.2)) = some y.2 := Bc.oldest_is pw hym (of_decide_eq_true hy2) fun e he hb => by
            obtain ⟨x, hx, rfl⟩ := List.mem_map.mp he
            exact hmin x (List.mem_filter.mpr ⟨hx, decide_eq_true hb⟩)
          have G6 := Bc.going_step G big hgv hold
          rw [Bc.erase_is pw hym] at G6
          have efl : (sp.map (·.2)).filter (fun f => decide (f.used ≠ y.2.used)) = (sp.filter fun x => decide (x.2.used ≠ y.2.used)).map (·.2) := by rw [List.filter_map]; rfl
          rw [efl] at G6
          have nq6 : q ≠ q6 := ne_of_none hg5 hq6
          have lt : (sp.filter fun x => decide (x.2.used ≠ y.2.used)).length < sp.length := by
            refine List.length_filter_lt_length_iff_exists.mpr ⟨y, hy1, ?_⟩
            simp
          have l6 : upd H6 q (.lst ((gp.map fun y => V.ref y.1) ++ [.ref y.1])) q6 = some (.lst ((sp.filter fun x => decide (x.2.used ≠ y.2.used)).map fun y => V.ref y.1)) := by rw [upd_ne nq6.symm]; exact hl6.lst
          refine ⟨⟨q6, sp.filter fun x => decide (x.2.used ≠ y.2.used), gp ++ [y], _, _, rfl, fun b o w nt => ?_, tabs_put (tabs_up s6 t5) hg6 (fun _ w => by cases w) (fun _ w => by cases w), l6, fun x hx => ssub x (List.mem_filter.mp hx).1, by rw [upd_same, List.map_append]; rfl, fun x hx => ?_, nq6, ?_, ?_⟩, ?_⟩
          · rw [upd_ne (ne_of_none w hq0)]
            exact s6 _ _ (x5' b o w nt)
          · rcases List.mem_append.mp hx with hx | hx
            · exact gsub x hx
            · rw [List.mem_singleton.mp hx]; exact ssub y hy1
          · rw [List.map_append]; exact G6
          · rw [List.length_append, List.length_singleton]; omega
          · show lenAt [some (V.ref p), some (iN sv), some (iN z), some (V.ref q6), some (V.ref q), _, _] _ 3 < lenAt [some (V.ref p), some (iN sv), some (iN z), some (V.ref l3), some (V.ref q), v5, v6] H1 3
            unfold lenAt
            show (match upd H6 q (.lst ((gp.map fun y => V.ref y.1) ++ [.ref y.1])) q6 with
              | some (.lst xs) => xs.length
              | _ => 0) < (match H1 l3 with
              | some (.lst xs) => xs.length
              | _ => 0)
            rw [l6, hs0]
            show ((sp.filter fun x => decide (x.2.used ≠ y.2.used)).map _).length < (sp.map _).length
            rw [List.length_map, List.length_map]
            exact lt
      · have fit : Rp03.size (sp.map (·.2)) + z ≤ h.room := by
          have e' : ¬ (h.room : Int) < ((Rp03.size (sp.map (·.2)) : Nat) : Int) + (z : Int) := fun w => e (decide_eq_true w)
          omega
        exact ⟨_, rfl, k2 H2 q gp x2 A2.tabs hq0 (Bc.going_end G fit) (lst_of A2 (s2 _ _ hg0) gsub (by omega))⟩
    · rintro σ H1 Q1 Q2 mo ⟨v3, e3, l3, sp, ev, hs, kk⟩
      refine ⟨v3, e3, l3, sp, ev, hs, fun H2 s2 => ?_⟩
      obtain ⟨v2, e2, i, j, ei, ej, v0, e0, a, C, dx', fs, v, h1, h2, h3, h4, h5, i2, j2, h6, h7, kb, h8, hq⟩ := kk H2 s2
      exact ⟨v2, e2, i, j, ei, ej, v0, e0, a, C, dx', fs, v, h1, h2, h3, h4, h5, i2, j2, h6, h7, kb, h8, mo _ _ hq⟩
end
end Bp

set_option Elab.async false
set_option linter.all false
set_option maxRecDepth 100000
set_option maxHeartbeats 4000000
namespace Bp
open PySem PySem.Spec PyProof.Rows L2 LamX
/-! ### answers -/
def outV (a : Rp03.Ans) : List V := (Rp03Neutral.out a).map V.int
/-- what a call's def promises: the specification's house, the specification's answer -/
def AnsP (c : Cl) (T : Tb) (H0 : Hp) (p : Addr) (h : Ho) (call : Rp03.Call) (Q : VK) : Prop := ∀ H1 q, HouseAt c T H0 H1 p (Rp03.step h call).1 → H0 q = none → H1 q = some (.lst (outV (Rp03.step h call).2)) → Q (.ref q) H1
def spBegins (c : Cl) (T : Tb) : Sp := fun vs H Q _ => ∃ (H0 : Hp) (p : Addr) (h : Ho) (r n s : Nat), vs = [.ref p, iN r, iN n, iN s] ∧ HouseAt c T H0 H p h ∧ AnsP c T H0 p h (.begins r n s) Q
def spOpens (c : Cl) (T : Tb) : Sp := fun vs H Q _ => ∃ (H0 : Hp) (p : Addr) (h : Ho) (b a s : Nat), vs = [.ref p, iN b, iN a, iN s] ∧ HouseAt c T H0 H p h ∧ AnsP c T H0 p h (.opens b a s) Q
def spCloses (c : Cl) (T : Tb) : Sp := fun vs H Q _ => ∃ (H0 : Hp) (p : Addr) (h : Ho) (b : Nat), vs = [.ref p, iN b] ∧ HouseAt c T H0 H p h ∧ AnsP c T H0 p h (.closes b) Q
def spShare (c : Cl) (T : Tb) : Sp := fun vs H Q _ => ∃ (H0 : Hp) (p : Addr) (h : Ho) (b s : Nat), vs = [.ref p, iN b, iN s] ∧ HouseAt c T H0 H p h ∧ AnsP c T H0 p h (.share b s) Q
theorem HouseAt.grow {c : Cl} {T : Tb} {H0 H H1 : Hp} {p : Addr} {h : Ho} (A : HouseAt c T H0 H p h) (s : Same H H1) : HouseAt c T H0 H1 p h := let ⟨dx, d, l, bp, ep, a⟩ := A; ⟨dx, d, l, bp, ep, a.grow s⟩
theorem HouseAt.same {c : Cl} {T : Tb} {H0 H : Hp} {p : Addr} {h : Ho} (A : HouseAt c T H0 H p h) : Same H0 H := let ⟨_, _, _, _, _, a⟩ := A; a.same
theorem HouseAt.good {c : Cl} {T : Tb} {H0 H : Hp} {p : Addr} {h : Ho} (A : HouseAt c T H0 H p h) : Bc.Good h := let ⟨_, _, _, _, _, a⟩ := A; a.good
/-- a refusal: a new list with its number -/
theorem ans_no {c : Cl} {T : Tb} {H0 H : Hp} {p : Addr} {h : Ho} {call : Rp03.Call} {Q : VK} {v : Int} (k : AnsP c T H0 p h call Q) (A : HouseAt c T H0 H p h) (e : Rp03.step h call = (h, Rp03.ok v)) : ∀ q, H q = none → Q (.ref q) (upd H q (.lst [V.int v])) := fun q hq => by
  refine k _ q ?_ (A.same.free hq) ?_
  · rw [e]; exact A.grow (same_upd hq)
  · rw [e, upd_same]; rfl
/-- a number alone, the house changed -/
theorem ans_one {c : Cl} {T : Tb} {H0 H : Hp} {p : Addr} {h h1 : Ho} {call : Rp03.Call} {Q : VK} {v : Int} (k : AnsP c T H0 p h call Q) (e : Rp03.step h call = (h1, Rp03.ok v)) (A : HouseAt c T H0 H p h1) : ∀ q, H q = none → Q (.ref q) (upd H q (.lst [V.int v])) := fun q hq => by
  refine k _ q ?_ (A.same.free hq) ?_
  · rw [e]; exact A.grow (same_upd hq)
  · rw [e, upd_same]; rfl
structure Cst (mg : Str → Option Value) : Prop where
  out : ∃ t, mg "OUT_OF_BOUNDS" = some (.int (-1) t)
  noB : ∃ t, mg "NO_BRANCH" = some (.int (-2) t)
  zero : ∃ t, mg "IS_BRANCH_ZERO" = some (.int (-3) t)
  there : ∃ t, mg "IS_THERE" = some (.int (-4) t)
  noK : ∃ t, mg "NO_KEY" = some (.int (-5) t)
  noR : ∃ t, mg "NO_ROOM" = some (.int (-6) t)
  many : ∃ t, mg "TOO_MANY" = some (.int (-7) t)
  hiR : ∃ t, mg "HIGHEST_ROOM" = some (.int 1000000 t)
  hiL : ∃ t, mg "HIGHEST_LIFE" = some (.int 1000000 t)
  mB : ∃ t, mg "MOST_BRANCHES" = some (.int 8 t)
  mE : ∃ t, mg "MOST_ENTRIES" = some (.int 40 t)
  noF : ∃ t, mg "NOTHING_FOUND" = some (.int (-8) t)
  hiD : ∃ t, mg "HIGHEST_DAY" = some (.int 1000000 t)
theorem one_line : 1 ≤ sizeLine := by decide
section
variable {P : Program} {w : World} {K : PySem.W.Frag} {mg : Str → Option Value} {base : Heap} {c : Cl} {Ts : Tb}
theorem scBegins : FnScope ["house", "room", "life", "share"] ["house", "room", "life", "share"] (defScope sBegins) := ⟨rfl, rfl, rfl, by decide +kernel, rfl, by decide +kernel, by decide +kernel⟩
theorem ok_begins {f : Addr} {fd : FuncData} (F : Fun K "answer_begins" "answer_begins" sBegins f fd) (T : Txt K mg c) (C : Cst mg) (GA : Mt P w K mg base c.H "start_anew" 3 ["self", "room", "life", "share"] (spAnew c)) : FnOk P w K mg base L2.CX0 4 f fd ["house", "room", "life", "share"] (spBegins c Ts) := by
  refine F.ok scBegins (fun vs H Q E h => ?_) (fun cdv A outer s H vs Q E hr h => ?_)
  · obtain ⟨H0, p, h, r, n, s, rfl, _⟩ := h
    rfl
  · obtain ⟨H0, p, h, r, n, s, rfl, A, k⟩ := h
    refine ⟨_, pss_cons (ps_if (PW.pt (pw_or (pt_cmpR op_eq (pv 1) pe_int (nomark _)) (pw_or (pt_cmpR op_gt (pv 1) (pe_cst C.hiR) (nomark _)) (pw_or (pt_cmpR op_gt (pv 2) (pe_cst C.hiL) (nomark _)) (pw_or1 (pt_cmpR op_gt (pv 3) (pv 1) (nomark _)))))))
      (pss_one (ps_ret (pe_lst (pa_cons (pe_cst C.out) pa_nil)))) pss_nil) (pss_cons (ps_expr (pe_mt GA T.cH hr (pv 0) (pa_cons (pv 1) (pa_cons (pv 2) (pa_cons (pv 3) pa_nil))))) (pss_one (ps_ret (pe_lst (pa_cons pe_int pa_nil))))), ?_⟩
    have bad : (r = 0 ∨ Rp03.FAR < r ∨ Rp03.FAR < n ∨ r < s) → ∀ q, H q = none → Q (.ref q) (upd H q (.lst [V.int (-1)])) := fun e => ans_no k A (by show (if _ then _ else _) = _; rw [if_pos e])
    refine ⟨_, rfl, rfl, _, rfl, ?_⟩
    refine ite2 (fun e => ⟨one_line, bad (.inl (by have := of_decide_eq_true e; injection this with this; omega))⟩) (fun e1 => ?_)
    refine ⟨_, rfl, _, _, rfl, rfl, _, rfl, ?_⟩
    refine ite2 (fun e => ⟨one_line, bad (.inr (.inl (by have e' : (1000000 : Int) < (r : Int) := of_decide_eq_true e; show 1000000 < r; omega)))⟩) (fun e2 => ?_)
    refine ⟨_, rfl, _, _, rfl, rfl, _, rfl, ?_⟩
    refine ite2 (fun e => ⟨one_line, bad (.inr (.inr (.inl (by have e' : (1000000 : Int) < (n : Int) := of_decide_eq_true e; show 1000000 < n; omega))))⟩) (fun e3 => ?_)
    refine ⟨_, rfl, _, rfl, _, _, rfl, rfl, _, rfl, ?_⟩
    refine ite2 (fun e => ⟨one_line, bad (.inr (.inr (.inr (by have e' : (r : Int) < (s : Int) := of_decide_eq_true e; omega))))⟩) (fun e4 => ?_)
    have good : ¬ (r = 0 ∨ Rp03.FAR < r ∨ Rp03.FAR < n ∨ r < s) := by
      rintro (e | e | e | e)
      · exact e1 (decide_eq_true (by rw [e]; rfl))
      · exact e2 (decide_eq_true (by have e' : 1000000 < r := e; show (1000000 : Int) < (r : Int); omega))
      · exact e3 (decide_eq_true (by have e' : 1000000 < n := e; show (1000000 : Int) < (n : Int); omega))
      · exact e4 (decide_eq_true (by show (r : Int) < (s : Int); omega))
    obtain ⟨dx, d, l, bp, ep, A⟩ := A
    refine ⟨_, rfl, p, dx, _, rfl, A.at_, ho_no (by decide +kernel), _, rfl, _, rfl, _, rfl, p, dx, _, r, n, s, rfl, A.at_, .inr ⟨_, rfl, rfl⟩, fun H1 d1 l1 b1 N => ?_⟩
    refine ⟨one_line, ans_one k (h1 := newHo r n s) (by show (if _ then _ else _) = _; rw [if_neg good]; rfl) ⟨dx, d1, l1, [(b1, ⟨0, 0, s⟩)], [], ?_⟩⟩
    have z0 : ∀ x o, H0 x = some o → x ≠ p := fun x o e w => by rw [w, A.p0] at e; cases e
    exact ⟨fun x o e => N.keep x o (A.same x o e) (z0 x o e), A.nt, tabs_but A.tabs A.at_ N.keep, Bc.good_begins, A.p0, A.same.free N.fd, A.same.free N.fl, rfl, rfl, N.at_, N.dict, by simp, fun q hq => (by rw [List.mem_singleton.mp hq]; exact ⟨A.same.free N.fb, N.br⟩), N.lst, fun q hq => (by cases hq)⟩
theorem tabs_d {T : Tb} {H H1 : Hp} {d : Addr} {kvs : List (Key × V)} (t : Tabs T H) (hp : H d = some (.dK kvs)) (k : ∀ x o, H x = some o → x ≠ d → H1 x = some o) : Tabs T H1 := fun y hy => by
  obtain ⟨ps, h1, h2, h3⟩ := t y hy
  refine ⟨ps, k _ _ h1 (fun z => by rw [z, hp] at h1; cases h1), h2, fun pos cv hc => ?_⟩
  obtain ⟨a, e1, e2⟩ := h3 pos cv hc
  exact ⟨a, e1, k _ _ e2 (fun z => by rw [z, hp] at e2; unfold CodeO at e2; cases e2)⟩
/-- the dict of branches written -/
theorem HAt.dput {H0 H : Hp} {p dx d l : Addr} {h h1 : Ho} {bp bp1 : List (Addr × Br)} {ep : List (Addr × En)} (A : HAt c Ts H0 H p h dx d l bp ep) (g : Bc.Good h1) (e1 : h1.room = h.room) (e2 : h1.life = h.life) (e3 : h1.clock = h.clock) (e4 : h1.today = h.today) (e5 : h1.entries = h.entries) (eb : h1.branches = bp1.map (·.2))
    (nd : (bp1.map (·.1)).Nodup) (br : ∀ q ∈ bp1, H0 q.1 = none ∧ BrAt c H q.1 q.2) : HAt c Ts H0 (upd H d (.dK (dictOf bp1))) p h1 dx d l bp1 ep := by
  have kp : ∀ x o, H x = some o → x ≠ d → upd H d (.dK (dictOf bp1)) x = some o := fun x o z z1 => by rw [upd_ne z1]; exact z
  have ef : hoF h1 d l = hoF h d l := by show fz nH [iN h1.room, iN h1.life, iN h1.today, iN h1.clock, _, _] = _; rw [e1, e2, e3, e4]
  refine ⟨fun b o z => kp b o (A.same b o z) (fun w => by rw [w, A.d0] at z; cases z), A.nt, tabs_d A.tabs A.dict kp, g, A.p0, A.d0, A.l0, eb, e5.trans A.ee, ?_, upd_same, nd, fun q hq => ?_, kp _ _ A.lst (ne_of A.lst A.dict (by intro z; cases z)), fun q hq => ?_⟩
  · rw [ef]; exact kp _ _ A.at_ (ne_of A.at_ A.dict (by intro z; cases z))
  · obtain ⟨y0, db, y1⟩ := br q hq
    exact ⟨y0, db, kp _ _ y1 (ne_of y1 A.dict (by intro z; cases z))⟩
  · obtain ⟨y0, de, ka, ka0, y1, y2⟩ := A.en q hq
    exact ⟨y0, de, ka, ka0, kp _ _ y1 (ne_of y1 A.dict (by intro z; cases z)), kp _ _ y2 (ne_of y2 A.dict (by intro z; cases z))⟩
theorem putK_new {bp : List (Addr × Br)} {n : Nat} {v : V} (h : n ∉ bp.map fun q => q.2.id) : putK (dictOf bp) (Sum.inl (n : Int)) v = dictOf bp ++ [(Sum.inl (n : Int), v)] := by
  unfold putK
  rw [if_neg]
  intro w
  obtain ⟨kv, hk, e⟩ := List.any_eq_true.mp w
  obtain ⟨q, hq, rfl⟩ := List.mem_map.mp hk
  have e1 := of_decide_eq_true e
  injection e1 with e1
  exact h (List.mem_map.mpr ⟨q, hq, by omega⟩)
theorem scOpens : FnScope ["house", "number", "parent", "share"] ["house", "number", "parent", "share"] (defScope sOpens) := ⟨rfl, rfl, rfl, by decide +kernel, rfl, by decide +kernel, by decide +kernel⟩
theorem ok_opens {f : Addr} {fd : FuncData} (F : Fun K "answer_opens" "answer_opens" sOpens f fd) (T : Txt K mg c) (C : Cst mg) (GH : Mt P w K mg base c.H "has_branch" 1 ["self", "number"] (spHas c Ts)) (GS : Mt P w K mg base c.H "shares_together" 1 ["self"] (spShares c Ts))
    (GB : Ms P w K mg base "Branch" c.B 1 ["self", "parent", "share"] (spBrInit c)) : FnOk P w K mg base L2.CX0 3 f fd ["house", "number", "parent", "share"] (spOpens c Ts) := by
  refine F.ok scOpens (fun vs H Q E h => ?_) (fun cdv A outer s H vs Q E hr h => ?_)
  · obtain ⟨H0, p, h, b, a, s, rfl, _⟩ := h
    rfl
  · obtain ⟨H0, p, h, b, a, s, rfl, AA, k⟩ := h
    refine ⟨_, pss_cons (ps_if (pt_val (pe_mt GH T.cH hr (pv 0) (pa_cons (pv 1) pa_nil))) (pss_one (ps_ret (pe_lst (pa_cons (pe_cst C.there) pa_nil)))) pss_nil)
      (pss_cons (ps_if (pt_not (pt_val (pe_mt GH T.cH hr (pv 0) (pa_cons (pv 2) pa_nil)))) (pss_one (ps_ret (pe_lst (pa_cons (pe_cst C.noB) pa_nil)))) pss_nil)
      (pss_cons (ps_if (pt_cmpR op_gt (pe_op op_add (pe_mt0 GS T.cH hr (pv 0)) (pv 3)) (pe_fld (pv 0) rfl) (nomark _)) (pss_one (ps_ret (pe_lst (pa_cons (pe_cst C.out) pa_nil)))) pss_nil)
      (pss_cons (ps_if (pt_cmpR op_ge (pe_callB call_lenD (by rfl) T.len PySem.boot_len (pa_cons (pe_fld (pv 0) rfl) pa_nil)) (pe_cst C.mB) (nomark _)) (pss_one (ps_ret (pe_lst (pa_cons (pe_cst C.many) pa_nil)))) pss_nil)
      (pss_cons (ps_dput (hu_of hr) (pe_fld (pv 0) rfl) (pv 1) (pe_ms GB hr (pa_cons (pv 2) (pa_cons (pv 3) pa_nil))) rfl)
      (pss_one (ps_ret (pe_lst (pa_cons (pe_callB call_lenD (by rfl) T.len PySem.boot_len (pa_cons (pe_fld (pv 0) rfl) pa_nil)) pa_nil)))))))), ?_⟩
    obtain ⟨dx, d, l, bp, ep, A⟩ := id AA
    refine ⟨_, rfl, p, dx, _, rfl, A.at_, ho_no (by decide +kernel), _, rfl, H0, p, h, b, rfl, AA, _, rfl, ?_⟩
    refine ite2 (fun e => ⟨one_line, ans_no k AA (by show (if _ then _ else _) = _; rw [if_pos e])⟩) (fun e1 => ?_)
    refine ⟨_, rfl, p, dx, _, rfl, A.at_, ho_no (by decide +kernel), _, rfl, H0, p, h, a, rfl, AA, _, rfl, ?_⟩
    refine ite2 (fun e => ⟨one_line, ans_no k AA (by show (if _ then _ else (if _ then _ else _)) = _; rw [if_neg e1, if_pos (by simpa using e)])⟩) (fun e2 => ?_)
    have e2' : ¬ h.has a = false := by simpa using e2
    refine ⟨_, rfl, p, dx, _, rfl, A.at_, ho_no (by decide +kernel), H0, p, h, rfl, AA, fun H1 s1 => ?_⟩
    have AA1 := AA.grow s1
    have A1 := A.grow s1
    refine ⟨_, rfl, _, _, rfl, rfl, _, rfl, p, c.H, dx, _, _, rfl, A1.at_, T.cH, T.hR, ho_room, _, _, rfl, rfl, _, rfl, ?_⟩
    refine ite2 (fun e => ⟨one_line, ans_no k AA1 (by
      have e' : (h.room : Int) < (h.shares : Int) + (s : Int) := of_decide_eq_true e
      show (if _ then _ else (if _ then _ else (if _ then _ else _))) = _
      rw [if_neg e1, if_neg e2', if_pos (by omega)])⟩) (fun e3 => ?_)
    have e3' : ¬ h.room < h.shares + s := fun w => e3 (decide_eq_true (by show (h.room : Int) < (h.shares : Int) + (s : Int); omega))
    have lb : (dictOf bp).length = h.branches.length := by rw [A.eb, List.length_map, List.length_map]
    have nb := A.good.nb
    refine ⟨_, rfl, p, c.H, dx, _, _, rfl, A1.at_, T.cH, T.hB, ho_branches, d, _, rfl, A1.dict, _, _, rfl, rfl, _, rfl, ?_⟩
    refine ite2 (fun e => ⟨one_line, ans_no k AA1 (by
      have e' : (8 : Int) ≤ ((dictOf bp).length : Int) := of_decide_eq_true e
      show (if _ then _ else (if _ then _ else (if _ then _ else (if _ then _ else _)))) = _
      rw [if_neg e1, if_neg e2', if_neg e3', if_pos (show h.branches.length = Rp03.BRANCHES by show h.branches.length = 8; omega)])⟩) (fun e4 => ?_)
    have e4' : h.branches.length ≠ 8 := fun w => e4 (decide_eq_true (by show (8 : Int) ≤ ((dictOf bp).length : Int); omega))
    have hb0 : h.has b = false := by simpa using e1
    have gd := Bc.good_opens (s := s) A.good hb0 (by simpa using e2') e4'
    refine ⟨_, rfl, _, rfl, fun x dxb nx ndx nex => ?_⟩
    refine ⟨x, dxb, a, s, rfl, upd_same, fun H2 h2 k2 => ⟨rfl, ?_⟩⟩
    have s2 : Same H1 H2 := fun y o e => by
      have y1 := ne_of_none e nx
      rw [k2 y y1, upd_ne y1, upd_ne (ne_of_none e ndx)]
      exact e
    have A2 := A1.grow s2
    have nin : b ∉ bp.map fun q => q.2.id := by
      have z := Bc.has_false.mp hb0
      rw [A.eb, List.map_map] at z
      exact z
    refine ⟨_, rfl, p, c.H, dx, _, _, rfl, A2.at_, T.cH, T.hB, ho_branches, _, rfl, d, _, rfl, DPut.k (k := Sum.inl (b : Int)) A2.dict (by rw [lb]; exact Nat.lt_of_le_of_lt nb (by decide)), ?_⟩
    rw [putK_new nin]
    have A3 := A2.dput (h1 := { h with branches := h.branches ++ [⟨b, a, s⟩] }) (bp1 := bp ++ [(x, ⟨b, a, s⟩)]) gd rfl rfl rfl rfl rfl (by show h.branches ++ _ = _; rw [A.eb, List.map_append]; rfl) (by
      rw [List.map_append, List.nodup_append]
      refine ⟨A.bnd, by simp, fun y hy z hz => ?_⟩
      rw [List.mem_singleton.mp hz]
      obtain ⟨q, hq, rfl⟩ := List.mem_map.mp hy
      obtain ⟨_, db, y1⟩ := A1.br q hq
      exact ne_of_none y1 nx) (fun q hq => by
      rcases List.mem_append.mp hq with hq | hq
      · exact A2.br q hq
      · rw [List.mem_singleton.mp hq]
        exact ⟨A1.same.free nx, dxb, h2⟩)
    rw [show dictOf bp ++ [(Sum.inl (b : Int), V.ref x)] = dictOf (bp ++ [(x, (⟨b, a, s⟩ : Br))]) by show _ = List.map _ (bp ++ _); rw [List.map_append]; rfl]
    refine ⟨_, rfl, p, c.H, dx, _, _, rfl, A3.at_, T.cH, T.hB, ho_branches, d, _, rfl, A3.dict, one_line, ?_⟩
    have ln : (dictOf (bp ++ [(x, (⟨b, a, s⟩ : Br))])).length = h.branches.length + 1 := by rw [List.length_map, List.length_append, A.eb, List.length_map]; rfl
    rw [ln]
    exact ans_one k (by
      show (if _ then _ else (if _ then _ else (if _ then _ else (if _ then _ else _)))) = _
      rw [if_neg e1, if_neg e2', if_neg e3', if_neg (show ¬ h.branches.length = Rp03.BRANCHES from e4')]) ⟨dx, d, l, _, ep, A3⟩
theorem ne_be {x : Br} {e : En} {ka : Addr} : brF x ≠ enF e ka := fun z => by
  have e1 : (brF x).lookup ("parent" : Str) = some (iN x.parent) := br_parent
  rw [z, fz_none (by decide +kernel)] at e1
  cases e1
/-- branches written: nothing else is another -/
theorem HAt.brs {H0 H H1 : Hp} {p dx d l : Addr} {h h1 : Ho} {bp bp1 : List (Addr × Br)} {ep : List (Addr × En)} (A : HAt c Ts H0 H p h dx d l bp ep) (k : ∀ x o, H x = some o → x ∉ bp.map (·.1) → H1 x = some o) (g : Bc.Good h1) (e1 : h1.room = h.room) (e2 : h1.life = h.life) (e3 : h1.clock = h.clock) (e4 : h1.today = h.today) (e5 : h1.entries = h.entries)
    (eb : h1.branches = bp1.map (·.2)) (ea : bp1.map (·.1) = bp.map (·.1)) (ed : dictOf bp1 = dictOf bp) (br : ∀ q ∈ bp1, BrAt c H1 q.1 q.2) : HAt c Ts H0 H1 p h1 dx d l bp1 ep := by
  have ef : hoF h1 d l = hoF h d l := by show fz nH [iN h1.room, iN h1.life, iN h1.today, iN h1.clock, _, _] = _; rw [e1, e2, e3, e4]
  have nB : ∀ x o, H x = some o → (∀ C dx fs, o ≠ .ins C dx fs) → x ∉ bp.map (·.1) := fun x o e n m => by
    obtain ⟨q, hq, rfl⟩ := List.mem_map.mp m
    obtain ⟨_, db, y1⟩ := A.br q hq
    rw [y1] at e
    exact n _ _ _ (Option.some.inj e).symm
  have k2 : ∀ x o, H x = some o → (∀ C dx fs, o ≠ .ins C dx fs) → H1 x = some o := fun x o e n => k x o e (nB x o e n)
  refine ⟨fun b o z => k b o (A.same b o z) (fun m => ?_), A.nt, fun y hy => ?_, g, A.p0, A.d0, A.l0, eb, e5.trans A.ee, ?_, by rw [ed]; exact k2 _ _ A.dict (fun _ _ _ z => by cases z), by rw [ea]; exact A.bnd, fun q hq => ⟨?_, br q hq⟩, k2 _ _ A.lst (fun _ _ _ z => by cases z), fun q hq => ?_⟩
  · obtain ⟨q, hq, rfl⟩ := List.mem_map.mp m
    rw [(A.br q hq).1] at z
    cases z
  · obtain ⟨ps, h1, h2, h3⟩ := A.tabs y hy
    refine ⟨ps, k2 _ _ h1 (fun _ _ _ z => by cases z), h2, fun pos cv hc => ?_⟩
    obtain ⟨a, w1, w2⟩ := h3 pos cv hc
    exact ⟨a, w1, k2 _ _ w2 (fun _ _ _ z => by unfold CodeO at z; cases z)⟩
  · rw [ef]
    refine k _ _ A.at_ fun m => ?_
    obtain ⟨q, hq, e⟩ := List.mem_map.mp m
    exact A.bp_ne q hq e
  · have m : q.1 ∈ bp.map (·.1) := by rw [← ea]; exact List.mem_map.mpr ⟨q, hq, rfl⟩
    obtain ⟨y, hy, e⟩ := List.mem_map.mp m
    rw [← e]
    exact (A.br y hy).1
  · obtain ⟨y0, de, ka, ka0, y1, y2⟩ := A.en q hq
    refine ⟨y0, de, ka, ka0, k _ _ y1 (fun m => ?_), k2 _ _ y2 (fun _ _ _ z => by cases z)⟩
    obtain ⟨y, hy, e⟩ := List.mem_map.mp m
    obtain ⟨_, db, z1⟩ := A.br y hy
    rw [e, y1] at z1
    injection z1 with z1
    injection z1 with _ _ z1
    exact ne_be z1.symm
theorem find_bp {H0 H : Hp} {p dx d l : Addr} {h : Ho} {bp : List (Addr × Br)} {ep : List (Addr × En)} (A : HAt c Ts H0 H p h dx d l bp ep) {n : Nat} (hn : h.has n = true) : ∃ b ∈ bp, b.2.id = n ∧ valV (dictOf bp) (Sum.inl (n : Int)) = some (V.ref b.1) := by
  have hm := Bc.has_iff.mp hn
  rw [A.eb, List.map_map] at hm
  obtain ⟨b, hb⟩ : ∃ b, bp.find? (fun q => q.2.id == n) = some b := by
    cases e : bp.find? (fun q => q.2.id == n) with
    | some b => exact ⟨b, rfl⟩
    | none =>
      obtain ⟨b, hb, e2⟩ := List.mem_map.mp hm
      exact absurd (beq_iff_eq.mpr e2) (List.find?_eq_none.mp e b hb)
  exact ⟨b, List.mem_of_find?_eq_some hb, eq_of_beq (List.find?_some (p := fun q : Addr × Br => q.2.id == n) hb), by rw [valV_dict, hb]; rfl⟩
/-- one address, one branch -/
theorem bp_inj {H0 H : Hp} {p dx d l : Addr} {h : Ho} {bp : List (Addr × Br)} {ep : List (Addr × En)} (A : HAt c Ts H0 H p h dx d l bp ep) {x y : Addr × Br} (hx : x ∈ bp) (hy : y ∈ bp) (e : x.2.id = y.2.id) : x = y := by
  have nd := A.good.ids
  rw [A.eb, List.map_map] at nd
  clear A
  induction bp with
  | nil => cases hx
  | cons z r ih =>
    rw [List.map_cons, List.nodup_cons] at nd
    rcases List.mem_cons.mp hx with ex | hx
    · rcases List.mem_cons.mp hy with ey | hy
      · rw [ex, ey]
      · exact absurd (List.mem_map.mpr ⟨y, hy, by rw [← ex]; exact e.symm⟩) nd.1
    · rcases List.mem_cons.mp hy with ey | hy
      · exact absurd (List.mem_map.mpr ⟨x, hx, by rw [← ey]; exact e⟩) nd.1
      · exact ih hx hy nd.2
theorem put_share {x : Br} {n : Nat} : putF "share" (iN n) (brF x) = brF { x with share := n } := fz_put (i := 1) (by decide +kernel) (by show 1 < 2; decide)
theorem put_parent {x : Br} {n : Nat} : putF "parent" (iN n) (brF x) = brF { x with parent := n } := fz_put (i := 0) (by decide +kernel) (by show 0 < 2; decide)
theorem scShare : FnScope ["house", "number", "part", "branch"] ["house", "number", "part"] (defScope sShare) := ⟨rfl, rfl, rfl, by decide +kernel, rfl, by decide +kernel, by decide +kernel⟩
theorem le_sum {a : Nat} : ∀ {l : List Nat}, a ∈ l → a ≤ l.sum
  | [], h => by cases h
  | b :: l, h => by
    rw [List.sum_cons]
    rcases List.mem_cons.mp h with e | e
    · omega
    · have := le_sum e
      omega
theorem fst_inj {α : Type} : ∀ {bp : List (Addr × α)}, (bp.map (·.1)).Nodup → ∀ {u v : Addr × α}, u ∈ bp → v ∈ bp → u.1 = v.1 → u = v
  | [], _, _, _, hu, _, _ => by cases hu
  | t :: r, nd, u, v, hu, hv, euv => by
    rw [List.map_cons, List.nodup_cons] at nd
    rcases List.mem_cons.mp hu with eu | hu
    · rcases List.mem_cons.mp hv with ev | hv
      · rw [eu, ev]
      · exact absurd (List.mem_map.mpr ⟨v, hv, by rw [← eu]; exact euv.symm⟩) nd.1
    · rcases List.mem_cons.mp hv with ev | hv
      · exact absurd (List.mem_map.mpr ⟨u, hu, by rw [← ev]; exact euv⟩) nd.1
      · exact fst_inj nd.2 hu hv euv
theorem share_le {h : Ho} {x : Br} (hx : x ∈ h.branches) : x.share ≤ h.shares := by
  unfold Rp03.House.shares
  rw [Bc.sum_eq]
  exact le_sum (List.mem_map.mpr ⟨x, hx, rfl⟩)
theorem ok_share {f : Addr} {fd : FuncData} (F : Fun K "answer_share" "answer_share" sShare f fd) (T : Txt K mg c) (C : Cst mg) (GH : Mt P w K mg base c.H "has_branch" 1 ["self", "number"] (spHas c Ts)) (GS : Mt P w K mg base c.H "shares_together" 1 ["self"] (spShares c Ts)) :
    FnOk P w K mg base L2.CX0 2 f fd ["house", "number", "part"] (spShare c Ts) := by
  refine F.ok scShare (fun vs H Q E h => ?_) (fun cdv A outer s H vs Q E hr h => ?_)
  · obtain ⟨H0, p, h, b, s, rfl, _⟩ := h
    rfl
  · obtain ⟨H0, p, h, b, s, rfl, AA, k⟩ := h
    refine ⟨_, pss_cons (ps_if (pt_not (pt_val (pe_mt GH T.cH hr (pv 0) (pa_cons (pv 1) pa_nil)))) (pss_one (ps_ret (pe_lst (pa_cons (pe_cst C.noB) pa_nil)))) pss_nil)
      (pss_cons (ps_set (i := 3) scShare.nd rfl (Or.inl rfl) (pe_dget (hu_of hr) (pe_fld (pv 0) rfl) (pv 1) (fun _ _ => rfl)))
      (pss_cons (ps_if (pt_cmpR op_gt (pe_op op_add (pe_op op_sub (pe_mt0 GS T.cH hr (pv 0)) (pe_fld (pv 3) rfl)) (pv 2)) (pe_fld (pv 0) rfl) (nomark _)) (pss_one (ps_ret (pe_lst (pa_cons (pe_cst C.out) pa_nil)))) pss_nil)
      (pss_cons (ps_fld (pv 3) (pv 2) rfl) (pss_one (ps_ret (pe_lst (pa_cons pe_int pa_nil))))))), ?_⟩
    obtain ⟨dx, d, l, bp, ep, A⟩ := id AA
    refine ⟨_, rfl, p, dx, _, rfl, A.at_, ho_no (by decide +kernel), _, rfl, H0, p, h, b, rfl, AA, _, rfl, ?_⟩
    refine ite2 (fun e => ⟨one_line, ans_no k AA (by show (if _ then _ else _) = _; rw [if_pos (by simpa using e)])⟩) (fun e1 => ?_)
    have e1' : h.has b = true := by simpa using e1
    have e1'' : ¬ h.has b = false := by simpa using e1
    obtain ⟨x, hx, xid, hv⟩ := find_bp A e1'
    have hxb : x.2 ∈ h.branches := by rw [A.eb]; exact List.mem_map.mpr ⟨x, hx, rfl⟩
    have hget : DGet H d (kV (Sum.inl (b : Int))) (some (V.ref x.1)) := by rw [← hv]; exact DGet.k A.dict
    refine ⟨_, rfl, p, c.H, dx, _, _, rfl, A.at_, T.cH, T.hB, ho_branches, _, rfl, d, _, rfl, hget, ?_⟩
    refine ⟨_, rfl, p, dx, _, rfl, A.at_, ho_no (by decide +kernel), H0, p, h, rfl, AA, fun H1 s1 => ?_⟩
    have AA1 := AA.grow s1
    have A1 := A.grow s1
    obtain ⟨_, db, hb1⟩ := A1.br x hx
    refine ⟨_, rfl, x.1, c.B, db, _, _, rfl, hb1, T.cB, T.bS, br_share, _, _, rfl, rfl, _, rfl, _, _, rfl, rfl, _, rfl, p, c.H, dx, _, _, rfl, A1.at_, T.cH, T.hR, ho_room, _, _, rfl, rfl, _, rfl, ?_⟩
    have sh : h.share b = x.2.share := by rw [← xid]; exact Bc.share_of A.good.ids hxb
    have le := share_le hxb
    refine ite2 (fun e => ⟨one_line, ans_no k AA1 (by
      have e' : (h.room : Int) < (h.shares : Int) - (x.2.share : Int) + (s : Int) := of_decide_eq_true e
      show (if _ then _ else (if _ then _ else _)) = _
      rw [if_neg e1'', if_pos (by rw [sh]; omega)])⟩) (fun e2 => ?_)
    have e2' : ¬ h.room < h.shares - h.share b + s := fun w => e2 (decide_eq_true (by rw [sh] at w; show (h.room : Int) < (h.shares : Int) - (x.2.share : Int) + (s : Int); omega))
    refine ⟨_, rfl, _, rfl, x.1, c.B, db, _, rfl, hb1, T.cB, T.bS, (by show 2 < 1000; decide), ?_⟩
    rw [put_share]
    refine ⟨one_line, ans_one k (h1 := { h with branches := h.branches.map fun x => if x.id = b then { x with share := s } else x }) (by
      show (if _ then _ else (if _ then _ else _)) = _
      rw [if_neg e1'', if_neg e2']) ⟨dx, d, l, bp.map (fun y => (y.1, if y.2.id = b then { y.2 with share := s } else y.2)), ep, ?_⟩⟩
    refine A1.brs (fun y o e m => ?_) (Bc.good_share A.good) rfl rfl rfl rfl rfl ?_ (by rw [List.map_map]; rfl) ?_ (fun q hq => ?_)
    · rw [upd_ne fun z => m (by rw [z]; exact List.mem_map.mpr ⟨x, hx, rfl⟩)]
      exact e
    · show h.branches.map _ = _
      rw [A.eb, List.map_map, List.map_map]
      rfl
    · show List.map _ (List.map _ bp) = List.map _ bp
      rw [List.map_map]
      refine List.map_congr_left fun y _ => ?_
      show (Sum.inl (((if y.2.id = b then ({ y.2 with share := s } : Br) else y.2).id : Nat) : Int), V.ref y.1) = (Sum.inl ((y.2.id : Nat) : Int), V.ref y.1)
      split <;> rfl
    · obtain ⟨y, hy, rfl⟩ := List.mem_map.mp hq
      by_cases e : y.2.id = b
      · have ey := bp_inj A hy hx (e.trans xid.symm)
        refine ⟨db, ?_⟩
        show upd H1 x.1 _ y.1 = some (.ins c.B db (brF (if y.2.id = b then { y.2 with share := s } else y.2)))
        rw [if_pos e, ey, upd_same]
      · obtain ⟨_, dy, y1⟩ := A1.br y hy
        refine ⟨dy, ?_⟩
        show upd H1 x.1 _ y.1 = some (.ins c.B dy (brF (if y.2.id = b then { y.2 with share := s } else y.2)))
        have nxy : y.1 ≠ x.1 := fun z => e (by rw [fst_inj A.bnd hy hx z]; exact xid)
        rw [if_neg e, upd_ne nxy]
        exact y1
end
end Bp

set_option Elab.async false
set_option linter.all false
set_option maxRecDepth 100000
set_option maxHeartbeats 4000000
namespace Bp
open PySem PySem.Spec PyProof.Rows L2 LamX
/-! ### closes -/
theorem contents_V (gp : List (Addr × En)) : outV (Rp03.contents (gp.map (·.2))) = (gp.length :: gp.map fun x => x.2.content).map iN := by
  show List.map V.int ((((gp.map (·.2)).length : Nat) : Int) :: List.map _ (List.map _ (gp.map (·.2)))) = _
  rw [List.length_map, List.map_cons, List.map_cons]
  simp only [List.map_map]
  rfl
section
variable {P : Program} {w : World} {K : PySem.W.Frag} {mg : Str → Option Value} {base : Heap} {c : Cl} {Ts : Tb}
theorem dropK_dict {bp : List (Addr × Br)} {n : Nat} : dropK (dictOf bp) (Sum.inl (n : Int)) = dictOf (bp.filter fun q => q.2.id != n) := by
  unfold dropK
  show List.filter _ (List.map _ bp) = List.map _ (List.filter _ bp)
  rw [List.filter_map]
  refine congrArg _ (List.filter_congr fun q _ => ?_)
  show decide ((Sum.inl ((q.2.id : Nat) : Int) : Key) ≠ Sum.inl (n : Int)) = (q.2.id != n)
  rw [Bool.eq_iff_iff, decide_eq_true_eq, bne_iff_ne]
  exact ⟨fun z w => z (by rw [w]), fun z w => z (by injection w with w; omega)⟩
/-- branches and their dict written: nothing else is another -/
theorem HAt.brd {H0 H H1 : Hp} {p dx d l : Addr} {h h1 : Ho} {bp bp1 : List (Addr × Br)} {ep : List (Addr × En)} (A : HAt c Ts H0 H p h dx d l bp ep) (k : ∀ x o, H x = some o → x ∉ bp.map (·.1) → x ≠ d → H1 x = some o) (g : Bc.Good h1) (e1 : h1.room = h.room) (e2 : h1.life = h.life) (e3 : h1.clock = h.clock) (e4 : h1.today = h.today) (e5 : h1.entries = h.entries)
    (eb : h1.branches = bp1.map (·.2)) (ds : H1 d = some (.dK (dictOf bp1))) (nd : (bp1.map (·.1)).Nodup) (sub : ∀ q ∈ bp1, q.1 ∈ bp.map (·.1)) (br : ∀ q ∈ bp1, BrAt c H1 q.1 q.2) : HAt c Ts H0 H1 p h1 dx d l bp1 ep := by
  have ef : hoF h1 d l = hoF h d l := by show fz nH [iN h1.room, iN h1.life, iN h1.today, iN h1.clock, _, _] = _; rw [e1, e2, e3, e4]
  have nB : ∀ x o, H x = some o → (∀ C dx fs, o ≠ .ins C dx fs) → x ∉ bp.map (·.1) := fun x o e n m => by
    obtain ⟨q, hq, rfl⟩ := List.mem_map.mp m
    obtain ⟨_, db, y1⟩ := A.br q hq
    rw [y1] at e
    exact n _ _ _ (Option.some.inj e).symm
  have k2 : ∀ x o, H x = some o → (∀ C dx fs, o ≠ .ins C dx fs) → (∀ kv, o ≠ .dK kv) → H1 x = some o := fun x o e n m => k x o e (nB x o e n) (fun z => by rw [z, A.dict] at e; exact m _ (Option.some.inj e).symm)
  refine ⟨fun b o z => k b o (A.same b o z) (fun m => ?_) (fun w => by rw [w, A.d0] at z; cases z), A.nt, fun y hy => ?_, g, A.p0, A.d0, A.l0, eb, e5.trans A.ee, ?_, ds, nd, fun q hq => ⟨?_, br q hq⟩, k2 _ _ A.lst (fun _ _ _ z => by cases z) (fun _ z => by cases z), fun q hq => ?_⟩
  · obtain ⟨q, hq, rfl⟩ := List.mem_map.mp m
    rw [(A.br q hq).1] at z
    cases z
  · obtain ⟨ps, h1, h2, h3⟩ := A.tabs y hy
    refine ⟨ps, k2 _ _ h1 (fun _ _ _ z => by cases z) (fun _ z => by cases z), h2, fun pos cv hc => ?_⟩
    obtain ⟨a, w1, w2⟩ := h3 pos cv hc
    exact ⟨a, w1, k2 _ _ w2 (fun _ _ _ z => by unfold CodeO at z; cases z) (fun _ z => by unfold CodeO at z; cases z)⟩
  · rw [ef]
    refine k _ _ A.at_ (fun m => ?_) (ne_of A.at_ A.dict (by intro z; cases z))
    obtain ⟨q, hq, e⟩ := List.mem_map.mp m
    exact A.bp_ne q hq e
  · obtain ⟨y, hy, e⟩ := List.mem_map.mp (sub q hq)
    rw [← e]
    exact (A.br y hy).1
  · obtain ⟨y0, de, ka, ka0, y1, y2⟩ := A.en q hq
    refine ⟨y0, de, ka, ka0, k _ _ y1 (fun m => ?_) (ne_of y1 A.dict (by intro z; cases z)), k2 _ _ y2 (fun _ _ _ z => by cases z) (fun _ z => by cases z)⟩
    obtain ⟨y, hy, e⟩ := List.mem_map.mp m
    obtain ⟨_, db, z1⟩ := A.br y hy
    rw [e, y1] at z1
    injection z1 with z1
    injection z1 with _ _ z1
    exact ne_be z1.symm
abbrev nmCloses : List Str := ["house", "number", "closed", "branch", "going"]
theorem scCloses : FnScope nmCloses ["house", "number"] (defScope sCloses) := ⟨rfl, rfl, rfl, by decide +kernel, rfl, by decide +kernel, by decide +kernel⟩
def newP (b a : Nat) (x : Br) : Br := if x.parent = b then { x with parent := a } else x
theorem newP_id {b a : Nat} {x : Br} : (newP b a x).id = x.id := by unfold newP; split <;> rfl
theorem ok_closes {f : Addr} {fd : FuncData} (F : Fun K "answer_closes" "answer_closes" sCloses f fd) (T : Txt K mg c) (C : Cst mg) (GH : Mt P w K mg base c.H "has_branch" 1 ["self", "number"] (spHas c Ts)) (GO : Fn P w K mg base "entries_of_branch" 1 ["entries", "number"] (spOfBranch c))
    (GD : Mt P w K mg base c.H "drop_entries" 2 ["self", "going"] (spDrop c Ts)) (GC : Fn P w K mg base "counted_contents" 1 ["entries"] (spCounted c)) : FnOk P w K mg base L2.CX0 3 f fd ["house", "number"] (spCloses c Ts) := by
  refine F.ok scCloses (fun vs H Q E h => ?_) (fun cdv A outer s H vs Q E hr h => ?_)
  · obtain ⟨H0, p, h, b, rfl, _⟩ := h
    rfl
  · obtain ⟨H0, p, h, b, rfl, AA, k⟩ := h
    refine ⟨_, pss_cons (ps_if (pt_not (pt_val (pe_mt GH T.cH hr (pv 0) (pa_cons (pv 1) pa_nil)))) (pss_one (ps_ret (pe_lst (pa_cons (pe_cst C.noB) pa_nil)))) pss_nil)
      (pss_cons (ps_if (pt_cmpR op_eq (pv 1) pe_int (nomark _)) (pss_one (ps_ret (pe_lst (pa_cons (pe_cst C.zero) pa_nil)))) pss_nil)
      (pss_cons (ps_set (i := 2) scCloses.nd rfl (Or.inl rfl) (pe_dpop1 (pe_fld (pv 0) rfl) (pv 1) ⟨rfl, rfl, rfl, rfl⟩))
      (pss_cons (ps_lock (ps_for PassesOwn.never rfl (pi_values (pe_fld (pv 0) rfl)) (pg_name (i := 3) scCloses.nd rfl (Or.inl rfl)) (pss_one (ps_if (pt_cmpR op_eq (pe_fld (pv 3) rfl) (pv 1) (nomark _)) (pss_one (ps_fld (pv 3) (pe_fld (pv 2) rfl) rfl)) pss_nil))))
      (pss_cons (ps_set (i := 4) scCloses.nd rfl (Or.inl rfl) (pe_fn GO hr (pa_cons (pe_fld (pv 0) rfl) (pa_cons (pv 1) pa_nil))))
      (pss_cons (ps_expr (pe_mt GD T.cH hr (pv 0) (pa_cons (pv 4) pa_nil)))
      (pss_one (ps_ret (pe_fn GC hr (pa_cons (pv 4) pa_nil))))))))), ?_⟩
    obtain ⟨dx, d, l, bp, ep, A⟩ := id AA
    refine ⟨_, rfl, p, dx, _, rfl, A.at_, ho_no (by decide +kernel), _, rfl, H0, p, h, b, rfl, AA, _, rfl, ?_⟩
    refine ite2 (fun e => ⟨one_line, ans_no k AA (by show (if _ then _ else _) = _; rw [if_pos (by simpa using e)])⟩) (fun e1 => ?_)
    have e1' : h.has b = true := by simpa using e1
    have e1'' : ¬ h.has b = false := by simpa using e1
    refine ⟨_, rfl, rfl, _, rfl, ?_⟩
    refine ite2 (fun e => ⟨one_line, ans_no k AA (by
      have e' : b = 0 := by have z := of_decide_eq_true e; injection z with z; omega
      show (if _ then _ else (if _ then _ else _)) = _
      rw [if_neg e1'', if_pos e'])⟩) (fun e2 => ?_)
    have e2' : b ≠ 0 := fun z => e2 (decide_eq_true (by rw [z]; rfl))
    obtain ⟨x, hx, xid, hv⟩ := find_bp A e1'
    have hxb : x.2 ∈ h.branches := by rw [A.eb]; exact List.mem_map.mpr ⟨x, hx, rfl⟩
    refine ⟨_, rfl, p, c.H, dx, _, _, rfl, A.at_, T.cH, T.hB, ho_branches, d, rfl, .inl ⟨_, .of A.dict⟩, _, rfl, _, Sum.inl (b : Int), _, A.dict, rfl, hv, ?_⟩
    rw [dropK_dict]
    obtain ⟨bq, ebq⟩ : ∃ bq, bq = bp.filter fun q => q.2.id != b := ⟨_, rfl⟩
    rw [← ebq]
    have bqm : ∀ q ∈ bq, q ∈ bp ∧ q.2.id ≠ b := fun q hq => by
      rw [ebq] at hq
      obtain ⟨h1, h2⟩ := List.mem_filter.mp hq
      exact ⟨h1, by simpa using h2⟩
    have bqnd : (bq.map (·.1)).Nodup := by rw [ebq]; exact A.bnd.sublist (List.Sublist.map _ List.filter_sublist)
    have npd : p ≠ d := ne_of A.at_ A.dict (by intro z; cases z)
    have xd : ∀ q ∈ bp, q.1 ≠ d := fun q hq => by
      obtain ⟨_, db, y1⟩ := A.br q hq
      exact ne_of y1 A.dict (by intro z; cases z)
    have xq : ∀ q ∈ bq, q.1 ≠ x.1 := fun q hq z => (bqm q hq).2 (by rw [fst_inj A.bnd (bqm q hq).1 hx z]; exact xid)
    obtain ⟨_, dbx, hxo⟩ := A.br x hx
    have few : bq.length ≤ 8 := by
      rw [ebq]
      refine Nat.le_trans (List.length_filter_le _ _) ?_
      have := A.good.nb
      rw [A.eb, List.length_map] at this
      exact this
    refine ⟨d, _, upd_same, trivial, fun od => ⟨_, rfl, p, c.H, dx, _, _, rfl, (by rw [upd_ne npd, upd_ne npd]; exact A.at_), T.cH, T.hB, ho_branches, d, od, _, rfl, upd_same, ?_⟩⟩
    have W0 := walk_values (d := d) (o := od) (kvs := dictOf bq)
    rw [List.length_map] at W0
    refine for_it W0 (fun i σ H1 => ∃ v3 : Option V, σ = [some (.ref p), some (iN b), some (.ref x.1), v3, none] ∧ H1 d = some (.frz od (.dK (dictOf bq))) ∧ (∀ y o, H y = some o → y ∉ bq.map (·.1) → y ≠ d → H1 y = some o) ∧ ∀ j q, bq[j]? = some q → BrAt c H1 q.1 (if j < i then newP b x.2.parent q.2 else q.2))
      ⟨none, rfl, upd_same, fun y o e _ yd => (by rw [upd_ne yd, upd_ne yd]; exact e), fun j q hq => ?_⟩ (fun i σ H1 _ ⟨_, _, h1, _⟩ => h1) ?_ ?_
    · rw [if_neg (Nat.not_lt_zero _)]
      obtain ⟨_, db, y1⟩ := A.br q (bqm q (List.mem_of_getElem? hq)).1
      have := xd q (bqm q (List.mem_of_getElem? hq)).1
      exact ⟨db, by rw [upd_ne this, upd_ne this]; exact y1⟩
    · rintro i y σ H1 H2 hi ⟨v3, rfl, g1, g2, g3⟩ ⟨rfl, key, hk⟩
      obtain ⟨q, hq⟩ : ∃ q, bq[i]? = some q := ⟨_, List.getElem?_eq_getElem hi⟩
      have ey : y = V.ref q.1 := by
        rw [List.getElem?_map, hq] at hk
        exact (Prod.mk.inj (Option.some.inj hk)).2.symm
      subst ey
      have hqm := List.mem_of_getElem? hq
      obtain ⟨dq, q1⟩ := g3 i q hq
      rw [if_neg (Nat.lt_irrefl _)] at q1
      have hx1 : H2 x.1 = some (HO.ins c.B dbx (brF x.2)) := g2 _ _ hxo (fun m => by
        obtain ⟨z, hz, e⟩ := List.mem_map.mp m
        exact xq z hz e) (xd x hx)
      have other : ∀ j z, bq[j]? = some z → j ≠ i → z.1 ≠ q.1 := fun j z hz nj e => nj (nd_ix (l := bq.map (·.1)) bqnd (by rw [List.getElem?_map, hz]; rfl) (by rw [List.getElem?_map, hq]; exact congrArg some e.symm))
      refine ⟨_, rfl, q.1, c.B, dq, _, _, rfl, q1, T.cB, T.bP, br_parent, _, rfl, rfl, _, rfl, ?_⟩
      refine ite2 (fun e => ?_) (fun e => ?_)
      · have e' : q.2.parent = b := by have z := of_decide_eq_true e; injection z with z; omega
        refine ⟨_, rfl, x.1, c.B, dbx, _, _, rfl, hx1, T.cB, T.bP, br_parent, _, rfl, q.1, c.B, dq, _, rfl, q1, T.cB, T.bP, (by show 2 < 1000; decide), ?_⟩
        rw [put_parent]
        refine ⟨_, rfl, by rw [upd_ne (xd q (bqm q hqm).1).symm]; exact g1, fun y o e m yd => ?_, fun j z hz => ?_⟩
        · rw [upd_ne fun w => m (by rw [w]; exact List.mem_map.mpr ⟨q, hqm, rfl⟩)]
          exact g2 y o e m yd
        · by_cases ej : j = i
          · rw [ej] at hz ⊢
            rw [hq] at hz
            obtain rfl := Option.some.inj hz
            refine ⟨dq, ?_⟩
            rw [upd_same, if_pos (Nat.lt_succ_self i)]
            unfold newP
            rw [if_pos e']
          · obtain ⟨dz, z1⟩ := g3 j z hz
            refine ⟨dz, ?_⟩
            rw [upd_ne (other j z hz ej), z1]
            by_cases lt : j < i
            · rw [if_pos lt, if_pos (by omega)]
            · rw [if_neg lt, if_neg (by omega)]
      · have e' : ¬ q.2.parent = b := fun w => e (decide_eq_true (by rw [w]))
        refine ⟨_, rfl, g1, g2, fun j z hz => ?_⟩
        by_cases ej : j = i
        · rw [ej] at hz ⊢
          rw [hq] at hz
          obtain rfl := Option.some.inj hz
          refine ⟨dq, ?_⟩
          rw [if_pos (Nat.lt_succ_self i), q1]
          unfold newP
          rw [if_neg e']
        · obtain ⟨dz, z1⟩ := g3 j z hz
          refine ⟨dz, ?_⟩
          rw [z1]
          by_cases lt : j < i
          · rw [if_pos lt, if_pos (by omega)]
          · rw [if_neg lt, if_neg (by omega)]
    · rintro σ H1 ⟨v3, rfl, g1, g2, g3⟩
      refine ⟨g1, ?_⟩
      obtain ⟨h1, eh1⟩ : ∃ h1 : Ho, h1 = { h with branches := (h.branches.filter fun y => y.id != b).map (fun y => if y.parent = b then { y with parent := h.parent b } else y) } := ⟨_, rfl⟩
      have ep0 : h.parent b = x.2.parent := by rw [← xid]; exact Bc.parent_of A.good.ids hxb
      have A2 : HAt c Ts H0 (upd H1 d (.dK (dictOf bq))) p h1 dx d l (bq.map fun q => (q.1, newP b x.2.parent q.2)) ep := by
        refine A.brd (fun y o e m yd => ?_) (by rw [eh1]; exact Bc.good_unbranch A.good e1' e2') (by rw [eh1]) (by rw [eh1]) (by rw [eh1]) (by rw [eh1]) (by rw [eh1]) ?_ ?_ (by rw [List.map_map]; exact bqnd) (fun q hq => ?_) (fun q hq => ?_)
        · rw [upd_ne yd]
          refine g2 y o e (fun w => m ?_) yd
          obtain ⟨z, hz, ez⟩ := List.mem_map.mp w
          exact List.mem_map.mpr ⟨z, (bqm z hz).1, ez⟩
        · rw [eh1, List.map_map]
          show (h.branches.filter _).map _ = _
          rw [A.eb, List.filter_map, List.map_map, ep0, ebq]
          rfl
        · rw [upd_same]
          refine congrArg (fun z => some (HO.dK z)) ?_
          show List.map _ bq = List.map _ (List.map _ bq)
          rw [List.map_map]
          refine List.map_congr_left fun q _ => ?_
          show (Sum.inl ((q.2.id : Nat) : Int), V.ref q.1) = (Sum.inl (((newP b x.2.parent q.2).id : Nat) : Int), V.ref q.1)
          rw [newP_id]
        · obtain ⟨z, hz, rfl⟩ := List.mem_map.mp hq
          exact List.mem_map.mpr ⟨z, (bqm z hz).1, rfl⟩
        · obtain ⟨z, hz, rfl⟩ := List.mem_map.mp hq
          obtain ⟨j, hj, ej⟩ := List.getElem_of_mem hz
          obtain ⟨dz, z1⟩ := g3 j z (by rw [List.getElem?_eq_getElem hj, ej])
          rw [if_pos hj] at z1
          exact ⟨dz, by rw [upd_ne (xd z (bqm z hz).1)]; exact z1⟩
      refine ⟨_, rfl, p, c.H, dx, _, _, rfl, A2.at_, T.cH, T.hE, ho_entries, _, rfl, l, ep, b, rfl, A2.list, fun H3 q s3 hq hl3 => ?_⟩
      have A3 := A2.grow s3
      have nqp : q ≠ p := (ne_of_none A2.at_ hq).symm
      obtain ⟨gp, egp⟩ : ∃ gp, gp = ep.filter fun y => decide (y.2.branch = b) := ⟨_, rfl⟩
      rw [← egp] at hl3
      refine ⟨_, rfl, p, dx, _, rfl, A3.at_, ho_no (by decide +kernel), _, rfl, H0, p, q, h1, gp, rfl, ⟨dx, d, l, _, ep, A3⟩, hl3, fun H4 AA4 L k4 => ?_⟩
      refine ⟨_, rfl, q, gp, rfl, L, fun H5 q5 s5 hq5 hr5 => ?_⟩
      have est : Rp03.step h (.closes b) = (dropped h1 (gp.map (·.2)), Rp03.contents (h.entries.filter fun e => e.branch == b)) := by
        show (if _ then _ else (if _ then _ else _)) = _
        rw [if_neg e1'', if_neg e2']
        have eg : gp.map (·.2) = h.entries.filter fun e => decide (e.branch = b) := by rw [egp, A.ee, List.filter_map]; rfl
        have ed : (gp.map (·.2)).foldl (fun es g => es.filter fun e => decide (e.used ≠ g.used)) h.entries = h.entries.filter fun e => e.branch != b := by
          rw [Bc.drop_all _ (fun e he => (List.mem_filter.mp (by rw [← eg]; exact he)).1) A.good.used]
          refine List.filter_congr fun e he => ?_
          rw [eg]
          by_cases w : e.branch = b
          · have : (h.entries.filter fun e => decide (e.branch = b)).contains e = true := List.contains_iff_mem.mpr (List.mem_filter.mpr ⟨he, decide_eq_true w⟩)
            rw [this, w]
            simp
          · have : (h.entries.filter fun e => decide (e.branch = b)).contains e = false := by
              rw [Bool.eq_false_iff]
              exact fun z => w (of_decide_eq_true (List.mem_filter.mp (List.contains_iff_mem.mp z)).2)
            rw [this]
            simp [w]
        unfold dropped
        rw [eh1]
        show ({ h with branches := _, entries := _ }, _) = ({ h with branches := _, entries := _ }, _)
        rw [ed]
      refine k H5 q5 ?_ (AA4.same.free hq5) ?_
      · rw [est]; exact AA4.grow s5
      · rw [est, hr5]
        refine congrArg (fun z => some (HO.lst z)) ?_
        have eg : (h.entries.filter fun e => e.branch == b) = gp.map (·.2) := by rw [egp, A.ee, List.filter_map]; rfl
        rw [eg]
        exact (contents_V gp).symm
end
end Bp

set_option Elab.async false
set_option linter.all false
set_option maxRecDepth 100000
set_option maxHeartbeats 4000000
namespace Bp
open PySem PySem.Spec PyProof.Rows L2 LamX
/-! ### save -/
def del (H : Hp) (a : Addr) : Hp := fun b => if b = a then none else H b
theorem del_same (H : Hp) (a : Addr) : Same (del H a) H := fun b o e => by
  unfold del at e
  split at e
  · cases e
  · exact e
theorem del_at (H : Hp) (a : Addr) : del H a a = none := if_pos rfl
theorem HouseAt.less {c : Cl} {T : Tb} {H0 H0' H : Hp} {p : Addr} {h : Ho} (A : HouseAt c T H0 H p h) (s : Same H0' H0) : HouseAt c T H0' H p h := let ⟨dx, d, l, bp, ep, a⟩ := A; ⟨dx, d, l, bp, ep, a.less s⟩
/-- a list made since is not the house's -/
theorem HAt.adopt {c : Cl} {T : Tb} {H0 H H1 : Hp} {p dx d l q : Addr} {h : Ho} {bp : List (Addr × Br)} {ep : List (Addr × En)} {o : HO} (A : HAt c T H0 H p h dx d l bp ep) (hq : H q = none) (x : ExtN H H1) (t : Tabs T H1) (h1 : H1 q = some o) (nt : ∀ ps, o ≠ .tbl ps) : HAt c T (upd H0 q o) H1 p h dx d l bp ep := by
  refine A.frame (fun b u e => ?_) (fun b ps e => ?_) t fun b u z n e => ?_
  · by_cases w : b = q
    · rw [w, upd_same] at e; rw [w, h1]; exact e
    · rw [upd_ne w] at e
      exact x b u (A.same b u e) fun ps z => A.nt b ps (by rw [e, z])
  · by_cases w : b = q
    · rw [w, upd_same] at e; exact nt ps (Option.some.inj e)
    · rw [upd_ne w] at e; exact A.nt b ps e
  · exact ⟨x b u e n, by rw [upd_ne (ne_of_none e hq)]; exact z⟩
def spIsSize (c : Cl) (T : Tb) : Sp := fun vs H Q _ => ∃ (H0 : Hp) (p : Addr) (h : Ho) (z : Nat), vs = [.ref p, iN z] ∧ HouseAt c T H0 H p h ∧ Q (.bl (decide (1 ≤ z ∧ z ≤ h.room))) H
def spSave (c : Cl) (T : Tb) : Sp := fun vs H Q _ => ∃ (H0 : Hp) (p ka : Addr) (h : Ho) (b z t : Nat) (k : List Nat), vs = [.ref p, iN b, iN z, iN t, .ref ka] ∧ HouseAt c T H0 H p h ∧ H0 ka = some (.lst (k.map iN)) ∧ k.length ≤ 1000 ∧ AnsP c T (del H0 ka) p h (.save b z t k) Q
section
variable {P : Program} {w : World} {K : PySem.W.Frag} {mg : Str → Option Value} {base : Heap} {c : Cl} {Ts : Tb}
theorem size_bad {z r : Nat} (e : (!decide (1 ≤ z ∧ z ≤ r)) = true) : z = 0 ∨ r < z := by
  rw [Bool.not_eq_true', decide_eq_false_iff_not] at e
  omega
theorem size_ok {z r : Nat} (e : ¬ (!decide (1 ≤ z ∧ z ≤ r)) = true) : ¬ (z = 0 ∨ r < z) := by
  rw [Bool.not_eq_true', decide_eq_false_iff_not] at e
  omega
theorem scIsSize : FnScope ["house", "size"] ["house", "size"] (defScope sIsSize) := ⟨rfl, rfl, rfl, by decide +kernel, rfl, by decide +kernel, by decide +kernel⟩
theorem ok_isSize {f : Addr} {fd : FuncData} (F : Fun K "is_size" "is_size" sIsSize f fd) (T : Txt K mg c) : FnOk P w K mg base L2.CX0 1 f fd ["house", "size"] (spIsSize c Ts) := by
  refine F.ok scIsSize (fun vs H Q E h => ?_) (fun cdv A outer s H vs Q E hr h => ?_)
  · obtain ⟨H0, p, h, z, rfl, _⟩ := h
    rfl
  · obtain ⟨H0, p, h, z, rfl, ⟨dx, d, l, bp, ep, A⟩, k⟩ := h
    refine ⟨_, pss_one (ps_ret (pe_chain op_le op_le pe_int (pv 1) (pe_fld (pv 0) rfl))), ?_⟩
    refine ⟨_, rfl, _, _, rfl, rfl, _, rfl, ?_⟩
    refine ite2 (fun e => ?_) (fun e => ?_)
    · have e' : (1 : Int) ≤ (z : Int) := of_decide_eq_true e
      refine ⟨_, rfl, p, c.H, dx, _, _, rfl, A.at_, T.cH, T.hR, ho_room, _, _, rfl, rfl, ?_⟩
      show Q (V.bl (decide ((z : Int) ≤ (h.room : Int)))) H
      rw [show decide ((z : Int) ≤ (h.room : Int)) = decide (1 ≤ z ∧ z ≤ h.room) by rw [decide_eq_decide]; omega]
      exact k
    · have e' : ¬ (1 : Int) ≤ (z : Int) := fun w => e (decide_eq_true w)
      rw [show decide (1 ≤ z ∧ z ≤ h.room) = false by rw [decide_eq_false_iff_not]; omega] at k
      exact k
abbrev nmSave : List Str := ["house", "number", "size", "content", "key", "going"]
theorem scSave : FnScope nmSave ["house", "number", "size", "content", "key"] (defScope sSave) := ⟨rfl, rfl, rfl, by decide +kernel, rfl, by decide +kernel, by decide +kernel⟩
theorem ok_save {f : Addr} {fd : FuncData} (F : Fun K "answer_save" "answer_save" sSave f fd) (T : Txt K mg c) (C : Cst mg) (GH : Mt P w K mg base c.H "has_branch" 1 ["self", "number"] (spHas c Ts)) (GZ : Fn P w K mg base "is_size" 1 ["house", "size"] (spIsSize c Ts)) (GK : Fn P w K mg base "is_key" 3 ["row"] (spIsKey K)) (GT : Fn P w K mg base "is_key_taken" 2 ["house", "number", "key"] (spTaken c Ts K))
    (GG : Fn P w K mg base "entries_to_go" 4 ["house", "saver", "size"] (spToGo c Ts)) (GD : Mt P w K mg base c.H "drop_entries" 2 ["self", "going"] (spDrop c Ts)) (GA : Mt P w K mg base c.H "add_entry" 2 ["self", "entry"] (spAdd c Ts)) (GE : Ms P w K mg base "Entry" c.E 1 ["self", "branch", "size", "content", "key"] (spEnInit c))
    (GC : Fn P w K mg base "counted_contents" 1 ["entries"] (spCounted c)) : FnOk P w K mg base L2.CX0 5 f fd ["house", "number", "size", "content", "key"] (spSave c Ts) := by
  refine F.ok scSave (fun vs H Q E h => ?_) (fun cdv A outer s H vs Q E hr h => ?_)
  · obtain ⟨H0, p, ka, h, b, z, t, k, rfl, _⟩ := h
    rfl
  · obtain ⟨H0, p, ka, h, b, z, t, kl, rfl, AA, hk0, hkl, k⟩ := h
    refine ⟨_, pss_cons (ps_if (pt_not (pt_val (pe_mt GH T.cH hr (pv 0) (pa_cons (pv 1) pa_nil)))) (pss_one (ps_ret (pe_lst (pa_cons (pe_cst C.noB) pa_nil)))) pss_nil)
      (pss_cons (ps_if (pt_not (pt_val (pe_fn GZ hr (pa_cons (pv 0) (pa_cons (pv 2) pa_nil))))) (pss_one (ps_ret (pe_lst (pa_cons (pe_cst C.out) pa_nil)))) pss_nil)
      (pss_cons (ps_if (pt_not (pt_val (pe_fn GK hr (pa_cons (pv 4) pa_nil)))) (pss_one (ps_ret (pe_lst (pa_cons (pe_cst C.noK) pa_nil)))) pss_nil)
      (pss_cons (ps_if (pt_val (pe_fn GT hr (pa_cons (pv 0) (pa_cons (pv 1) (pa_cons (pv 4) pa_nil))))) (pss_one (ps_ret (pe_lst (pa_cons (pe_cst C.there) pa_nil)))) pss_nil)
      (pss_cons (ps_if (pt_cmpR op_ge (pe_callB call_len_seq (by rfl) T.len PySem.boot_len (pa_cons (pe_fld (pv 0) rfl) pa_nil)) (pe_cst C.mE) (nomark _)) (pss_one (ps_ret (pe_lst (pa_cons (pe_cst C.many) pa_nil)))) pss_nil)
      (pss_cons (ps_set (i := 5) scSave.nd rfl (Or.inl rfl) (pe_fn GG hr (pa_cons (pv 0) (pa_cons (pv 1) (pa_cons (pv 2) pa_nil)))))
      (pss_cons (ps_if (pt_cmpR op_isN (pv 5) pe_non (nomark _)) (pss_one (ps_ret (pe_lst (pa_cons (pe_cst C.noR) pa_nil)))) pss_nil)
      (pss_cons (ps_expr (pe_mt GD T.cH hr (pv 0) (pa_cons (pv 5) pa_nil)))
      (pss_cons (ps_expr (pe_mt GA T.cH hr (pv 0) (pa_cons (pe_ms GE hr (pa_cons (pv 1) (pa_cons (pv 2) (pa_cons (pv 3) (pa_cons (pv 4) pa_nil))))) pa_nil)))
      (pss_one (ps_ret (pe_fn GC hr (pa_cons (pv 5) pa_nil)))))))))))), ?_⟩
    obtain ⟨dx, d, l, bp, ep, A⟩ := id AA
    have AD := AA.less (del_same H0 ka)
    have hka := A.same _ _ hk0
    refine ⟨_, rfl, p, dx, _, rfl, A.at_, ho_no (by decide +kernel), _, rfl, H0, p, h, b, rfl, AA, _, rfl, ?_⟩
    refine ite2 (fun e => ⟨one_line, ans_no k AD (by show (if _ then _ else _) = _; rw [if_pos (by simpa using e)])⟩) (fun e1 => ?_)
    have e1' : h.has b = true := by simpa using e1
    have e1'' : ¬ h.has b = false := by simpa using e1
    have bad2 : (z = 0 ∨ h.room < z) → Rp03.step h (.save b z t kl) = (h, Rp03.ok (-1)) := fun w => by
      show (if _ then _ else (if _ then _ else _)) = _
      rw [if_neg e1'', if_pos w]
    refine ⟨_, rfl, _, rfl, H0, p, h, z, rfl, AA, _, rfl, ?_⟩
    refine ite2 (fun e => ⟨one_line, ans_no k AD (bad2 (size_bad e))⟩) (fun e3 => ?_)
    have e3' : ¬ (z = 0 ∨ h.room < z) := size_ok e3
    refine ⟨_, rfl, ka, kl, rfl, SqL.of hka, hkl, fun H1 s1 => ⟨_, rfl, ?_⟩⟩
    have A1 := A.grow s1
    have AA1 := AA.grow s1
    have AD1 := AD.grow s1
    refine ite2 (fun e => ⟨one_line, ans_no k AD1 (by
      show (if _ then _ else (if _ then _ else (if _ then _ else _))) = _
      rw [if_neg e1'', if_neg e3', if_pos (by simpa using e)])⟩) (fun e4 => ?_)
    have e4' : Rp03.isKey kl = true := by simpa using e4
    have e4'' : ¬ Rp03.isKey kl = false := by simpa using e4
    refine ⟨_, rfl, _, rfl, _, rfl, H0, p, ka, h, b, kl, rfl, AA1, SqL.of (s1 _ _ hka), fun H2 s2 => ⟨_, rfl, ?_⟩⟩
    have A2 := A1.grow s2
    have AA2 := AA1.grow s2
    have AD2 := AD1.grow s2
    refine ite2 (fun e => ⟨one_line, ans_no k AD2 (by
      show (if _ then _ else (if _ then _ else (if _ then _ else (if _ then _ else _)))) = _
      rw [if_neg e1'', if_neg e3', if_neg e4'', if_pos e])⟩) (fun e5 => ?_)
    have le : (ep.map fun q => V.ref q.1).length = h.entries.length := by rw [A.ee, List.length_map, List.length_map]
    have ne := A.good.ne
    refine ⟨_, rfl, p, c.H, dx, _, _, rfl, A2.at_, T.cH, T.hE, ho_entries, l, _, rfl, .inl (SqL.of A2.lst), _, _, rfl, rfl, _, rfl, ?_⟩
    refine ite2 (fun e => ⟨one_line, ans_no k AD2 (by
      have w : (40 : Int) ≤ (((ep.map fun q => V.ref q.1).length : Nat) : Int) := of_decide_eq_true e
      show (if _ then _ else (if _ then _ else (if _ then _ else (if _ then _ else (if _ then _ else _))))) = _
      rw [if_neg e1'', if_neg e3', if_neg e4'', if_neg e5, if_pos (show h.entries.length = Rp03.ENTRIES by show h.entries.length = 40; omega)])⟩) (fun e6 => ?_)
    have e6' : h.entries.length ≠ 40 := fun w => e6 (decide_eq_true (by show (40 : Int) ≤ (((ep.map fun q => V.ref q.1).length : Nat) : Int); omega))
    have stp : Rp03.step h (.save b z t kl) = (match h.must b z with
      | none => (h, Rp03.ok (-6))
      | some g => ({ h with clock := h.clock + 1, entries := (h.entries.filter fun e => !g.contains e) ++ [⟨b, kl, z, t, h.clock, h.clock, h.today⟩] }, Rp03.contents g)) := by
      show (if _ then _ else (if _ then _ else (if _ then _ else (if _ then _ else (if _ then _ else _))))) = _
      rw [if_neg e1'', if_neg e3', if_neg e4'', if_neg e5, if_neg (show ¬ h.entries.length = Rp03.ENTRIES from e6')]
      rfl
    refine ⟨_, rfl, _, rfl, _, rfl, H0, p, h, b, z, rfl, AA2, fun hm H3 x3 t3 => ?_, fun H3 q gp x3 t3 hq hm hl3 => ?_⟩
    · refine ⟨_, rfl, rfl, _, rfl, ?_⟩
      refine ite2 (fun _ => ?_) (fun w => absurd (show decide (V.non = V.non) = true from rfl) w)
      refine ⟨one_line, ans_no k ⟨dx, d, l, bp, ep, (A2.growN x3 t3).less (del_same H0 ka)⟩ ?_⟩
      rw [stp, hm]
    · refine ⟨_, rfl, rfl, _, rfl, ?_⟩
      refine ite2 (fun w => absurd (of_decide_eq_true w) (fun w2 => by cases w2)) (fun _ => ?_)
      have A3 := A2.adopt hq x3 t3 hl3.lst (fun _ w => by cases w)
      have h0q : H0 q = none := A2.same.free hq
      have nkq : ka ≠ q := fun w => by rw [w, h0q] at hk0; cases hk0
      refine ⟨_, rfl, p, dx, _, rfl, A3.at_, ho_no (by decide +kernel), _, rfl, _, p, q, h, gp, rfl, ⟨dx, d, l, bp, ep, A3⟩, hl3, fun H4 AA4 L k4 => ?_⟩
      obtain ⟨dx4, d4, l4, bp4, ep4, A4⟩ := id AA4
      have h0k : upd H0 q (.lst (gp.map fun y => V.ref y.1)) ka = some (.lst (kl.map iN)) := by rw [upd_ne nkq]; exact hk0
      have k4 := A4.same _ _ h0k
      refine ⟨_, rfl, p, dx4, _, rfl, A4.at_, ho_no (by decide +kernel), _, rfl, _, rfl, _, rfl, _, rfl, fun x dxe nx ndx nex => ?_⟩
      refine ⟨x, dxe, ka, b, z, t, rfl, upd_same, fun H5 h5 k5 => ⟨rfl, ?_⟩⟩
      have s5 : Same H4 H5 := fun y o e => by
        have y1 := ne_of_none e nx
        rw [k5 y y1, upd_ne y1, upd_ne (ne_of_none e ndx)]
        exact e
      have A5 := (A4.grow s5).less (del_same _ ka)
      have L5 := L.up s5
      have x0 : upd H0 q (.lst (gp.map fun y => V.ref y.1)) x = none := A4.same.free nx
      have ed : (dropped h (gp.map (·.2))).entries = h.entries.filter fun e => !(gp.map (·.2)).contains e := Bc.drop_all _ (Bc.must_mem hm) A.good.used
      have ew : withNew (dropped h (gp.map (·.2))) b z t kl = { h with clock := h.clock + 1, entries := (h.entries.filter fun e => !(gp.map (·.2)).contains e) ++ [⟨b, kl, z, t, h.clock, h.clock, h.today⟩] } := by
        unfold withNew
        rw [ed]
        rfl
      have gd := Bc.good_save (z := z) (c := t) (l := gp.map (·.2)) A.good e1' e4' e5 e6'
      have nkl : ka ≠ l4 := fun w => by rw [w, A4.l0] at h0k; cases h0k
      refine ⟨del (upd H0 q (.lst (gp.map fun y => V.ref y.1))) ka, p, dx4, d4, l4, x, dxe, ka, _, bp4, ep4, b, z, t, kl, rfl, A5, h5, (del_same _ _).free x0, s5 _ _ k4, del_at _ _, nkl, (by rw [ew]; exact gd), fun H6 AA6 k6 => ?_⟩
      rw [ew] at AA6
      have nql : q ≠ l4 := fun w => by
        have := A4.l0
        rw [← w, upd_same] at this
        cases this
      have nqp : q ≠ p := fun w => by
        have := A4.p0
        rw [← w, upd_same] at this
        cases this
      have nqx : q ≠ x := ne_of_none L.lst nx
      have L6 : LstAt c H6 q gp := ⟨k6 _ _ L5.lst nqp nqx nql, fun y hy => by
        obtain ⟨de, ky, y1, y2⟩ := L.en y hy
        have ky1 : ky ≠ l4 := fun w => by
          rw [w, A4.lst] at y2
          injection y2 with y2
          injection y2 with y2
          have em : y.2 ∈ h.entries := Bc.must_mem hm _ (List.mem_map.mpr ⟨y, hy, rfl⟩)
          exact key_ne (as := ep4.map (·.1)) (A.good.kok _ em) (by rw [← y2, List.map_map]; rfl)
        exact ⟨de, ky, k6 _ _ (s5 _ _ y1) (lst_ne AA4 L y hy) (ne_of_none y1 nx) (ne_of y1 A4.lst (by intro w; cases w)), k6 _ _ (s5 _ _ y2) (ne_of y2 A4.at_ (by intro w; cases w)) (ne_of_none y2 nx) ky1⟩, L.few⟩
      refine ⟨_, rfl, q, gp, rfl, L6, fun H7 q7 s7 hq7 hr7 => ?_⟩
      have sd : Same (del H0 ka) (del (upd H0 q (.lst (gp.map fun y => V.ref y.1))) ka) := fun y o e => by
        have yk : y ≠ ka := fun w => by rw [w, del_at] at e; cases e
        have e' : H0 y = some o := del_same _ _ _ _ e
        show (if y = ka then none else upd H0 q _ y) = some o
        rw [if_neg yk, upd_ne (ne_of_none e' h0q)]
        exact e'
      refine k H7 q7 ?_ ((AA6.less sd).same.free hq7) ?_
      · rw [stp, hm]; exact (AA6.less sd).grow s7
      · rw [stp, hm, hr7]
        exact congrArg (fun w => some (HO.lst w)) (contents_V gp).symm
end
end Bp

set_option Elab.async false
set_option linter.all false
set_option maxRecDepth 100000
set_option maxHeartbeats 4000000
namespace Bp
open PySem PySem.Spec PyProof.Rows L2 LamX
/-! ### a branch's line -/
def spLine (c : Cl) (T : Tb) : Sp := fun vs H Q _ => ∃ (H0 : Hp) (p : Addr) (h : Ho) (n : Nat), vs = [.ref p, iN n] ∧ HouseAt c T H0 H p h ∧ h.has n = true ∧ ∀ H1 q, Same H H1 → H q = none → H1 q = some (.lst ((h.line n).map iN)) → Q (.ref q) H1
def rankAt (h : Ho) (σ : L2.St) : Nat := match σ[1]? with
  | some (some (V.int i)) => Bc.rank h i.toNat
  | _ => 0
section
variable {P : Program} {w : World} {K : PySem.W.Frag} {mg : Str → Option Value} {base : Heap} {c : Cl} {Ts : Tb}
theorem scLine : FnScope ["self", "number", "line"] ["self", "number"] (defScope sLine) := ⟨rfl, rfl, rfl, by decide +kernel, rfl, by decide +kernel, by decide +kernel⟩
theorem ok_line {f : Addr} {fd : FuncData} (F : Fun K "line_of" "House.line_of" sLine f fd) (T : Txt K mg c) : FnOk P w K mg base L2.CX0 1 f fd ["self", "number"] (spLine c Ts) := by
  refine F.ok scLine (fun vs H Q E h => ?_) (fun cdv A outer s H vs Q E hr h => ?_)
  · obtain ⟨H0, p, h, n, rfl, _⟩ := h
    rfl
  · obtain ⟨H0, p, h, n, rfl, ⟨dx, d, l, bp, ep, A⟩, hn, k⟩ := h
    refine ⟨_, pss_cons (ps_set (i := 2) scLine.nd rfl (Or.inl rfl) (pe_lst (pa_cons (pv 1) pa_nil)))
      (pss_cons (ps_while PassesOwn.never (pt_cmpR op_ne (pv 1) pe_int (nomark _))
        (pss_cons (ps_set (i := 1) scLine.nd rfl (Or.inl rfl) (pe_fld (pe_dget (hu_of hr) (pe_fld (pv 0) rfl) (pv 1) (fun _ _ => rfl)) rfl))
        (pss_one (ps_expr (pe_bm PySem.F.plainAttrs_list PySem.F.slot_list_append PySem.F.type_list_append mt_append (pv 2) (pa_cons (pv 1) pa_nil))))))
      (pss_one (ps_ret (pv 2)))), ?_⟩
    refine ⟨_, rfl, one_line, fun q hq => ?_⟩
    refine while_by (fun σ H1 => ∃ (m : Nat) (pre : List Nat), σ = [some (.ref p), some (iN m), some (.ref q)] ∧ Same H H1 ∧ H1 q = some (.lst ((pre ++ [m]).map iN)) ∧ h.has m = true ∧ pre ++ h.line m = h.line n) (fun σ _ => rankAt h σ) ⟨n, [], rfl, same_upd hq, upd_same, hn, rfl⟩ ?_ ?_
    · rintro σ H1 ⟨m, pre, rfl, s1, hl, hm, e⟩
      refine ⟨_, rfl, rfl, _, rfl, ?_⟩
      refine ite2 (fun w => ?_) (fun w => ?_)
      · have m0 : m ≠ 0 := fun z => by
          rw [z, Bool.not_eq_true', decide_eq_false_iff_not] at w
          exact w rfl
        obtain ⟨b, hb, hid, hv⟩ := find_bp A hm
        have A1 := A.grow s1
        obtain ⟨_, db, hb1⟩ := A1.br b hb
        have hget : DGet H1 d (kV (Sum.inl (m : Int))) (some (V.ref b.1)) := by rw [← hv]; exact DGet.k A1.dict
        have hxb : b.2 ∈ h.branches := by rw [A.eb]; exact List.mem_map.mpr ⟨b, hb, rfl⟩
        have ep0 : h.parent m = b.2.parent := by rw [← hid]; exact Bc.parent_of A.good.ids hxb
        have hls := Bc.line_step A.good hm m0
        have hlen := (Bc.line_len A.good n).1
        have hl2 : pre.length + 1 ≤ 9 := by
          rw [← e, List.length_append] at hlen
          have := (Bc.line_len A.good m).2
          omega
        refine ⟨_, rfl, p, c.H, dx, _, _, rfl, A1.at_, T.cH, T.hB, ho_branches, _, rfl, d, _, rfl, hget, b.1, c.B, db, _, _, rfl, hb1, T.cB, T.bP, br_parent, ?_⟩
        refine ⟨_, rfl, .inl ⟨rfl, _, SqL.of hl⟩, _, rfl, q, _, _, rfl, rfl, hl, (by rw [List.length_map, List.length_append]; exact Nat.lt_of_le_of_lt hl2 (by decide)), ?_⟩
        refine ⟨⟨b.2.parent, pre ++ [m], rfl, same_put s1 hq, ?_, ?_, ?_⟩, ?_⟩
        · rw [upd_same, List.map_append (l₁ := pre ++ [m])]
          rfl
        · rw [← ep0]; exact Bc.has_par A.good hm
        · rw [← e, hls, ep0, List.append_assoc]
          rfl
        · show Bc.rank h ((b.2.parent : Int)).toNat < Bc.rank h ((m : Int)).toNat
          rw [Int.toNat_natCast, Int.toNat_natCast, ← ep0]
          exact Bc.rank_parent A.good hm m0
      · have m0 : m = 0 := by
          rw [Bool.not_eq_true', decide_eq_false_iff_not, Classical.not_not] at w
          injection w with w
          omega
        refine ⟨_, rfl, k H1 q s1 hq ?_⟩
        rw [hl, ← e, m0, Bc.line_zero A.good]
    · rintro σ H1 Q1 Q2 mo ⟨v, e, w, kb, e2, hq⟩
      exact ⟨v, e, w, kb, e2, mo _ _ hq⟩
/-! ### how a key begins -/
def spBegun (K : PySem.W.Frag) : Sp := fun vs H Q _ => ∃ (ka ba : Addr) (k b : List Nat), vs = [.ref ka, .ref ba] ∧ SqL K H ka (k.map iN) ∧ SqL K H ba (b.map iN) ∧ ∀ H1, Same H H1 → Q (.bl (Rp03.begins b k)) H1
theorem scBegun : FnScope ["key", "beginning"] ["key", "beginning"] (defScope sBegun) := ⟨rfl, rfl, rfl, by decide +kernel, rfl, by decide +kernel, by decide +kernel⟩
theorem cut_head (k : List Nat) (m : Nat) : cutV (k.map iN) none (some (m : Int)) = (k.take m).map iN := by
  unfold cutV
  rw [HT.sIx_none, HT.sIx_nat, List.length_map, List.drop_zero, Nat.sub_zero, ← List.map_take]
  by_cases e : m ≤ k.length
  · rw [Nat.min_eq_left e]
  · rw [Nat.min_eq_right (by omega), List.take_length, List.take_of_length_le (by omega)]
theorem ok_begun {f : Addr} {fd : FuncData} (F : Fun K "is_begun_by" "is_begun_by" sBegun f fd) (T : Txt K mg c) : FnOk P w K mg base L2.CX0 1 f fd ["key", "beginning"] (spBegun K) := by
  refine F.ok scBegun (fun vs H Q E h => ?_) (fun cdv A outer s H vs Q E hr h => ?_)
  · obtain ⟨ka, ba, k, b, rfl, _⟩ := h
    rfl
  · obtain ⟨ka, ba, k, b, rfl, hk, hb, kk⟩ := h
    refine ⟨_, pss_one (ps_ret (pe_cmpR (op_eqD hr.units) (pe_slice sl_list (pv 0) po_none (po_some (pe_callB call_len_seq (by rfl) T.len PySem.boot_len (pa_cons (pv 1) pa_nil)))) (pv 1) (nomark _))), ?_⟩
    refine ⟨_, rfl, _, rfl, ba, _, rfl, .inl hb, _, rfl, ka, _, rfl, hk, fun q hq => ?_⟩
    refine ⟨_, rfl, pk (k.take b.length), pk b, dp_pk (SqL.of ?_), dp_pk ((same_upd hq).seq hb), pk_shaped _, pk_shaped _, ?_⟩
    · rw [upd_same, List.length_map, cut_head]
    · rw [pk_eqv, Bc.begins_take]
      exact kk _ (same_upd hq)
/-! ### what is found -/
abbrev fdF (n : Nat) (a : Addr) : List (Str × V) := fz nF [iN n, .ref a]
theorem fd_way {n : Nat} {a : Addr} : (fdF n a).lookup ("way" : Str) = some (iN n) := fz_look (i := 0) (by decide +kernel) rfl
theorem fd_entry {n : Nat} {a : Addr} : (fdF n a).lookup ("entry" : Str) = some (.ref a) := fz_look (i := 1) (by decide +kernel) rfl
def spFdInit (c : Cl) : Sp := fun vs H Q _ => ∃ (p dx a : Addr) (n : Nat), vs = [.ref p, iN n, .ref a] ∧ H p = some (.ins c.F dx []) ∧ ∀ H1 : Hp, H1 p = some (.ins c.F dx (fdF n a)) → (∀ b, b ≠ p → H1 b = H b) → Q .non H1
theorem scFdInit : FnScope ["self", "way", "entry"] ["self", "way", "entry"] (defScope sFdInit) := ⟨rfl, rfl, rfl, by decide +kernel, rfl, by decide +kernel, by decide +kernel⟩
theorem ok_fdInit {f : Addr} {fd : FuncData} (F : Fun K "__init__" "Found.__init__" sFdInit f fd) (T : Txt K mg c) : FnOk P w K mg base L2.CX0 1 f fd ["self", "way", "entry"] (spFdInit c) := by
  refine F.ok scFdInit (fun vs H Q E h => ?_) (fun cdv A outer s H vs Q E hr h => ?_)
  · obtain ⟨p, dx, a, n, rfl, _⟩ := h
    rfl
  · obtain ⟨p, dx, a, n, rfl, hp, k⟩ := h
    refine ⟨_, pss_cons (ps_fld (pv 0) (pv 1) rfl) (pss_one (ps_fld (pv 0) (pv 2) rfl)), ?_⟩
    refine ⟨_, rfl, _, rfl, p, c.F, dx, [], rfl, hp, T.cF, T.fW, (by show 0 < 1000; decide), _, rfl, _, rfl, p, c.F, dx, _, rfl, upd_same, T.cF, T.fE, (by show 1 < 1000; decide), ?_⟩
    refine k _ ?_ fun b hb => by rw [upd_ne hb, upd_ne hb]
    rw [upd_same]
    exact congrArg (fun q => some (HO.ins c.F dx q)) (fz_new (x := "entry") (ns := ["way"]) (vs := [iN n]) (by decide +kernel) rfl)
/-- what found_among promises: the specification's answer over a list of entries -/
def spAmong (c : Cl) (K : PySem.W.Frag) : Sp := fun vs H Q _ => ∃ (l ka ba : Addr) (ep : List (Addr × En)) (k : List Nat) (qs : List (Addr × List Nat)), vs = [.ref l, .ref ka, .ref ba] ∧ LstAt c H l ep ∧ SqL K H ka (k.map iN) ∧ SqL K H ba (qs.map fun y => V.ref y.1) ∧ (∀ y ∈ qs, SqL K H y.1 (y.2.map iN)) ∧
  (Bc.among ep k (qs.map (·.2)) = none → ∀ H1, Same H H1 → Q .non H1) ∧ ∀ H1 a da n x, Same H H1 → H a = none → Bc.among ep k (qs.map (·.2)) = some (n, x) → H1 a = some (.ins c.F da (fdF n x.1)) → Q (.ref a) H1
abbrev nmAmong : List Str := ["entries", "key", "beginnings", "entry", "way", "beginning", "fitting"]
theorem scAmong : FnScope nmAmong ["entries", "key", "beginnings"] (defScope sAmong) := ⟨rfl, rfl, rfl, by decide +kernel, rfl, by decide +kernel, by decide +kernel⟩
theorem ok_among {f : Addr} {fd : FuncData} (F : Fun K "found_among" "found_among" sAmong f fd) (T : Txt K mg c) (GB : Fn P w K mg base "is_begun_by" 1 ["key", "beginning"] (spBegun K)) (GF : Ms P w K mg base "Found" c.F 1 ["self", "way", "entry"] (spFdInit c)) (c1 : ∃ t, mg "BY_KEY" = some (.int 0 t)) :
    FnOk P w K mg base L2.CX0 3 f fd ["entries", "key", "beginnings"] (spAmong c K) := by
  refine F.ok scAmong (fun vs H Q E h => ?_) (fun cdv A outer s H vs Q E hr h => ?_)
  · obtain ⟨l, ka, ba, ep, k, qs, rfl, _⟩ := h
    rfl
  · obtain ⟨l, ka, ba, ep, k, qs, rfl, hl, hk, hbs, hrow, k1, k2⟩ := h
    refine ⟨_, pss_cons (ps_for PassesOwn.never rfl (pi_list (pv 0)) (pg_name (i := 3) scAmong.nd rfl (Or.inl rfl)) (pss_one (ps_if (pt_cmpR (op_eqD hr.units) (pe_fld (pv 3) rfl) (pv 1) (nomark _)) (pss_one (ps_ret (pe_ms GF hr (pa_cons (pe_cst c1) (pa_cons (pv 3) pa_nil))))) pss_nil)))
      (pss_cons (ps_for PassesOwn.never rfl (BcE.pi_enumS (by rfl) T.enumerate (pa_cons (pv 2) pa_nil) (pk_cons pe_int pk_nil)) (pg_tup rfl (pgs_cons (pg_name (i := 4) scAmong.nd rfl (Or.inl rfl)) (pgs_cons (pg_name (i := 5) scAmong.nd rfl (Or.inr rfl)) pgs_nil)))
        (pss_cons (ps_setLc (i := 6) (own := [("entry", 3)]) (g := gName 3) (tt := tTest (tCall (spBegun K) [] E0 (tCons (tFld K (tVar 3) "key") (tCons (tVar 5) tNil)))) (te := tVar 3) rfl scAmong.nd rfl rfl (sw_true rfl rfl rfl (by decide +kernel)) (pi_list (pv 0)) (blkOk_by (N := nmAmong) (sc := defScope sAmong) (by decide +kernel))
          (fun _ _ _ _ _ => pg_name (i := 3) scAmong.nd rfl (Or.inl rfl)) (fun _ _ _ _ _ => pts_one (pt_val (pe_fn GB hr (pa_cons (pe_fld (pv 3) rfl) (pa_cons (pv 5) pa_nil))))) (fun _ _ _ _ _ => pv 3))
        (pss_one (ps_if (pt_cmpR op_gt (pe_callB call_len_seq (by rfl) T.len PySem.boot_len (pa_cons (pv 6) pa_nil)) pe_int (nomark _)) (pss_one (ps_ret (pe_ms GF hr (pa_cons (pv 4) (pa_cons (pe_ix ix_list (pv 6) (pe_un un_neg pe_int) (fun _ _ => rfl)) pa_nil))))) pss_nil))))
      (pss_one (ps_ret pe_non))), ?_⟩
    refine ⟨_, rfl, l, rfl, ⟨_, SqL.of hl.lst⟩, for_list (K := K) (a := l) (xs := ep.map fun y => V.ref y.1) (fun i σ H1 => ∃ v3 : Option V, σ = [some (.ref l), some (.ref ka), some (.ref ba), v3, none, none, none] ∧ H1 = H ∧ ∀ x ∈ ep.take i, x.2.key ≠ k)
      ⟨none, rfl, rfl, fun x hx => by cases hx⟩ (fun i σ H1 _ ⟨_, _, e, _⟩ => by rw [e]; exact SqL.of hl.lst) ?_ ?_⟩
    · rintro i y σ H1 hi ⟨v3, rfl, rfl, no⟩
      obtain ⟨y, hy, rfl⟩ : ∃ x, ep[i]? = some x ∧ y = V.ref x.1 := by
        rw [List.getElem?_map] at hi
        cases e : ep[i]? with
        | none => rw [e] at hi; cases hi
        | some x => rw [e] at hi; exact ⟨x, rfl, (Option.some.inj hi).symm⟩
      obtain ⟨de, ky, h1, h2⟩ := hl.en y (List.mem_of_getElem? hy)
      refine ⟨_, rfl, y.1, c.E, de, _, _, rfl, h1, T.cE, T.eK, en_key, _, rfl, pk y.2.key, pk k, dp_pk (SqL.of h2), dp_pk hk, pk_shaped _, pk_shaped _, _, rfl, ?_⟩
      refine ite2 (fun e => ?_) (fun e => ?_)
      · rw [pk_eqv] at e
        have ek : y.2.key = k := by simpa using e
        refine ⟨_, rfl, fun x dxb nx ndx nex => ?_⟩
        refine ⟨x, dxb, y.1, 0, rfl, upd_same, fun H2 h2 k3 => ⟨rfl, ?_⟩⟩
        refine k2 H2 x dxb 0 y (fun b o e => ?_) nx (Bc.among_key hy ek no) h2
        have b1 := ne_of_none e nx
        rw [k3 b b1, upd_ne b1, upd_ne (ne_of_none e ndx)]
        exact e
      · rw [pk_eqv] at e
        have ek : y.2.key ≠ k := by simpa using e
        refine ⟨_, rfl, rfl, fun x hx => ?_⟩
        rw [List.take_add_one, hy] at hx
        rcases List.mem_append.mp hx with hx | hx
        · exact no x hx
        · rw [List.mem_singleton.mp hx]; exact ek
    · rintro σ H1 ⟨v3, rfl, rfl, no⟩
      rw [List.length_map, List.take_length] at no
      rw [Bc.among_no no] at k1 k2
      have W0 := BcE.walkS (K := K) (a := ba) (xs := qs.map fun y => V.ref y.1) (k := 1)
      rw [List.length_map] at W0
      refine ⟨_, rfl, ba, _, 1, rfl, rfl, hbs, by decide, by decide, for_it W0 (fun i σ H2 => ∃ v4 v5 v6 : Option V, σ = [some (.ref l), some (.ref ka), some (.ref ba), v3, v4, v5, v6] ∧ Same H1 H2 ∧ ∀ b ∈ (qs.map (·.2)).take i, (ep.filter fun x => Rp03.begins b x.2.key) = [])
        ⟨none, none, none, rfl, Same.refl _, fun b hb => by cases hb⟩ (fun i σ H2 _ ⟨_, _, _, _, s2, _⟩ => s2.seq hbs) ?_ ?_⟩
      · rintro i y σ H2 H3 hi ⟨v4, v5, v6, rfl, s2, emp⟩ ⟨T0, u, v, rfl, hT0, rfl, eu, ev⟩
        obtain rfl := Option.some.inj eu
        obtain ⟨b, hb⟩ : ∃ b, qs[i]? = some b := ⟨_, List.getElem?_eq_getElem hi⟩
        have evb : v = V.ref b.1 := by
          have ev' : (qs.map fun y => V.ref y.1)[i]? = some v := ev
          rw [List.getElem?_map, hb] at ev'
          exact (Option.some.inj ev').symm
        subst evb
        have hbm := List.mem_of_getElem? hb
        have s3 : Same H1 (upd H2 T0 (.tup [.int (1 + (i : Int)), V.ref b.1])) := s2.trans (same_upd hT0)
        have hb2 : (qs.map (·.2))[i]? = some b.2 := by rw [List.getElem?_map, hb]; rfl
        refine ⟨T0, _, rfl, SqT.of upd_same, rfl, _, _, rfl, _, _, rfl, rfl, ?_⟩
        have hl3 := hl.up s3
        have hb3 := s3.seq (hrow b hbm)
        refine ⟨_, rfl, l, rfl, ⟨_, SqL.of hl3.lst⟩, fun D hD => lc_fmG ep (fun y => V.ref y.1) (fun x => Rp03.begins b.2 x.2.key) (fun x => V.ref x.1) hD (SqL.of hl3.lst) hl.line (fun v => rfl) (fun x hx H4 R s4 _ r => ?_) (fun x hx H4 R s4 _ r => ⟨_, rfl, r H4 (Same.refl _)⟩) fun H4 s4 hD4 => ?_⟩
        · obtain ⟨de, ky, h1, h2⟩ := (hl3.en x hx).up s4
          exact ⟨_, rfl, x.1, c.E, de, _, _, rfl, h1, T.cE, T.eK, en_key, _, rfl, ky, b.1, x.2.key, b.2, rfl, SqL.of h2, s4.seq hb3, fun H5 s5 => ⟨_, rfl, r H5 s5⟩⟩
        · have S4 := s3.trans s4
          refine ⟨_, rfl, D, _, rfl, .inl (SqL.of hD4), _, _, rfl, rfl, _, rfl, ?_⟩
          refine ite2 (fun e => ?_) (fun e => ?_)
          · have e' : 0 < (ep.filter fun x => Rp03.begins b.2 x.2.key).length := by
              have w : (0 : Int) < ((((ep.filter fun x => Rp03.begins b.2 x.2.key).map fun x => V.ref x.1).length : Nat) : Int) := of_decide_eq_true e
              rw [List.length_map] at w
              omega
            obtain ⟨ini, x, ex⟩ : ∃ ini x, (ep.filter fun x => Rp03.begins b.2 x.2.key) = ini ++ [x] := by
              rcases List.eq_nil_or_concat (ep.filter fun x => Rp03.begins b.2 x.2.key) with z | ⟨ini, x, z⟩
              · rw [z] at e'; exact absurd e' (Nat.lt_irrefl _)
              · exact ⟨ini, x, z.trans (List.concat_eq_append ..)⟩
            have hD5 : H4 D = some (.lst ((ini.map fun x => V.ref x.1) ++ [V.ref x.1])) := by
              rw [hD4, ex, List.map_append]
              rfl
            refine ⟨_, rfl, _, rfl, _, rfl, D, _, _, V.ref x.1, rfl, rfl, SqL.of hD5, atI_last _ _, fun z dz nz ndz nez => ?_⟩
            refine ⟨z, dz, x.1, 1 + i, rfl, upd_same, fun H5 h5 k5 => ⟨rfl, ?_⟩⟩
            refine k2 H5 z dz (1 + i) x (fun y o e => ?_) (S4.free nz) (Bc.amongBy_at hb2 emp (by rw [ex, List.getLast?_concat])) h5
            have e4 := S4 y o e
            have y1 := ne_of_none e4 nz
            rw [k5 y y1, upd_ne y1, upd_ne (ne_of_none e4 ndz)]
            exact e4
          · have e' : (ep.filter fun x => Rp03.begins b.2 x.2.key) = [] := by
              refine List.length_eq_zero_iff.mp (Nat.eq_zero_of_not_pos fun w => e (decide_eq_true ?_))
              show (0 : Int) < ((((ep.filter fun x => Rp03.begins b.2 x.2.key).map fun x => V.ref x.1).length : Nat) : Int)
              rw [List.length_map]
              omega
            refine ⟨_, _, _, rfl, S4, fun q hq => ?_⟩
            rw [List.take_add_one, hb2] at hq
            rcases List.mem_append.mp hq with hq | hq
            · exact emp q hq
            · rw [List.mem_singleton.mp hq]; exact e'
      · rintro σ H2 ⟨v4, v5, v6, rfl, s2, emp⟩
        rw [← List.length_map (·.2) (as := qs), List.take_length] at emp
        exact k1 (Bc.amongBy_none emp) H2 s2
end
end Bp

set_option Elab.async false
set_option linter.all false
set_option maxRecDepth 100000
set_option maxHeartbeats 4000000
namespace Bp
open PySem PySem.Spec PyProof.Rows L2 LamX
/-! ### what a branch finds on its line -/
def spOnLine (c : Cl) (T : Tb) (K : PySem.W.Frag) : Sp := fun vs H Q _ => ∃ (H0 : Hp) (p ka ba dx d l : Addr) (h : Ho) (bp : List (Addr × Br)) (ep : List (Addr × En)) (n : Nat) (k : List Nat) (qs : List (Addr × List Nat)), vs = [.ref p, iN n, .ref ka, .ref ba] ∧ HAt c T H0 H p h dx d l bp ep ∧ h.has n = true ∧
  SqL K H ka (k.map iN) ∧ SqL K H ba (qs.map fun y => V.ref y.1) ∧ (∀ y ∈ qs, SqL K H y.1 (y.2.map iN)) ∧ (h.find n k (qs.map (·.2)) = none → ∀ H1, Same H H1 → Q .non H1) ∧
  ∀ H1 a da w x, Same H H1 → H a = none → x ∈ ep → h.find n k (qs.map (·.2)) = some (w, x.2) → H1 a = some (.ins c.F da (fdF w x.1)) → Q (.ref a) H1
section
variable {P : Program} {w : World} {K : PySem.W.Frag} {mg : Str → Option Value} {base : Heap} {c : Cl} {Ts : Tb}
abbrev nmOnLine : List Str := ["house", "number", "key", "beginnings", "owner", "found"]
theorem scOnLine : FnScope nmOnLine ["house", "number", "key", "beginnings"] (defScope sOnLine) := ⟨rfl, rfl, rfl, by decide +kernel, rfl, by decide +kernel, by decide +kernel⟩
theorem ok_onLine {f : Addr} {fd : FuncData} (F : Fun K "found_on_line" "found_on_line" sOnLine f fd) (T : Txt K mg c) (GL : Mt P w K mg base c.H "line_of" 1 ["self", "number"] (spLine c Ts)) (GO : Fn P w K mg base "entries_of_branch" 1 ["entries", "number"] (spOfBranch c))
    (GA : Fn P w K mg base "found_among" 3 ["entries", "key", "beginnings"] (spAmong c K)) : FnOk P w K mg base L2.CX0 4 f fd ["house", "number", "key", "beginnings"] (spOnLine c Ts K) := by
  refine F.ok scOnLine (fun vs H Q E h => ?_) (fun cdv A outer s H vs Q E hr h => ?_)
  · obtain ⟨H0, p, ka, ba, dx, d, l, h, bp, ep, n, k, qs, rfl, _⟩ := h
    rfl
  · obtain ⟨H0, p, ka, ba, dx, d, l, h, bp, ep, n, k, qs, rfl, A, hn, hk, hbs, hrow, k1, k2⟩ := h
    refine ⟨_, pss_cons (ps_for PassesOwn.never rfl (pi_list (pe_mt GL T.cH hr (pv 0) (pa_cons (pv 1) pa_nil))) (pg_name (i := 4) scOnLine.nd rfl (Or.inl rfl))
        (pss_cons (ps_set (i := 5) scOnLine.nd rfl (Or.inl rfl) (pe_fn GA hr (pa_cons (pe_fn GO hr (pa_cons (pe_fld (pv 0) rfl) (pa_cons (pv 4) pa_nil))) (pa_cons (pv 2) (pa_cons (pv 3) pa_nil)))))
        (pss_one (ps_if (pt_cmpR op_notN (pv 5) pe_non (nomark _)) (pss_one (ps_ret (pv 5))) pss_nil))))
      (pss_one (ps_ret pe_non)), ?_⟩
    refine ⟨_, rfl, p, dx, _, rfl, A.at_, ho_no (by decide +kernel), _, rfl, H0, p, h, n, rfl, ⟨dx, d, l, bp, ep, A⟩, hn, fun H1 q s1 hq hl1 => ?_⟩
    refine ⟨q, rfl, ⟨_, SqL.of hl1⟩, for_list (K := K) (a := q) (xs := (h.line n).map iN) (fun i σ H2 => ∃ v4 v5 : Option V, σ = [some (.ref p), some (iN n), some (.ref ka), some (.ref ba), v4, v5] ∧ Same H1 H2 ∧ ∀ m ∈ (h.line n).take i, h.findOn m k (qs.map (·.2)) = none)
      ⟨none, none, rfl, Same.refl _, fun m hm => by cases hm⟩ (fun i σ H2 _ ⟨_, _, _, s2, _⟩ => SqL.of (s2 _ _ hl1)) ?_ ?_⟩
    · rintro i y σ H2 hi ⟨v4, v5, rfl, s2, no⟩
      obtain ⟨m, hm, rfl⟩ : ∃ m, (h.line n)[i]? = some m ∧ y = iN m := by
        rw [List.getElem?_map] at hi
        cases e : (h.line n)[i]? with
        | none => rw [e] at hi; cases hi
        | some x => rw [e] at hi; exact ⟨x, rfl, (Option.some.inj hi).symm⟩
      have S2 := s1.trans s2
      have A2 := A.grow S2
      refine ⟨_, rfl, p, c.H, dx, _, _, rfl, A2.at_, T.cH, T.hE, ho_entries, _, rfl, l, ep, m, rfl, A2.list, fun H3 q3 s3 hq3 hl3 => ?_⟩
      have S3 := S2.trans s3
      have eon := Bc.on_among (k := k) A.good A.ee m (qs.map (·.2))
      refine ⟨_, rfl, _, rfl, q3, ka, ba, _, k, qs, rfl, hl3, S3.seq hk, S3.seq hbs, fun y hy => S3.seq (hrow y hy), fun hno H4 s4 => ?_, fun H4 a da w x s4 ha hyes h4 => ?_⟩
      · refine ⟨_, rfl, rfl, _, rfl, ?_⟩
        refine ite2 (fun w => absurd w (by rw [Bool.not_eq_true', decide_eq_false_iff_not]; exact fun z => z rfl)) (fun _ => ?_)
        refine ⟨_, _, rfl, (s2.trans s3).trans s4, fun m' hm' => ?_⟩
        rw [List.take_add_one, hm] at hm'
        rcases List.mem_append.mp hm' with z | z
        · exact no m' z
        · rw [List.mem_singleton.mp z, eon, hno]; rfl
      · refine ⟨_, rfl, rfl, _, rfl, ?_⟩
        refine ite2 (fun _ => ?_) (fun z => absurd (show (!decide (V.ref a = V.non)) = true from by rw [Bool.not_eq_true', decide_eq_false_iff_not]; intro z; cases z) z)
        refine ⟨_, rfl, k2 H4 a da w x (S3.trans s4) (S3.free ha) (List.mem_filter.mp (Bc.among_mem hyes)).1 ?_ h4⟩
        refine Bc.findSome_at hm ?_ no
        rw [eon, hyes]
        rfl
    · rintro σ H2 ⟨v4, v5, rfl, s2, no⟩
      rw [List.length_map, List.take_length] at no
      exact k1 (Bc.findSome_no no) H2 (s1.trans s2)
end
end Bp

set_option Elab.async false
set_option linter.all false
set_option maxRecDepth 100000
set_option maxHeartbeats 4000000
namespace Bp
open PySem PySem.Spec PyProof.Rows L2 LamX
def spWould (c : Cl) (T : Tb) : Sp := fun vs H Q _ => ∃ (H0 : Hp) (p : Addr) (h : Ho) (b z : Nat), vs = [.ref p, iN b, iN z] ∧ HouseAt c T H0 H p h ∧ AnsP c T H0 p h (.would b z) Q
def spPass (c : Cl) (T : Tb) : Sp := fun vs H Q _ => ∃ (H0 : Hp) (p : Addr) (h : Ho) (d : Nat), vs = [.ref p, iN d] ∧ HouseAt c T H0 H p h ∧ AnsP c T H0 p h (.pass d) Q
def spList (c : Cl) (T : Tb) : Sp := fun vs H Q _ => ∃ (H0 : Hp) (p : Addr) (h : Ho) (b : Nat), vs = [.ref p, iN b] ∧ HouseAt c T H0 H p h ∧ AnsP c T H0 p h (.list b) Q
def spState (c : Cl) (T : Tb) : Sp := fun vs H Q _ => ∃ (H0 : Hp) (p : Addr) (h : Ho), vs = [.ref p] ∧ HouseAt c T H0 H p h ∧ AnsP c T H0 p h .state Q
section
variable {P : Program} {w : World} {K : PySem.W.Frag} {mg : Str → Option Value} {base : Heap} {c : Cl} {Ts : Tb}
/-! ### would -/
theorem scWould : FnScope ["house", "number", "size", "going"] ["house", "number", "size"] (defScope sWould) := ⟨rfl, rfl, rfl, by decide +kernel, rfl, by decide +kernel, by decide +kernel⟩
theorem ok_would {f : Addr} {fd : FuncData} (F : Fun K "answer_would" "answer_would" sWould f fd) (T : Txt K mg c) (C : Cst mg) (GH : Mt P w K mg base c.H "has_branch" 1 ["self", "number"] (spHas c Ts)) (GZ : Fn P w K mg base "is_size" 1 ["house", "size"] (spIsSize c Ts))
    (GG : Fn P w K mg base "entries_to_go" 4 ["house", "saver", "size"] (spToGo c Ts)) (GC : Fn P w K mg base "counted_contents" 1 ["entries"] (spCounted c)) : FnOk P w K mg base L2.CX0 5 f fd ["house", "number", "size"] (spWould c Ts) := by
  refine F.ok scWould (fun vs H Q E h => ?_) (fun cdv A outer s H vs Q E hr h => ?_)
  · obtain ⟨H0, p, h, b, z, rfl, _⟩ := h
    rfl
  · obtain ⟨H0, p, h, b, z, rfl, AA, k⟩ := h
    refine ⟨_, pss_cons (ps_if (pt_not (pt_val (pe_mt GH T.cH hr (pv 0) (pa_cons (pv 1) pa_nil)))) (pss_one (ps_ret (pe_lst (pa_cons (pe_cst C.noB) pa_nil)))) pss_nil)
      (pss_cons (ps_if (pt_not (pt_val (pe_fn GZ hr (pa_cons (pv 0) (pa_cons (pv 2) pa_nil))))) (pss_one (ps_ret (pe_lst (pa_cons (pe_cst C.out) pa_nil)))) pss_nil)
      (pss_cons (ps_set (i := 3) scWould.nd rfl (Or.inl rfl) (pe_fn GG hr (pa_cons (pv 0) (pa_cons (pv 1) (pa_cons (pv 2) pa_nil)))))
      (pss_cons (ps_if (pt_cmpR op_isN (pv 3) pe_non (nomark _)) (pss_one (ps_ret (pe_lst (pa_cons (pe_cst C.noR) pa_nil)))) pss_nil)
      (pss_one (ps_ret (pe_fn GC hr (pa_cons (pv 3) pa_nil))))))), ?_⟩
    obtain ⟨dx, d, l, bp, ep, A⟩ := id AA
    refine ⟨_, rfl, p, dx, _, rfl, A.at_, ho_no (by decide +kernel), _, rfl, H0, p, h, b, rfl, AA, _, rfl, ?_⟩
    refine ite2 (fun e => ⟨one_line, ans_no k AA (by show (if _ then _ else _) = _; rw [if_pos (by simpa using e)])⟩) (fun e1 => ?_)
    have e1'' : ¬ h.has b = false := by simpa using e1
    refine ⟨_, rfl, _, rfl, H0, p, h, z, rfl, AA, _, rfl, ?_⟩
    refine ite2 (fun e => ⟨one_line, ans_no k AA (by
      show (if _ then _ else (if _ then _ else _)) = _
      rw [if_neg e1'', if_pos (size_bad e)])⟩) (fun e3 => ?_)
    have stp : Rp03.step h (.would b z) = (h, match h.must b z with
      | none => Rp03.ok (-6)
      | some g => Rp03.contents g) := by
      show (if _ then _ else (if _ then _ else _)) = _
      rw [if_neg e1'', if_neg (size_ok e3)]
      rfl
    refine ⟨_, rfl, _, rfl, _, rfl, H0, p, h, b, z, rfl, AA, fun hm H3 x3 t3 => ?_, fun H3 q gp x3 t3 hq hm hl3 => ?_⟩
    · refine ⟨_, rfl, rfl, _, rfl, ?_⟩
      refine ite2 (fun _ => ?_) (fun w => absurd (show decide (V.non = V.non) = true from rfl) w)
      exact ⟨one_line, ans_no k ⟨dx, d, l, bp, ep, A.growN x3 t3⟩ (by rw [stp, hm])⟩
    · refine ⟨_, rfl, rfl, _, rfl, ?_⟩
      refine ite2 (fun w => absurd (of_decide_eq_true w) (fun w2 => by cases w2)) (fun _ => ?_)
      refine ⟨_, rfl, q, gp, rfl, hl3, fun H5 q5 s5 hq5 hr5 => ?_⟩
      have A3 := A.growN x3 t3
      refine k H5 q5 ?_ (A3.same.free hq5) ?_
      · rw [stp]; exact ⟨dx, d, l, bp, ep, A3.grow s5⟩
      · rw [stp, hm, hr5]
        exact congrArg (fun w => some (HO.lst w)) (contents_V gp).symm
/-! ### days pass -/
theorem put_hday {h : Ho} {d l : Addr} {n : Nat} : putF "day" (iN n) (hoF h d l) = hoF { h with today := n } d l := fz_put (i := 2) (by decide +kernel) (by show 2 < 6; decide)
theorem scPass : FnScope ["house", "days", "going", "entry"] ["house", "days"] (defScope sPass) := ⟨rfl, rfl, rfl, by decide +kernel, rfl, by decide +kernel, by decide +kernel⟩
theorem ok_pass {f : Addr} {fd : FuncData} (F : Fun K "answer_pass_days" "answer_pass_days" sPass f fd) (T : Txt K mg c) (C : Cst mg) (GD : Mt P w K mg base c.H "drop_entries" 2 ["self", "going"] (spDrop c Ts)) (GC : Fn P w K mg base "counted_contents" 1 ["entries"] (spCounted c)) :
    FnOk P w K mg base L2.CX0 3 f fd ["house", "days"] (spPass c Ts) := by
  refine F.ok scPass (fun vs H Q E h => ?_) (fun cdv A outer s H vs Q E hr h => ?_)
  · obtain ⟨H0, p, h, n, rfl, _⟩ := h
    rfl
  · obtain ⟨H0, p, h, n, rfl, AA, k⟩ := h
    refine ⟨_, pss_cons (ps_if (PW.pt (pw_or (pt_cmpR op_eq (pv 1) pe_int (nomark _)) (pw_or1 (pt_cmpR op_gt (pe_op op_add (pe_fld (pv 0) rfl) (pv 1)) (pe_cst C.hiD) (nomark _))))) (pss_one (ps_ret (pe_lst (pa_cons (pe_cst C.out) pa_nil)))) pss_nil)
      (pss_cons (ps_fldaug (pv 0) (pv 1) in_add)
      (pss_cons (ps_setLc (i := 2) (own := [("entry", 3)]) (g := gName 3) (tt := tTest (tOp (rI0 fun i j => .bl (decide (j < i))) (tOp (rI0 fun i j => .int (i - j)) (tFld K (tVar 0) "day") (tFld K (tVar 3) "last_day")) (tFld K (tVar 0) "life"))) (te := tVar 3) rfl scPass.nd rfl rfl (sw_true rfl rfl rfl (by decide +kernel)) (pi_list (pe_fld (pv 0) rfl)) (blkOk_by (N := ["house", "days", "going", "entry"]) (sc := defScope sPass) (by decide +kernel))
          (fun _ _ _ _ _ => pg_name (i := 3) scPass.nd rfl (Or.inl rfl)) (fun _ _ _ _ _ => pts_one (pt_cmpR op_gt (pe_op op_sub (pe_fld (pv 0) rfl) (pe_fld (pv 3) rfl)) (pe_fld (pv 0) rfl) (nomark _))) (fun _ _ _ _ _ => pv 3))
      (pss_cons (ps_expr (pe_mt GD T.cH hr (pv 0) (pa_cons (pv 2) pa_nil)))
      (pss_one (ps_ret (pe_fn GC hr (pa_cons (pv 2) pa_nil))))))), ?_⟩
    obtain ⟨dx, d, l, bp, ep, A⟩ := id AA
    have bad : (n = 0 ∨ Rp03.FAR < h.today + n) → Rp03.step h (.pass n) = (h, Rp03.ok (-1)) := fun w => by
      show (if _ then _ else _) = _
      rw [if_pos w]
    refine ⟨_, rfl, rfl, _, rfl, ?_⟩
    refine ite2 (fun e => ⟨one_line, ans_no k AA (bad (.inl (by have w := of_decide_eq_true e; injection w with w; omega)))⟩) (fun e1 => ?_)
    refine ⟨_, rfl, p, c.H, dx, _, _, rfl, A.at_, T.cH, T.hD, ho_day, _, rfl, _, _, rfl, rfl, _, _, rfl, rfl, _, rfl, ?_⟩
    refine ite2 (fun e => ⟨one_line, ans_no k AA (bad (.inr (by have w : (1000000 : Int) < (h.today : Int) + (n : Int) := of_decide_eq_true e; show 1000000 < h.today + n; omega)))⟩) (fun e2 => ?_)
    have ok : ¬ (n = 0 ∨ Rp03.FAR < h.today + n) := by
      rintro (w | w)
      · exact e1 (decide_eq_true (by rw [w]; rfl))
      · exact e2 (decide_eq_true (by have w' : 1000000 < h.today + n := w; show (1000000 : Int) < (h.today : Int) + (n : Int); omega))
    refine ⟨_, rfl, p, c.H, dx, _, _, rfl, A.at_, T.cH, T.hD, ho_day, _, rfl, _, _, rfl, rfl, dx, _, A.at_, (by show 6 < 1000; decide), ?_⟩
    rw [show putF "day" (V.int ((h.today : Int) + (n : Int))) (hoF h d l) = hoF { h with today := h.today + n } d l from put_hday (n := h.today + n)]
    have g := A.good
    have A1 := A.put (h1 := { h with today := h.today + n }) (l1 := l) (ep1 := ep) ⟨g.ids, g.zero, g.nb, g.ne, g.sav, g.savlt, g.used, g.usedlt, g.keys, g.kok, fun e he => Nat.le_trans (g.day e he) (Nat.le_add_right _ _)⟩ rfl A.ee A.l0 A.lst (fun q hq => hq)
    revert A1
    generalize upd H p (HO.ins c.H dx (hoF { h with today := h.today + n } d l)) = H1
    intro A1
    refine ⟨_, rfl, p, c.H, dx, _, _, rfl, A1.at_, T.cH, T.hE, ho_entries, l, rfl, ⟨_, SqL.of A1.lst⟩, fun D hD => lc_fm ep (fun x => decide (h.life < h.today + n - x.2.day)) (fun x => V.ref x.1) hD (SqL.of A1.lst) A1.list.line (fun v => rfl) (fun q hq H2 R s2 r => ?_) (fun q hq H2 R s2 r => ⟨_, rfl, r⟩) fun H2 s2 hD2 => ?_⟩
    · have A2 := A1.grow s2
      obtain ⟨_, de, ka, _, y1, _⟩ := A2.en q hq
      refine ⟨_, rfl, p, c.H, dx, _, _, rfl, A2.at_, T.cH, T.hD, ho_day, _, rfl, q.1, c.E, de, _, _, rfl, y1, T.cE, T.eD, en_day, _, _, rfl, rfl, _, rfl, p, c.H, dx, _, _, rfl, A2.at_, T.cH, T.hL, ho_life, _, _, rfl, rfl, _, rfl, ?_⟩
      have e : decide ((h.life : Int) < ((h.today + n : Nat) : Int) - (q.2.day : Int)) = decide (h.life < h.today + n - q.2.day) := by
        have hq2 : q.2 ∈ h.entries := by rw [A.ee]; exact List.mem_map.mpr ⟨q, hq, rfl⟩
        have := g.day q.2 hq2
        rw [decide_eq_decide]
        omega
      show R (decide ((h.life : Int) < ((h.today + n : Nat) : Int) - (q.2.day : Int))) H2
      rw [e]
      exact r
    · have A2 := A1.grow s2
      obtain ⟨gp, egp⟩ : ∃ gp, gp = ep.filter fun x => decide (h.life < h.today + n - x.2.day) := ⟨_, rfl⟩
      rw [← egp] at hD2
      have L2 : LstAt c H2 D gp := lst_of A2 hD2 (fun y hy => by rw [egp] at hy; exact (List.mem_filter.mp hy).1) (by rw [egp]; exact Nat.le_trans (List.length_filter_le _ _) A.list.few)
      refine ⟨_, rfl, p, dx, _, rfl, A2.at_, ho_no (by decide +kernel), _, rfl, H0, p, D, _, gp, rfl, ⟨dx, d, l, bp, ep, A2⟩, L2, fun H4 AA4 L k4 => ?_⟩
      refine ⟨_, rfl, D, gp, rfl, L, fun H5 q5 s5 hq5 hr5 => ?_⟩
      have eg : (h.entries.filter fun e => decide (h.life < h.today + n - e.day)) = gp.map (·.2) := by rw [egp, A.ee, List.filter_map]; rfl
      have est : Rp03.step h (.pass n) = (dropped { h with today := h.today + n } (gp.map (·.2)), Rp03.contents (gp.map (·.2))) := by
        show (if _ then _ else _) = _
        rw [if_neg ok]
        have ed : (gp.map (·.2)).foldl (fun es g => es.filter fun e => decide (e.used ≠ g.used)) h.entries = h.entries.filter fun e => !decide (h.life < h.today + n - e.day) := by
          rw [Bc.drop_all _ (fun e he => (List.mem_filter.mp (by rw [eg]; exact he)).1) g.used]
          refine List.filter_congr fun e he => ?_
          rw [← eg]
          by_cases w : h.life < h.today + n - e.day
          · rw [show (h.entries.filter fun e => decide (h.life < h.today + n - e.day)).contains e = true from List.contains_iff_mem.mpr (List.mem_filter.mpr ⟨he, decide_eq_true w⟩), decide_eq_true w]
          · rw [decide_eq_false w, show (h.entries.filter fun e => decide (h.life < h.today + n - e.day)).contains e = false by
              rw [Bool.eq_false_iff]
              exact fun z => w (of_decide_eq_true (List.mem_filter.mp (List.contains_iff_mem.mp z)).2)]
        show (({ h with today := h.today + n, entries := h.entries.filter fun e => !decide (h.life < h.today + n - e.day) } : Ho), Rp03.contents (h.entries.filter fun e => decide (h.life < h.today + n - e.day))) = _
        rw [eg]
        unfold dropped
        show _ = (({ h with today := h.today + n, entries := (gp.map (·.2)).foldl (fun es g => es.filter fun e => decide (e.used ≠ g.used)) h.entries } : Ho), _)
        rw [ed]
      refine k H5 q5 ?_ (AA4.same.free hq5) ?_
      · rw [est]; exact AA4.grow s5
      · rw [est, hr5]
        exact congrArg (fun w => some (HO.lst w)) (contents_V gp).symm
/-! ### list -/
theorem out_V (n : Nat) (l : List Nat) : outV ⟨((n : Nat) : Int), l⟩ = (n :: l).map iN := by
  show List.map V.int (((n : Nat) : Int) :: List.map _ l) = _
  rw [List.map_cons, List.map_cons, List.map_map]
  rfl
def rowOf (e : En) : List Nat := [e.content, e.size, e.day]
theorem rows_len (es : List En) : (es.flatMap rowOf).length = 3 * es.length := by
  induction es with
  | nil => rfl
  | cons e r ih => rw [List.flatMap_cons, List.length_append, ih, List.length_cons]; show 3 + _ = _; omega
theorem scList : FnScope ["house", "number", "held", "answer", "entry"] ["house", "number"] (defScope sList) := ⟨rfl, rfl, rfl, by decide +kernel, rfl, by decide +kernel, by decide +kernel⟩
theorem ok_list {f : Addr} {fd : FuncData} (F : Fun K "answer_list_of" "answer_list_of" sList f fd) (T : Txt K mg c) (C : Cst mg) (GH : Mt P w K mg base c.H "has_branch" 1 ["self", "number"] (spHas c Ts)) (GO : Fn P w K mg base "entries_of_branch" 1 ["entries", "number"] (spOfBranch c)) (GS : Fn P w K mg base "sizes_together" 1 ["entries"] (spSizes c)) :
    FnOk P w K mg base L2.CX0 2 f fd ["house", "number"] (spList c Ts) := by
  refine F.ok scList (fun vs H Q E h => ?_) (fun cdv A outer s H vs Q E hr h => ?_)
  · obtain ⟨H0, p, h, b, rfl, _⟩ := h
    rfl
  · obtain ⟨H0, p, h, b, rfl, AA, k⟩ := h
    refine ⟨_, pss_cons (ps_if (pt_not (pt_val (pe_mt GH T.cH hr (pv 0) (pa_cons (pv 1) pa_nil)))) (pss_one (ps_ret (pe_lst (pa_cons (pe_cst C.noB) pa_nil)))) pss_nil)
      (pss_cons (ps_set (i := 2) scList.nd rfl (Or.inl rfl) (pe_fn GO hr (pa_cons (pe_fld (pv 0) rfl) (pa_cons (pv 1) pa_nil))))
      (pss_cons (ps_set (i := 3) scList.nd rfl (Or.inl rfl) (pe_lst (pa_cons (pe_callB call_len_seq (by rfl) T.len PySem.boot_len (pa_cons (pv 2) pa_nil)) (pa_cons (pe_fn GS hr (pa_cons (pv 2) pa_nil)) pa_nil))))
      (pss_cons (ps_for PassesOwn.never rfl (pi_list (pv 2)) (pg_name (i := 4) scList.nd rfl (Or.inl rfl)) (pss_one (ps_expr (pe_bm PySem.F.plainAttrs_list PySem.F.slot_list_extend PySem.F.type_list_extend mt_extend (pv 3) (pa_cons (pe_lst (pa_cons (pe_fld (pv 4) rfl) (pa_cons (pe_fld (pv 4) rfl) (pa_cons (pe_fld (pv 4) rfl) pa_nil)))) pa_nil)))))
      (pss_one (ps_ret (pv 3)))))), ?_⟩
    obtain ⟨dx, d, l, bp, ep, A⟩ := id AA
    refine ⟨_, rfl, p, dx, _, rfl, A.at_, ho_no (by decide +kernel), _, rfl, H0, p, h, b, rfl, AA, _, rfl, ?_⟩
    refine ite2 (fun e => ⟨one_line, ans_no k AA (by show (if _ then _ else _) = _; rw [if_pos (by simpa using e)])⟩) (fun e1 => ?_)
    have e1'' : ¬ h.has b = false := by simpa using e1
    refine ⟨_, rfl, p, c.H, dx, _, _, rfl, A.at_, T.cH, T.hE, ho_entries, _, rfl, l, ep, b, rfl, A.list, fun H1 q s1 hq hl1 => ?_⟩
    obtain ⟨gp, egp⟩ : ∃ gp, gp = ep.filter fun y => decide (y.2.branch = b) := ⟨_, rfl⟩
    rw [← egp] at hl1
    refine ⟨_, rfl, q, _, rfl, .inl (SqL.of hl1.lst), _, rfl, q, gp, rfl, hl1, fun H2 s2 => ⟨(by show 2 ≤ sizeLine; decide), fun r hr2 => ?_⟩⟩
    have hl2 := hl1.up s2
    refine ⟨_, rfl, q, rfl, ⟨_, SqL.of (hl2.up (same_upd hr2)).lst⟩, for_list (K := K) (a := q) (xs := gp.map fun y => V.ref y.1) (fun i σ H3 => ∃ v4 : Option V, σ = [some (.ref p), some (iN b), some (.ref q), some (.ref r), v4] ∧ Same H2 H3 ∧ H3 r = some (.lst ((gp.length :: Rp03.size (gp.map (·.2)) :: ((gp.take i).map (·.2)).flatMap rowOf).map iN)))
      ⟨none, rfl, same_upd hr2, by rw [upd_same, List.length_map]; rfl⟩ (fun i σ H3 _ ⟨_, _, s3, _⟩ => SqL.of (s3 _ _ hl2.lst)) ?_ ?_⟩
    · rintro i y σ H3 hi ⟨v4, rfl, s3, hr3⟩
      obtain ⟨y, hy, rfl⟩ : ∃ x, gp[i]? = some x ∧ y = V.ref x.1 := by
        rw [List.getElem?_map] at hi
        cases e : gp[i]? with
        | none => rw [e] at hi; cases hi
        | some x => rw [e] at hi; exact ⟨x, rfl, (Option.some.inj hi).symm⟩
      obtain ⟨de, ka, y1, _⟩ := (hl2.up s3).en y (List.mem_of_getElem? hy)
      refine ⟨_, rfl, .inl ⟨rfl, _, SqL.of hr3⟩, _, rfl, y.1, c.E, de, _, _, rfl, y1, T.cE, T.eC, en_content, _, rfl, y.1, c.E, de, _, _, rfl, y1, T.cE, T.eS, en_size, _, rfl, y.1, c.E, de, _, _, rfl, y1, T.cE, T.eD, en_day, (by show 3 ≤ sizeLine; decide), fun t ht => ?_⟩
      have nrt : r ≠ t := ne_of_none hr3 ht
      refine ⟨r, t, _, _, rfl, rfl, (by rw [upd_ne nrt]; exact hr3), upd_same, ?_, ?_⟩
      · refine Nat.le_trans (?_ : _ ≤ 1000) (by decide)
        have h1 := hl1.few
        have h2 : ((gp.take i).map (·.2)).length ≤ 40 := by rw [List.length_map, List.length_take]; omega
        have h3 := rows_len ((gp.take i).map (·.2))
        rw [List.length_map, List.length_cons, List.length_cons]
        show _ + 3 ≤ 1000
        omega
      · refine ⟨_, rfl, same_put (s3.trans (same_upd ht)) hr2, ?_⟩
        rw [upd_same, List.take_add_one, hy, List.map_append, List.flatMap_append]
        refine congrArg (fun z => some (HO.lst z)) ?_
        show _ = List.map iN (gp.length :: Rp03.size (gp.map (·.2)) :: (((gp.take i).map (·.2)).flatMap rowOf ++ (rowOf y.2 ++ [])))
        rw [List.append_nil, List.map_cons, List.map_cons, List.map_cons, List.map_cons, List.map_append]
        rfl
    · rintro σ H3 ⟨v4, rfl, s3, hr3⟩
      rw [List.length_map, List.take_length] at hr3
      refine ⟨_, rfl, ?_⟩
      have eg : (h.entries.filter fun e => e.branch == b) = gp.map (·.2) := by rw [egp, A.ee, List.filter_map]; rfl
      have est : Rp03.step h (.list b) = (h, ⟨((gp.length : Nat) : Int), Rp03.size (gp.map (·.2)) :: (gp.map (·.2)).flatMap rowOf⟩) := by
        show (if _ then _ else _) = _
        rw [if_neg e1'']
        show (h, (⟨(((h.entries.filter fun e => e.branch == b).length : Nat) : Int), Rp03.size (h.entries.filter fun e => e.branch == b) :: (h.entries.filter fun e => e.branch == b).flatMap rowOf⟩ : Rp03.Ans)) = _
        rw [eg, List.length_map]
      have S := (s1.trans s2).trans s3
      refine k H3 r ?_ ((AA.grow (s1.trans s2)).same.free hr2) ?_
      · rw [est]; exact AA.grow S
      · rw [est, hr3]
        exact congrArg (fun z => some (HO.lst z)) (out_V _ _).symm
/-! ### state -/
def rowB (es : List En) (x : Br) : List Nat := [x.id, x.parent, x.share, Rp03.sizeOn es x.id]
theorem rowsB_len (es : List En) (bs : List Br) : (bs.flatMap (rowB es)).length = 4 * bs.length := by
  induction bs with
  | nil => rfl
  | cons e r ih => rw [List.flatMap_cons, List.length_append, ih, List.length_cons]; show 4 + _ = _; omega
theorem LstAt.butD {H H1 : Hp} {l d : Addr} {kv : List (Key × V)} {ep : List (Addr × En)} (h : LstAt c H l ep) (hd : H d = some (.dK kv)) (k : ∀ x o, H x = some o → x ≠ d → H1 x = some o) : LstAt c H1 l ep :=
  ⟨k _ _ h.lst (ne_of h.lst hd (by intro z; cases z)), fun q hq => by
    obtain ⟨de, ka, h1, h2⟩ := h.en q hq
    exact ⟨de, ka, k _ _ h1 (ne_of h1 hd (by intro z; cases z)), k _ _ h2 (ne_of h2 hd (by intro z; cases z))⟩, h.few⟩
theorem scState : FnScope ["house", "answer", "number", "branch", "size"] ["house"] (defScope sState) := ⟨rfl, rfl, rfl, by decide +kernel, rfl, by decide +kernel, by decide +kernel⟩
theorem ok_state {f : Addr} {fd : FuncData} (F : Fun K "answer_state" "answer_state" sState f fd) (T : Txt K mg c) (GO : Fn P w K mg base "entries_of_branch" 1 ["entries", "number"] (spOfBranch c)) (GS : Fn P w K mg base "sizes_together" 1 ["entries"] (spSizes c)) :
    FnOk P w K mg base L2.CX0 2 f fd ["house"] (spState c Ts) := by
  refine F.ok scState (fun vs H Q E h => ?_) (fun cdv A outer s H vs Q E hr h => ?_)
  · obtain ⟨H0, p, h, rfl, _⟩ := h
    rfl
  · obtain ⟨H0, p, h, rfl, AA, k⟩ := h
    refine ⟨_, pss_cons (ps_set (i := 1) scState.nd rfl (Or.inl rfl) (pe_lst (pa_cons (pe_callB call_lenD (by rfl) T.len PySem.boot_len (pa_cons (pe_fld (pv 0) rfl) pa_nil)) pa_nil)))
      (pss_cons (ps_lock (ps_for PassesOwn.never rfl (pi_items (pe_fld (pv 0) rfl)) (pg_tup rfl (pgs_cons (pg_name (i := 2) scState.nd rfl (Or.inl rfl)) (pgs_cons (pg_name (i := 3) scState.nd rfl (Or.inl rfl)) pgs_nil)))
        (pss_cons (ps_set (i := 4) scState.nd rfl (Or.inl rfl) (pe_fn GS hr (pa_cons (pe_fn GO hr (pa_cons (pe_fld (pv 0) rfl) (pa_cons (pv 2) pa_nil))) pa_nil)))
        (pss_one (ps_expr (pe_bm PySem.F.plainAttrs_list PySem.F.slot_list_extend PySem.F.type_list_extend mt_extend (pv 1) (pa_cons (pe_lst (pa_cons (pv 2) (pa_cons (pe_fld (pv 3) rfl) (pa_cons (pe_fld (pv 3) rfl) (pa_cons (pv 4) pa_nil))))) pa_nil)))))))
      (pss_one (ps_ret (pv 1)))), ?_⟩
    obtain ⟨dx, d, l, bp, ep, A⟩ := id AA
    have lb : (dictOf bp).length = bp.length := List.length_map ..
    have few : bp.length ≤ 8 := by have := A.good.nb; rw [A.eb, List.length_map] at this; exact this
    have npd : p ≠ d := ne_of A.at_ A.dict (by intro z; cases z)
    refine ⟨_, rfl, p, c.H, dx, _, _, rfl, A.at_, T.cH, T.hB, ho_branches, d, _, rfl, A.dict, one_line, fun q hq => ?_⟩
    have npq : p ≠ q := ne_of_none A.at_ hq
    have ndq : d ≠ q := ne_of_none A.dict hq
    refine ⟨d, .dK (dictOf bp), (by rw [upd_ne ndq]; exact A.dict), trivial, fun od => ⟨_, rfl, p, c.H, dx, _, _, rfl, (by rw [upd_ne npd, upd_ne npq]; exact A.at_), T.cH, T.hB, ho_branches, d, od, _, rfl, upd_same, ?_⟩⟩
    have W0 := walk_items (d := d) (o := od) (kvs := dictOf bp)
    rw [lb] at W0
    refine for_it W0 (fun i σ H1 => ∃ v2 v3 v4 : Option V, σ = [some (.ref p), some (.ref q), v2, v3, v4] ∧ H1 d = some (.frz od (.dK (dictOf bp))) ∧ (∀ y o, H y = some o → y ≠ d → H1 y = some o) ∧ H1 q = some (.lst ((bp.length :: ((bp.take i).map (·.2)).flatMap (rowB h.entries)).map iN)))
      ⟨none, none, none, rfl, upd_same, fun y o e yd => (by rw [upd_ne yd, upd_ne (ne_of_none e hq)]; exact e), by rw [upd_ne ndq.symm, upd_same, lb]; rfl⟩ (fun i σ H1 _ ⟨_, _, _, _, h1, _⟩ => h1) ?_ ?_
    · rintro i y σ H1 H2 hi ⟨v2, v3, v4, rfl, g1, g2, g3⟩ ⟨T0, u, v, rfl, hT0, rfl, eu, ev⟩
      obtain ⟨x, hx⟩ : ∃ x, bp[i]? = some x := ⟨_, List.getElem?_eq_getElem hi⟩
      have ekv : (dictOf bp)[i]? = some (Sum.inl ((x.2.id : Nat) : Int), V.ref x.1) := by
        show (List.map _ bp)[i]? = _
        rw [List.getElem?_map, hx]
        rfl
      have eu' : ((dictOf bp)[i]?).map (fun kv => kV kv.1) = some u := eu
      have ev' : ((dictOf bp)[i]?).map Prod.snd = some v := ev
      rw [ekv] at eu' ev'
      obtain rfl := (Option.some.inj eu')
      obtain rfl := (Option.some.inj ev')
      have hxm := List.mem_of_getElem? hx
      have k2 : ∀ y o, H y = some o → y ≠ d → upd H1 T0 (.tup [kV (Sum.inl ((x.2.id : Nat) : Int)), V.ref x.1]) y = some o := fun y o e yd => by
        have z := g2 y o e yd
        rw [upd_ne (ne_of_none z hT0)]
        exact z
      refine ⟨T0, _, rfl, SqT.of upd_same, rfl, _, _, rfl, _, _, rfl, rfl, ?_⟩
      have L2 := A.list.butD A.dict k2
      refine ⟨_, rfl, p, c.H, dx, _, _, rfl, k2 _ _ A.at_ npd, T.cH, T.hE, ho_entries, _, rfl, l, ep, x.2.id, rfl, L2, fun H3 q3 s3 hq3 hl3 => ?_⟩
      refine ⟨q3, _, rfl, hl3, fun H4 s4 => ?_⟩
      have S4 : Same H1 H4 := ((same_upd hT0).trans s3).trans s4
      obtain ⟨_, db, hb⟩ := A.br x hxm
      have hb4 : H4 x.1 = some (HO.ins c.B db (brF x.2)) := S4 _ _ (g2 _ _ hb (ne_of hb A.dict (by intro z; cases z)))
      have q4 := S4 _ _ g3
      have esz : Rp03.size ((ep.filter fun y => decide (y.2.branch = x.2.id)).map (·.2)) = Rp03.sizeOn h.entries x.2.id := by
        unfold Rp03.sizeOn
        rw [A.ee, List.filter_map]
        rfl
      rw [esz]
      refine ⟨_, rfl, .inl ⟨rfl, _, SqL.of q4⟩, _, rfl, _, rfl, x.1, c.B, db, _, _, rfl, hb4, T.cB, T.bP, br_parent, _, rfl, x.1, c.B, db, _, _, rfl, hb4, T.cB, T.bS, br_share, _, rfl, (by show 4 ≤ sizeLine; decide), fun t ht => ?_⟩
      have nqt : q ≠ t := ne_of_none q4 ht
      refine ⟨q, t, _, _, rfl, rfl, (by rw [upd_ne nqt]; exact q4), upd_same, ?_, ?_⟩
      · refine Nat.le_trans (?_ : _ ≤ 1000) (by decide)
        have h2 : ((bp.take i).map (·.2)).length ≤ 8 := by rw [List.length_map, List.length_take]; omega
        have h3 := rowsB_len h.entries ((bp.take i).map (·.2))
        rw [List.length_map, List.length_cons]
        show _ + 4 ≤ 1000
        omega
      · have d4 := S4 _ _ g1
        refine ⟨_, _, _, rfl, by rw [upd_ne ndq, upd_ne (ne_of_none d4 ht)]; exact d4, fun y o e yd => ?_, ?_⟩
        · have z := S4 _ _ (g2 y o e yd)
          rw [upd_ne (ne_of_none e hq), upd_ne (ne_of_none z ht)]
          exact z
        · rw [upd_same, List.take_add_one, hx, List.map_append, List.flatMap_append]
          refine congrArg (fun z => some (HO.lst z)) ?_
          show _ = List.map iN (bp.length :: (((bp.take i).map (·.2)).flatMap (rowB h.entries) ++ (rowB h.entries x.2 ++ [])))
          rw [List.append_nil, List.map_cons, List.map_cons, List.map_append]
          rfl
    · rintro σ H1 ⟨v2, v3, v4, rfl, g1, g2, g3⟩
      rw [List.take_length] at g3
      refine ⟨g1, _, rfl, ?_⟩
      have S : Same H (upd H1 d (.dK (dictOf bp))) := fun y o e => by
        by_cases yd : y = d
        · rw [yd, upd_same]; rw [yd, A.dict] at e; exact e
        · rw [upd_ne yd]; exact g2 y o e yd
      have est : Rp03.step h .state = (h, ⟨((bp.length : Nat) : Int), (bp.map (·.2)).flatMap (rowB h.entries)⟩) := by
        show (h, (⟨((h.branches.length : Nat) : Int), h.branches.flatMap (rowB h.entries)⟩ : Rp03.Ans)) = _
        rw [A.eb, List.length_map]
      refine k _ q ?_ (A.same.free hq) ?_
      · rw [est]; exact AA.grow S
      · rw [est, upd_ne ndq.symm, g3]
        exact congrArg (fun z => some (HO.lst z)) (out_V _ _).symm
end
end Bp

set_option Elab.async false
set_option linter.all false
set_option maxRecDepth 100000
set_option maxHeartbeats 4000000
namespace Bp
open PySem PySem.Spec PyProof.Rows L2 LamX
/-! ### find -/
def spFind (c : Cl) (T : Tb) (K : PySem.W.Frag) : Sp := fun vs H Q _ => ∃ (H0 : Hp) (p ka ba : Addr) (h : Ho) (b : Nat) (k : List Nat) (qs : List (Addr × List Nat)), vs = [.ref p, iN b, .ref ka, .ref ba] ∧ HouseAt c T H0 H p h ∧ SqL K H ka (k.map iN) ∧ k.length ≤ 1000 ∧ SqL K H ba (qs.map fun y => V.ref y.1) ∧ (∀ y ∈ qs, SqL K H y.1 (y.2.map iN) ∧ y.2.length ≤ 1000) ∧ qs.length ≤ 1000 ∧
  AnsP c T H0 p h (.find b k (qs.map (·.2))) Q
def used (h : Ho) (x : En) : Ho := { h with clock := h.clock + 1, entries := h.entries.map fun e => if e = x then { e with used := h.clock, day := h.today } else e }
section
variable {P : Program} {w : World} {K : PySem.W.Frag} {mg : Str → Option Value} {base : Heap} {c : Cl} {Ts : Tb}
/-- an entry of the house is used -/
theorem HAt.mark {H0 H H1 : Hp} {p dx d l : Addr} {h : Ho} {bp : List (Addr × Br)} {ep : List (Addr × En)} (A : HAt c Ts H0 H p h dx d l bp ep) {x : Addr × En} (hx : x ∈ ep) {de ka : Addr} (hxo : H x.1 = some (.ins c.E de (enF x.2 ka))) (hka : H ka = some (.lst (x.2.key.map iN))) (ka0 : H0 ka = none)
    (p1 : H1 p = some (.ins c.H dx (hoF { h with clock := h.clock + 1 } d l))) (a1 : H1 x.1 = some (.ins c.E de (fz nE [iN x.2.branch, iN x.2.size, iN x.2.content, .ref ka, iN (h.clock + 1), iN h.today]))) (k1 : ∀ y, y ≠ p → y ≠ x.1 → H1 y = H y) :
    HAt c Ts H0 H1 p (used h x.2) dx d l bp (ep.map fun y => (y.1, if y.2 = x.2 then { y.2 with used := h.clock, day := h.today } else y.2)) := by
  have kp : ∀ y o, H y = some o → y ≠ p → y ≠ x.1 → H1 y = some o := fun y o e y1 y2 => by rw [k1 y y1 y2]; exact e
  have kn : ∀ y o, H y = some o → (∀ C dx fs, o ≠ .ins C dx fs) → H1 y = some o := fun y o e n => kp y o e (fun z => by rw [z, A.at_] at e; exact n _ _ _ (Option.some.inj e).symm) (fun z => by rw [z, hxo] at e; exact n _ _ _ (Option.some.inj e).symm)
  have x0 := (A.en x hx).1
  refine ⟨fun b o z => kp b o (A.same b o z) (fun w => by rw [w, A.p0] at z; cases z) (fun w => by rw [w, x0] at z; cases z), A.nt, fun y hy => ?_, Bc.good_touch A.good, A.p0, A.d0, A.l0, A.eb, ?_, p1, kn _ _ A.dict (fun _ _ _ z => by cases z), A.bnd, fun q hq => ?_, ?_, fun q hq => ?_⟩
  · obtain ⟨ps, h1, h2, h3⟩ := A.tabs y hy
    refine ⟨ps, kn _ _ h1 (fun _ _ _ z => by cases z), h2, fun pos cv hc => ?_⟩
    obtain ⟨a, w1, w2⟩ := h3 pos cv hc
    exact ⟨a, w1, kn _ _ w2 (fun _ _ _ z => by unfold CodeO at z; cases z)⟩
  · show h.entries.map _ = _
    rw [A.ee, List.map_map, List.map_map]
    rfl
  · obtain ⟨y0, db, y1⟩ := A.br q hq
    refine ⟨y0, db, kp _ _ y1 (A.bp_ne q hq) fun z => ?_⟩
    rw [z, hxo] at y1
    injection y1 with y1
    injection y1 with _ _ y1
    exact ne_be y1.symm
  · rw [List.map_map]
    exact kn _ _ A.lst (fun _ _ _ z => by cases z)
  · obtain ⟨y, hy, rfl⟩ := List.mem_map.mp hq
    by_cases e : y.1 = x.1
    · have ey : y = x := by
        obtain ⟨_, de2, ka2, _, y1, _⟩ := A.en y hy
        rw [e, hxo] at y1
        injection y1 with y1
        injection y1 with _ _ y1
        have e1 : (enF x.2 ka).lookup ("last_use" : Str) = some (iN (x.2.used + 1)) := en_use
        rw [y1, en_use] at e1
        injection e1 with e1
        injection e1 with e1
        exact Bc.pair_ne A.ee A.good.used hy hx (by omega)
      rw [ey]
      refine ⟨x0, de, ka, ka0, ?_, ?_⟩
      · rw [if_pos rfl]
        exact a1
      · rw [if_pos rfl]
        exact kn _ _ hka (fun _ _ _ z => by cases z)
    · have ey : y.2 ≠ x.2 := fun z => e (by rw [Bc.pair_ne A.ee A.good.used hy hx (by rw [z])])
      obtain ⟨y0, de2, ka2, k0, y1, y2⟩ := A.en y hy
      refine ⟨y0, de2, ka2, k0, ?_, ?_⟩
      · rw [if_neg ey]
        exact kp _ _ y1 (A.ep_ne y hy) e
      · rw [if_neg ey]
        exact kn _ _ y2 (fun _ _ _ z => by cases z)
abbrev nmFind : List Str := ["house", "number", "key", "beginnings", "found", "entry"]
theorem scFind : FnScope nmFind ["house", "number", "key", "beginnings"] (defScope sFind) := ⟨rfl, rfl, rfl, by decide +kernel, rfl, by decide +kernel, by decide +kernel⟩
theorem letters_len {k : List Nat} (h : Rp03.isKey k = true) : k.length ≤ 24 := by
  rw [isKey_is, letters_is, Bool.and_eq_true, Bool.and_eq_true] at h
  exact of_decide_eq_true h.2.1
theorem ok_find {f : Addr} {fd : FuncData} (F : Fun K "answer_find" "answer_find" sFind f fd) (T : Txt K mg c) (C : Cst mg) (GH : Mt P w K mg base c.H "has_branch" 1 ["self", "number"] (spHas c Ts)) (GK : Fn P w K mg base "is_key" 3 ["row"] (spIsKey K)) (GB : Fn P w K mg base "are_beginnings" 3 ["rows"] (spAreBeg K))
    (GL : Fn P w K mg base "found_on_line" 4 ["house", "number", "key", "beginnings"] (spOnLine c Ts K)) (GM : Mt P w K mg base c.H "mark_used" 1 ["self", "entry"] (spMark c)) : FnOk P w K mg base L2.CX0 5 f fd ["house", "number", "key", "beginnings"] (spFind c Ts K) := by
  refine F.ok scFind (fun vs H Q E h => ?_) (fun cdv A outer s H vs Q E hr h => ?_)
  · obtain ⟨H0, p, ka, ba, h, b, k, qs, rfl, _⟩ := h
    rfl
  · obtain ⟨H0, p, ka, ba, h, b, kl, qs, rfl, AA, hk, hkl, hbs, hrow, hql, k⟩ := h
    refine ⟨_, pss_cons (ps_if (pt_not (pt_val (pe_mt GH T.cH hr (pv 0) (pa_cons (pv 1) pa_nil)))) (pss_one (ps_ret (pe_lst (pa_cons (pe_cst C.noB) pa_nil)))) pss_nil)
      (pss_cons (ps_if (PW.pt (pw_or (pt_not (pt_val (pe_fn GK hr (pa_cons (pv 2) pa_nil)))) (pw_or1 (pt_not (pt_val (pe_fn GB hr (pa_cons (pv 3) pa_nil))))))) (pss_one (ps_ret (pe_lst (pa_cons (pe_cst C.noK) pa_nil)))) pss_nil)
      (pss_cons (ps_set (i := 4) scFind.nd rfl (Or.inl rfl) (pe_fn GL hr (pa_cons (pv 0) (pa_cons (pv 1) (pa_cons (pv 2) (pa_cons (pv 3) pa_nil))))))
      (pss_cons (ps_if (pt_cmpR op_isN (pv 4) pe_non (nomark _)) (pss_one (ps_ret (pe_lst (pa_cons (pe_cst C.noF) pa_nil)))) pss_nil)
      (pss_cons (ps_set (i := 5) scFind.nd rfl (Or.inl rfl) (pe_fld (pv 4) rfl))
      (pss_cons (ps_if (pt_cmpR op_eq (pe_fld (pv 5) rfl) (pv 1) (nomark _)) (pss_one (ps_expr (pe_mt GM T.cH hr (pv 0) (pa_cons (pv 5) pa_nil)))) pss_nil)
      (pss_one (ps_ret (pe_op op_cat (pe_lst (pa_cons (pe_fld (pv 4) rfl) (pa_cons (pe_fld (pv 5) rfl) (pa_cons (pe_fld (pv 5) rfl) (pa_cons (pe_fld (pv 5) rfl) pa_nil))))) (pe_fld (pv 5) rfl))))))))), ?_⟩
    obtain ⟨dx, d, l, bp, ep, A⟩ := id AA
    refine ⟨_, rfl, p, dx, _, rfl, A.at_, ho_no (by decide +kernel), _, rfl, H0, p, h, b, rfl, AA, _, rfl, ?_⟩
    refine ite2 (fun e => ⟨one_line, ans_no k AA (by show (if _ then _ else _) = _; rw [if_pos (by simpa using e)])⟩) (fun e1 => ?_)
    have e1' : h.has b = true := by simpa using e1
    have e1'' : ¬ h.has b = false := by simpa using e1
    have bad : (Rp03.isKey kl = false ∨ ((qs.map (·.2)).all Rp03.letters) = false ∨ Rp03.KEYS < (qs.map (·.2)).length) → Rp03.step h (.find b kl (qs.map (·.2))) = (h, Rp03.ok (-5)) := fun w => by
      show (if _ then _ else (if _ then _ else _)) = _
      rw [if_neg e1'', if_pos w]
    refine ⟨_, rfl, ka, kl, rfl, hk, hkl, fun H1 s1 => ⟨_, rfl, ?_⟩⟩
    refine ite2 (fun e => ⟨one_line, ans_no k (AA.grow s1) (bad (.inl (by simpa using e)))⟩) (fun e2 => ?_)
    refine ⟨_, rfl, ba, qs, rfl, s1.seq hbs, fun y hy => ⟨s1.seq (hrow y hy).1, (hrow y hy).2⟩, hql, fun H2 s2 => ⟨_, rfl, ?_⟩⟩
    refine ite2 (fun e => ⟨one_line, ans_no k ((AA.grow s1).grow s2) (bad (.inr (by
      rw [Bool.not_eq_true', Bool.and_eq_false_iff, decide_eq_false_iff_not] at e
      rcases e with e | e
      · right
        show 4 < (qs.map (·.2)).length
        rw [List.length_map]
        omega
      · left
        exact e)))⟩) (fun e3 => ?_)
    have ek : Rp03.isKey kl = true := by simpa using e2
    have ok : ¬ (Rp03.isKey kl = false ∨ ((qs.map (·.2)).all Rp03.letters) = false ∨ Rp03.KEYS < (qs.map (·.2)).length) := by
      rw [Bool.not_eq_true', Bool.and_eq_false_iff, decide_eq_false_iff_not] at e3
      rintro (w | w | w)
      · rw [ek] at w; cases w
      · exact e3 (.inr w)
      · have w' : 4 < (qs.map (·.2)).length := w
        rw [List.length_map] at w'
        exact e3 (.inl (by omega))
    have stp : Rp03.step h (.find b kl (qs.map (·.2))) = (match h.find b kl (qs.map (·.2)) with
      | none => (h, Rp03.ok (-8))
      | some x => (if x.2.branch = b then used h x.2 else h, ⟨((x.1 : Nat) : Int), [x.2.branch, x.2.content, x.2.size] ++ x.2.key⟩)) := by
      show (if _ then _ else (if _ then _ else _)) = _
      rw [if_neg e1'', if_neg ok]
      rfl
    have S2 := s1.trans s2
    have A2 := A.grow S2
    refine ⟨_, rfl, _, rfl, _, rfl, _, rfl, H0, p, ka, ba, dx, d, l, h, bp, ep, b, kl, qs, rfl, A2, e1', S2.seq hk, S2.seq hbs, fun y hy => S2.seq (hrow y hy).1, fun hno H3 s3 => ?_, fun H3 a da w x s3 ha hx hyes h3 => ?_⟩
    · refine ⟨_, rfl, rfl, _, rfl, ?_⟩
      refine ite2 (fun _ => ?_) (fun w => absurd (show decide (V.non = V.non) = true from rfl) w)
      exact ⟨one_line, ans_no k (AA.grow (S2.trans s3)) (by rw [stp, hno])⟩
    · refine ⟨_, rfl, rfl, _, rfl, ?_⟩
      refine ite2 (fun w => absurd (of_decide_eq_true w) (fun w2 => by cases w2)) (fun _ => ?_)
      have A3 := A2.grow s3
      obtain ⟨x0, de, ky, ky0, y1, y2⟩ := A3.en x hx
      have hxe : x.2 ∈ h.entries := by rw [A.ee]; exact List.mem_map.mpr ⟨x, hx, rfl⟩
      have klen := letters_len (A.good.kok _ hxe)
      have szl : (x.2.key.map iN).length + 4 ≤ sizeLine := by
        rw [List.length_map]
        exact Nat.le_trans (Nat.add_le_add_right klen 4) (by decide)
      have nap : a ≠ p := (ne_of_none A2.at_ ha).symm
      have nax : a ≠ x.1 := by
        obtain ⟨_, de2, ky2, _, z1, _⟩ := A2.en x hx
        exact (ne_of_none z1 ha).symm
      refine ⟨_, rfl, a, c.F, da, _, _, rfl, h3, T.cF, T.fE, fd_entry, ?_⟩
      refine ⟨_, rfl, x.1, c.E, de, _, _, rfl, y1, T.cE, T.eB, en_branch, _, rfl, rfl, _, rfl, ?_⟩
      have eo : outV ⟨((w : Nat) : Int), [x.2.branch, x.2.content, x.2.size] ++ x.2.key⟩ = [iN w, iN x.2.branch, iN x.2.content, iN x.2.size] ++ x.2.key.map iN := by
        rw [out_V, List.map_cons, List.map_append]
        rfl
      refine ite2 (fun e => ?_) (fun e => ?_)
      · have eb : x.2.branch = b := by have z := of_decide_eq_true e; injection z with z; omega
        refine ⟨_, rfl, p, dx, _, rfl, A3.at_, ho_no (by decide +kernel), _, rfl, p, x.1, dx, d, l, de, h, _, _, _, _, _, _, rfl, A3.at_, y1, fun H4 p4 a4 k4 => ?_⟩
        have A4 := A3.mark hx y1 y2 ky0 p4 a4 k4
        have h4 : H4 a = some (HO.ins c.F da (fdF w x.1)) := by rw [k4 a nap nax]; exact h3
        have nyp : ky ≠ p := ne_of y2 A3.at_ (by intro z; cases z)
        have nyx : ky ≠ x.1 := ne_of y2 y1 (by intro z; cases z)
        have y4 : H4 ky = some (.lst (x.2.key.map iN)) := by rw [k4 ky nyp nyx]; exact y2
        have f1 : (fz nE [iN x.2.branch, iN x.2.size, iN x.2.content, V.ref ky, iN (h.clock + 1), iN h.today]).lookup ("branch" : Str) = some (iN x.2.branch) := fz_look (i := 0) (by decide +kernel) rfl
        have f2 : (fz nE [iN x.2.branch, iN x.2.size, iN x.2.content, V.ref ky, iN (h.clock + 1), iN h.today]).lookup ("size" : Str) = some (iN x.2.size) := fz_look (i := 1) (by decide +kernel) rfl
        have f3 : (fz nE [iN x.2.branch, iN x.2.size, iN x.2.content, V.ref ky, iN (h.clock + 1), iN h.today]).lookup ("content" : Str) = some (iN x.2.content) := fz_look (i := 2) (by decide +kernel) rfl
        have f4 : (fz nE [iN x.2.branch, iN x.2.size, iN x.2.content, V.ref ky, iN (h.clock + 1), iN h.today]).lookup ("key" : Str) = some (V.ref ky) := fz_look (i := 3) (by decide +kernel) rfl
        refine ⟨_, rfl, a, c.F, da, _, _, rfl, h4, T.cF, T.fW, fd_way, _, rfl, x.1, c.E, de, _, _, rfl, a4, T.cE, T.eB, f1, _, rfl, x.1, c.E, de, _, _, rfl, a4, T.cE, T.eC, f3, _, rfl, x.1, c.E, de, _, _, rfl, a4, T.cE, T.eS, f2, (by show 4 ≤ sizeLine; decide), fun t ht => ?_⟩
        have nxt : x.1 ≠ t := ne_of_none a4 ht
        have nyt : ky ≠ t := ne_of_none y4 ht
        refine ⟨_, rfl, x.1, c.E, de, _, _, rfl, (by rw [upd_ne nxt]; exact a4), T.cE, T.eK, f4, t, ky, _, _, rfl, rfl, upd_same, (by rw [upd_ne nyt]; exact y4), (by rw [Nat.add_comm]; exact szl), fun u hu => ?_⟩
        have S5 := (same_upd (o := .lst [iN w, iN x.2.branch, iN x.2.content, iN x.2.size]) ht).trans (same_upd (o := .lst ([iN w, iN x.2.branch, iN x.2.content, iN x.2.size] ++ x.2.key.map iN)) hu)
        refine k _ u ?_ (A4.same.free ((same_upd ht).free hu)) ?_
        · rw [stp, hyes]
          show HouseAt c Ts H0 _ p (if x.2.branch = b then used h x.2 else h)
          rw [if_pos eb]
          exact ⟨dx, d, l, bp, _, A4.grow S5⟩
        · rw [stp, hyes, upd_same]
          exact congrArg (fun z => some (HO.lst z)) eo.symm
      · have eb : ¬ x.2.branch = b := fun z => e (decide_eq_true (by rw [z]))
        refine ⟨_, rfl, a, c.F, da, _, _, rfl, h3, T.cF, T.fW, fd_way, _, rfl, x.1, c.E, de, _, _, rfl, y1, T.cE, T.eB, en_branch, _, rfl, x.1, c.E, de, _, _, rfl, y1, T.cE, T.eC, en_content, _, rfl, x.1, c.E, de, _, _, rfl, y1, T.cE, T.eS, en_size, (by show 4 ≤ sizeLine; decide), fun t ht => ?_⟩
        have nxt : x.1 ≠ t := ne_of_none y1 ht
        have nyt : ky ≠ t := ne_of_none y2 ht
        refine ⟨_, rfl, x.1, c.E, de, _, _, rfl, (by rw [upd_ne nxt]; exact y1), T.cE, T.eK, en_key, t, ky, _, _, rfl, rfl, upd_same, (by rw [upd_ne nyt]; exact y2), (by rw [Nat.add_comm]; exact szl), fun u hu => ?_⟩
        have S5 := (same_upd (o := .lst [iN w, iN x.2.branch, iN x.2.content, iN x.2.size]) ht).trans (same_upd (o := .lst ([iN w, iN x.2.branch, iN x.2.content, iN x.2.size] ++ x.2.key.map iN)) hu)
        refine k _ u ?_ (A3.same.free ((same_upd ht).free hu)) ?_
        · rw [stp, hyes]
          show HouseAt c Ts H0 _ p (if x.2.branch = b then used h x.2 else h)
          rw [if_neg eb]
          exact ⟨dx, d, l, bp, ep, A3.grow S5⟩
        · rw [stp, hyes, upd_same]
          exact congrArg (fun z => some (HO.lst z)) eo.symm
end
end Bp

set_option Elab.async false
set_option linter.all false
set_option maxRecDepth 100000
set_option maxHeartbeats 4000000
namespace Bp
open PySem PySem.Spec PyProof.Rows L2 LamX
/-! ### one call -/
abbrev NCall := List (List Int)
/-- what is asked of answer_call: the frame Hb stays; H0 has, besides, the call's numbers and lists -/
def spCall (c : Cl) (T : Tb) : Sp := fun vs H Q _ => ∃ (Hb H0 : Hp) (p qn ql : Addr) (h : Ho) (k : Int) (ns : List Int) (qs : List (Addr × List Int)), vs = [.ref p, .int k, .ref qn, .ref ql] ∧ HouseAt c T H0 H p h ∧ Same Hb H0 ∧ Rp03Neutral.asked1 ((k :: ns) :: qs.map (·.2)) = true ∧ H0 qn = some (.lst (ns.map V.int)) ∧ Hb qn = none ∧ H0 ql = some (.lst (qs.map fun y => V.ref y.1)) ∧ Hb ql = none ∧
  (∀ y ∈ qs, H0 y.1 = some (.lst (y.2.map V.int)) ∧ Hb y.1 = none) ∧ ∀ H1 q, HouseAt c T Hb H1 p (Rp03Neutral.step h ((k :: ns) :: qs.map (·.2))).1 → Hb q = none → H1 q = some (.lst ((Rp03Neutral.step h ((k :: ns) :: qs.map (·.2))).2.map V.int)) → Q (.ref q) H1
def spFrom (c : Cl) (T : Tb) (K : PySem.W.Frag) : Sp := fun vs H Q _ => ∃ (H0 : Hp) (p r dx a : Addr) (h : Ho) (n : Nat) (ns xs rest : List Int) (k : Int) (rows : List (List Int)), vs = [.ref p, .ref r] ∧ HouseAt c T H0 H p h ∧ H0 r = some (.ins c.R dx (rdF a n)) ∧ SqL K H0 a (ns.map V.int) ∧ rows.length ≤ 100 ∧
  ns.drop n = PyWide.put1 ((k :: xs) :: rows) ++ rest ∧ Rp03Neutral.asked1 ((k :: xs) :: rows) = true ∧ ∀ H1 q, HouseAt c T (upd H0 r (.ins c.R dx (rdF a (n + (PyWide.put1 ((k :: xs) :: rows)).length)))) H1 p (Rp03Neutral.step h ((k :: xs) :: rows)).1 → H0 q = none → H1 q = some (.lst ((Rp03Neutral.step h ((k :: xs) :: rows)).2.map V.int)) → Q (.ref q) H1
/-- the reader has turned and made new things: the house beside a frame with the reader as it is now -/
theorem HouseAt.read {c : Cl} {T : Tb} {H0 H H1 : Hp} {p r C dx : Addr} {h : Ho} {fs : List (Str × V)} {o : HO} (A : HouseAt c T H0 H p h) (hr : H0 r = some (.ins C dx fs)) (h1 : H1 r = some o) (nt : ∀ ps, o ≠ .tbl ps) (k : ∀ b u, H b = some u → b ≠ r → H1 b = some u) : HouseAt c T (upd H0 r o) H1 p h := by
  obtain ⟨dh, d, l, bp, ep, A⟩ := A
  have hr1 := A.same _ _ hr
  refine ⟨dh, d, l, bp, ep, A.frame (fun b u e => ?_) (fun b ps e => ?_) (tabs_but A.tabs hr1 k) fun b u z n e => ?_⟩
  · by_cases w : b = r
    · rw [w, upd_same] at e; rw [w, h1]; exact e
    · rw [upd_ne w] at e; exact k b u (A.same b u e) w
  · by_cases w : b = r
    · rw [w, upd_same] at e; exact nt ps (Option.some.inj e)
    · rw [upd_ne w] at e; exact A.nt b ps e
  · have w : b ≠ r := fun w => by rw [w, hr] at z; cases z
    exact ⟨k b u e w, by rw [upd_ne w]; exact z⟩
/-- a new thing of the frame -/
theorem HouseAt.have {c : Cl} {T : Tb} {H0 H H1 : Hp} {p q : Addr} {h : Ho} {o : HO} (A : HouseAt c T H0 H p h) (hq : H q = none) (s : Same H H1) (h1 : H1 q = some o) (nt : ∀ ps, o ≠ .tbl ps) : HouseAt c T (upd H0 q o) H1 p h := by
  obtain ⟨dh, d, l, bp, ep, A⟩ := A
  exact ⟨dh, d, l, bp, ep, A.adopt hq (ExtN.of s) (tabs_up s A.tabs) h1 nt⟩
theorem HouseAt.reframe {c : Cl} {T : Tb} {H0 H H0' H' : Hp} {p : Addr} {h : Ho} (A : HouseAt c T H0 H p h) (s : Same H0' H') (nt : ∀ b ps, H0' b ≠ some (.tbl ps)) (t : Tabs T H') (k : ∀ b o, H0 b = none → (∀ ps, o ≠ .tbl ps) → H b = some o → H' b = some o ∧ H0' b = none) : HouseAt c T H0' H' p h :=
  let ⟨dh, d, l, bp, ep, a⟩ := A; ⟨dh, d, l, bp, ep, a.frame s nt t k⟩
theorem HouseAt.nt {c : Cl} {T : Tb} {H0 H : Hp} {p : Addr} {h : Ho} (A : HouseAt c T H0 H p h) : ∀ b ps, H0 b ≠ some (.tbl ps) := let ⟨_, _, _, _, _, a⟩ := A; a.nt
theorem HouseAt.tabs {c : Cl} {T : Tb} {H0 H : Hp} {p : Addr} {h : Ho} (A : HouseAt c T H0 H p h) : Tabs T H := let ⟨_, _, _, _, _, a⟩ := A; a.tabs
section
variable {P : Program} {w : World} {K : PySem.W.Frag} {mg : Str → Option Value} {base : Heap} {c : Cl} {Ts : Tb}
/-- several new things at once -/
def addAll (H : Hp) : List (Addr × List Int) → Hp
  | [] => H
  | y :: r => upd (addAll H r) y.1 (.lst (y.2.map V.int))
theorem addAll_in {H H1 : Hp} : ∀ {qs : List (Addr × List Int)}, (∀ y ∈ qs, H1 y.1 = some (.lst (y.2.map V.int))) → ∀ y ∈ qs, addAll H qs y.1 = some (.lst (y.2.map V.int))
  | [], _, _, hy => by cases hy
  | z :: r, h, y, hy => by
    show upd (addAll H r) z.1 _ y.1 = _
    by_cases e : y.1 = z.1
    · rw [e, upd_same, ← h z (List.mem_cons_self ..), ← e, h y hy]
    · rw [upd_ne e]
      rcases List.mem_cons.mp hy with w | w
      · rw [w] at e; exact absurd rfl e
      · exact addAll_in (fun x hx => h x (List.mem_cons_of_mem _ hx)) y w
theorem addAll_out {H : Hp} {b : Addr} : ∀ {qs : List (Addr × List Int)}, (∀ y ∈ qs, b ≠ y.1) → addAll H qs b = H b
  | [], _ => rfl
  | z :: r, h => by
    show upd (addAll H r) z.1 _ b = _
    rw [upd_ne (h z (List.mem_cons_self ..))]
    exact addAll_out fun y hy => h y (List.mem_cons_of_mem _ hy)
theorem HouseAt.haveAll {H0 H H1 : Hp} {p : Addr} {h : Ho} (A : HouseAt c Ts H0 H p h) (s : Same H H1) {qs : List (Addr × List Int)} (hq : ∀ y ∈ qs, H y.1 = none ∧ H1 y.1 = some (.lst (y.2.map V.int))) : HouseAt c Ts (addAll H0 qs) H1 p h := by
  obtain ⟨dh, d, l, bp, ep, A⟩ := A
  have hin := addAll_in (H := H0) (H1 := H1) (qs := qs) fun y hy => (hq y hy).2
  have cases_ : ∀ b, (∃ y ∈ qs, b = y.1) ∨ ∀ y ∈ qs, b ≠ y.1 := fun b => by
    by_cases w : ∃ y ∈ qs, b = y.1
    · exact .inl w
    · exact .inr fun y hy e => w ⟨y, hy, e⟩
  refine ⟨dh, d, l, bp, ep, A.frame (fun b u e => ?_) (fun b ps e => ?_) (tabs_up s A.tabs) fun b u e n e1 => ⟨s b u e1, ?_⟩⟩
  · rcases cases_ b with ⟨y, hy, rfl⟩ | w
    · rw [hin y hy] at e; rw [(hq y hy).2]; exact e
    · rw [addAll_out w] at e; exact s b u (A.same b u e)
  · rcases cases_ b with ⟨y, hy, rfl⟩ | w
    · rw [hin y hy] at e; cases e
    · rw [addAll_out w] at e; exact A.nt b ps e
  · rw [addAll_out fun y hy => ne_of_none e1 (hq y hy).1]; exact e
theorem scFrom : FnScope ["house", "reader", "call", "numbers", "lists"] ["house", "reader"] (defScope sFrom) := ⟨rfl, rfl, rfl, by decide +kernel, rfl, by decide +kernel, by decide +kernel⟩
theorem ok_from {f : Addr} {fd : FuncData} (F : Fun K "answer_from" "answer_from" sFrom f fd) (T : Txt K mg c) (GN : Mt P w K mg base c.R "take_number" 1 ["self"] (spNumber c K)) (GL : Mt P w K mg base c.R "take_list" 2 ["self"] (spTakeList c K)) (GM : Mt P w K mg base c.R "take_lists" 3 ["self"] (spTakeLists c K))
    (GC : Fn P w K mg base "answer_call" 6 ["house", "call", "numbers", "lists"] (spCall c Ts)) : FnOk P w K mg base L2.CX0 7 f fd ["house", "reader"] (spFrom c Ts K) := by
  refine F.ok scFrom (fun vs H Q E h => ?_) (fun cdv A outer s H vs Q E hr h => ?_)
  · obtain ⟨H0, p, r, dx, a, h, n, ns, xs, rest, k, rows, rfl, _⟩ := h
    rfl
  · obtain ⟨H0, p, r, dx, a, h, n, ns, xs, rest, k0, rows, rfl, AA, hr0, hs, hlen, hd, hask, k⟩ := h
    refine ⟨_, pss_cons (ps_set (i := 2) scFrom.nd rfl (Or.inl rfl) (pe_mt0 GN T.cR hr (pv 1))) (pss_cons (ps_set (i := 3) scFrom.nd rfl (Or.inl rfl) (pe_mt0 GL T.cR hr (pv 1))) (pss_cons (ps_set (i := 4) scFrom.nd rfl (Or.inl rfl) (pe_mt0 GM T.cR hr (pv 1)))
      (pss_one (ps_ret (pe_fn GC hr (pa_cons (pv 0) (pa_cons (pv 2) (pa_cons (pv 3) (pa_cons (pv 4) pa_nil))))))))), ?_⟩
    have hrH := AA.same _ _ hr0
    have hsH := AA.same.seq hs
    rw [PyWide.put1_append] at hd
    obtain ⟨hz, hd1⟩ := drop_at hd
    have hd2 : ns.drop (n + 1) = (xs.length : Int) :: (xs ++ ((rows.length : Int) :: (PyFlat.putRows rows ++ rest))) := hd1
    refine ⟨_, rfl, r, dx, _, rfl, hrH, rd_no (by decide +kernel), r, dx, a, n, ns, k0, rfl, hrH, hsH, hz, ?_⟩
    have k1 : ∀ b o, H b = some o → b ≠ r → upd H r (.ins c.R dx (rdF a (n + 1))) b = some o := fun b o e w => by rw [upd_ne w]; exact e
    refine ⟨_, rfl, r, dx, _, rfl, upd_same, rd_no (by decide +kernel), r, dx, a, n + 1, ns, xs, _, rfl, upd_same, sq_but hsH hrH k1, hd2, fun H2 qn g1 g2 g3 g4 => ?_⟩
    have k2 : ∀ b o, H b = some o → b ≠ r → H2 b = some o := fun b o e w => g4 b o (k1 b o e w) w
    have qn0 : H qn = none := by
      cases e : H qn with
      | none => rfl
      | some o =>
        by_cases w : qn = r
        · rw [w, upd_same] at g2; cases g2
        · rw [k1 qn o e w] at g2; cases g2
    have hd3 : ns.drop (n + 1 + 1 + xs.length) = (rows.length : Int) :: (PyFlat.putRows rows ++ rest) := by
      have e1 := (drop_at hd2).2
      rw [← List.drop_drop, e1, List.drop_left' rfl]
    refine ⟨_, rfl, r, dx, _, rfl, g1, rd_no (by decide +kernel), r, dx, a, _, ns, rest, rows, rfl, g1, sq_but hsH hrH k2, hlen, hd3, fun H3 ql qs f1 R em f4 => ?_⟩
    have k3 : ∀ b o, H b = some o → b ≠ r → H3 b = some o := fun b o e w => f4 b o (k2 b o e w) w
    have nrq : qn ≠ r := fun w => by rw [w, upd_same] at g2; cases g2
    have n3 : H3 qn = some (.lst (xs.map V.int)) := f4 _ _ g3 nrq
    have free2 : ∀ b, H2 b = none → H b = none ∧ b ≠ r := fun b e => by
      have w : b ≠ r := fun w => by rw [w, g1] at e; cases e
      refine ⟨?_, w⟩
      cases z : H b with
      | none => rfl
      | some o => rw [k2 b o z w] at e; cases e
    obtain ⟨ql0, qlr⟩ := free2 ql R.new
    have nqq : qn ≠ ql := ne_of_none g3 R.new
    have row0 : ∀ y ∈ qs, H y.1 = none ∧ y.1 ≠ r ∧ y.1 ≠ qn ∧ y.1 ≠ ql := fun y hy => by
      obtain ⟨y0, y1, y2⟩ := R.row y hy
      exact ⟨(free2 _ y0).1, (free2 _ y0).2, (ne_of_none g3 y0).symm, y1⟩
    obtain ⟨Hb, eHb⟩ : ∃ Hb, Hb = upd H0 r (.ins c.R dx (rdF a (n + 1 + 1 + xs.length + 1 + (PyFlat.putRows rows).length))) := ⟨_, rfl⟩
    have hbr : Hb r = some (.ins c.R dx (rdF a (n + 1 + 1 + xs.length + 1 + (PyFlat.putRows rows).length))) := by rw [eHb]; exact upd_same
    have hbo : ∀ b, b ≠ r → Hb b = H0 b := fun b w => by rw [eHb]; exact upd_ne w
    have hbn : ∀ b, H b = none → b ≠ r → Hb b = none := fun b e w => by rw [hbo b w]; exact AA.same.free e
    obtain ⟨Hc, eHc⟩ : ∃ Hc, Hc = upd (upd (addAll Hb qs) ql (.lst (qs.map fun y => V.ref y.1))) qn (.lst (xs.map V.int)) := ⟨_, rfl⟩
    have hcn : Hc qn = some (.lst (xs.map V.int)) := by rw [eHc]; exact upd_same
    have hcl : Hc ql = some (.lst (qs.map fun y => V.ref y.1)) := by rw [eHc, upd_ne nqq.symm]; exact upd_same
    have hcy : ∀ y ∈ qs, Hc y.1 = some (.lst (y.2.map V.int)) := fun y hy => by
      obtain ⟨_, _, y1, y2⟩ := row0 y hy
      rw [eHc, upd_ne y1, upd_ne y2]
      exact addAll_in (H1 := H3) (fun z hz => (R.row z hz).2.2) y hy
    have hco : ∀ b, b ≠ qn → b ≠ ql → (∀ y ∈ qs, b ≠ y.1) → Hc b = Hb b := fun b w1 w2 w3 => by rw [eHc, upd_ne w1, upd_ne w2, addAll_out w3]
    have split : ∀ b, b = qn ∨ b = ql ∨ (∃ y ∈ qs, b = y.1) ∨ (b ≠ qn ∧ b ≠ ql ∧ ∀ y ∈ qs, b ≠ y.1) := fun b => by
      by_cases w1 : b = qn
      · exact .inl w1
      · by_cases w2 : b = ql
        · exact .inr (.inl w2)
        · by_cases w3 : ∃ y ∈ qs, b = y.1
          · exact .inr (.inr (.inl w3))
          · exact .inr (.inr (.inr ⟨w1, w2, fun y hy e => w3 ⟨y, hy, e⟩⟩))
    have AA3 : HouseAt c Ts Hc H3 p h := by
      refine AA.reframe (fun b u e => ?_) (fun b ps e => ?_) (tabs_but AA.tabs hrH k3) fun b u z m e => ⟨?_, ?_⟩
      · rcases split b with rfl | rfl | ⟨y, hy, rfl⟩ | ⟨w1, w2, w3⟩
        · rw [hcn] at e; rw [n3]; exact e
        · rw [hcl] at e; rw [R.lst]; exact e
        · rw [hcy y hy] at e; rw [(R.row y hy).2.2]; exact e
        · rw [hco b w1 w2 w3] at e
          by_cases w : b = r
          · rw [w, hbr] at e; rw [w, f1]; exact e
          · rw [hbo b w] at e; exact k3 b u (AA.same b u e) w
      · rcases split b with rfl | rfl | ⟨y, hy, rfl⟩ | ⟨w1, w2, w3⟩
        · rw [hcn] at e; cases e
        · rw [hcl] at e; cases e
        · rw [hcy y hy] at e; cases e
        · rw [hco b w1 w2 w3] at e
          by_cases w : b = r
          · rw [w, hbr] at e; cases e
          · rw [hbo b w] at e; exact AA.nt b ps e
      · exact k3 b u e (fun w => by rw [w, hr0] at z; cases z)
      · rw [hco b (ne_of_none e qn0) (ne_of_none e ql0) fun y hy => ne_of_none e (row0 y hy).1, hbo b (fun w => by rw [w, hr0] at z; cases z)]
        exact z
    have sbc : Same Hb Hc := fun b u e => by
      have w0 : b = r ∨ H b ≠ none := by
        by_cases w : b = r
        · exact .inl w
        · right
          rw [hbo b w] at e
          rw [AA.same b u e]
          simp
      have nn : ∀ x, H x = none → x ≠ r → b ≠ x := fun x hx hxr z => by
        rcases w0 with w | w
        · exact hxr (by rw [← z]; exact w)
        · exact w (by rw [z]; exact hx)
      rw [hco b (nn _ qn0 nrq) (nn _ ql0 qlr) fun y hy => nn _ (row0 y hy).1 (row0 y hy).2.1]
      exact e
    have eln : n + (PyWide.put1 ((k0 :: xs) :: rows)).length = n + 1 + 1 + xs.length + 1 + (PyFlat.putRows rows).length := by
      show n + (k0 :: (PyFlat.putRow xs ++ ((rows.length : Int) :: PyFlat.putRows rows))).length = _
      rw [List.length_cons, List.length_append, List.length_cons]
      show n + (xs.length + 1 + ((PyFlat.putRows rows).length + 1) + 1) = _
      omega
    rw [eln] at k
    refine ⟨_, rfl, _, rfl, _, rfl, _, rfl, Hb, Hc, p, qn, ql, h, k0, xs, qs, rfl, AA3, sbc, (by rw [em]; exact hask), hcn, hbn _ qn0 nrq, hcl, hbn _ ql0 qlr, fun y hy => ⟨hcy y hy, hbn _ (row0 y hy).1 (row0 y hy).2.1⟩, fun H4 q4 AA4 hq4 hr4 => ?_⟩
    rw [em] at AA4 hr4
    have q4r : q4 ≠ r := fun w => by rw [w, hbr] at hq4; cases hq4
    refine k H4 q4 (by rw [← eHb]; exact AA4) (by rw [← hbo q4 q4r]; exact hq4) hr4
end
end Bp

set_option Elab.async false
set_option linter.all false
set_option maxRecDepth 100000
set_option maxHeartbeats 4000000
namespace Bp
open PySem PySem.Spec PyProof.Rows L2 LamX
/-! ### one call, by its number -/
structure CstC (mg : Str → Option Value) : Prop where
  k0 : ∃ t, mg "BEGINS" = some (.int 0 t)
  k1 : ∃ t, mg "OPENS" = some (.int 1 t)
  k2 : ∃ t, mg "CLOSES" = some (.int 2 t)
  k3 : ∃ t, mg "SHARE" = some (.int 3 t)
  k4 : ∃ t, mg "SAVE" = some (.int 4 t)
  k5 : ∃ t, mg "FIND" = some (.int 5 t)
  k6 : ∃ t, mg "WOULD" = some (.int 6 t)
  k7 : ∃ t, mg "PASS_DAYS" = some (.int 7 t)
  k8 : ∃ t, mg "LIST_OF" = some (.int 8 t)
theorem if_skip {i j : Int} {A B : Prop} (h : i ≠ j) (b : B) : if decide (V.int i = V.int j) = true then A else B := by
  rw [if_neg fun w => h (by have := of_decide_eq_true w; injection this)]
  exact b
theorem if_take {i : Int} {A B : Prop} (a : A) : if decide (V.int i = V.int i) = true then A else B := by
  rw [if_pos (decide_eq_true rfl)]
  exact a
theorem at0 {v : V} {r : List V} : atI (v :: r) 0 = some v := atI_nat (j := 0) rfl
theorem at1 {u v : V} {r : List V} : atI (u :: v :: r) 1 = some v := atI_nat (j := 1) rfl
theorem at2 {t u v : V} {r : List V} : atI (t :: u :: v :: r) 2 = some v := atI_nat (j := 2) rfl
theorem nat_rows : ∀ (ys : List (Addr × List Int)) (ps : List (List Nat)), ys.map (·.2) = ps.map (List.map Bc.cI) → ∃ zs : List (Addr × List Nat), zs.map (·.2) = ps ∧ (zs.map fun z => V.ref z.1) = (ys.map fun y => V.ref y.1) ∧ ∀ z ∈ zs, ∃ y ∈ ys, y.1 = z.1 ∧ y.2 = z.2.map Bc.cI
  | [], [], _ => ⟨[], rfl, rfl, fun z hz => by cases hz⟩
  | [], _ :: _, h => by cases h
  | _ :: _, [], h => by cases h
  | y :: ys, p :: ps, h => by
    rw [List.map_cons, List.map_cons] at h
    injection h with h1 h2
    obtain ⟨zs, e1, e2, e3⟩ := nat_rows ys ps h2
    refine ⟨(y.1, p) :: zs, by rw [List.map_cons, e1], by rw [List.map_cons, List.map_cons, e2], fun z hz => ?_⟩
    rcases List.mem_cons.mp hz with w | w
    · rw [w]; exact ⟨y, List.mem_cons_self .., rfl, h1⟩
    · obtain ⟨x, hx, e⟩ := e3 z w
      exact ⟨x, List.mem_cons_of_mem _ hx, e⟩
theorem cI_iN (k : List Nat) : (k.map Bc.cI).map V.int = k.map iN := by rw [List.map_map]; rfl
theorem cut_tail (v : V) (r : List V) : cutV (v :: r) (some 1) none = r := by
  unfold cutV
  have e : HT.sIx (v :: r).length 0 (some 1) = min 1 (v :: r).length := HT.sIx_nat _ _ 1
  rw [HT.sIx_none, e, Nat.min_eq_left (by rw [List.length_cons]; omega), List.drop_one, List.tail_cons, List.length_cons, Nat.add_sub_cancel]
  exact List.take_length
section
variable {P : Program} {w : World} {K : PySem.W.Frag} {mg : Str → Option Value} {base : Heap} {c : Cl} {Ts : Tb}
theorem scCall : FnScope ["house", "call", "numbers", "lists"] ["house", "call", "numbers", "lists"] (defScope sCall) := ⟨rfl, rfl, rfl, by decide +kernel, rfl, by decide +kernel, by decide +kernel⟩
theorem ok_call {f : Addr} {fd : FuncData} (F : Fun K "answer_call" "answer_call" sCall f fd) (T : Txt K mg c) (C : CstC mg) (G0 : Fn P w K mg base "answer_begins" 4 ["house", "room", "life", "share"] (spBegins c Ts)) (G1 : Fn P w K mg base "answer_opens" 3 ["house", "number", "parent", "share"] (spOpens c Ts)) (G2 : Fn P w K mg base "answer_closes" 3 ["house", "number"] (spCloses c Ts))
    (G3 : Fn P w K mg base "answer_share" 2 ["house", "number", "part"] (spShare c Ts)) (G4 : Fn P w K mg base "answer_save" 5 ["house", "number", "size", "content", "key"] (spSave c Ts)) (G5 : Fn P w K mg base "answer_find" 5 ["house", "number", "key", "beginnings"] (spFind c Ts K)) (G6 : Fn P w K mg base "answer_would" 5 ["house", "number", "size"] (spWould c Ts))
    (G7 : Fn P w K mg base "answer_pass_days" 3 ["house", "days"] (spPass c Ts)) (G8 : Fn P w K mg base "answer_list_of" 2 ["house", "number"] (spList c Ts)) (G9 : Fn P w K mg base "answer_state" 2 ["house"] (spState c Ts)) : FnOk P w K mg base L2.CX0 6 f fd ["house", "call", "numbers", "lists"] (spCall c Ts) := by
  refine F.ok scCall (fun vs H Q E h => ?_) (fun cdv A outer s H vs Q E hr h => ?_)
  · obtain ⟨Hb, H0, p, qn, ql, h, k, ns, qs, rfl, _⟩ := h
    rfl
  · obtain ⟨Hb, H0, p, qn, ql, h, k0, ns, qs, rfl, AA, sb, hask, hn0, hnb, hl0, hlb, hrow, k⟩ := h
    refine ⟨_, pss_cons (ps_if (pt_cmpR op_eq (pv 1) (pe_cst C.k0) (nomark _)) (pss_one (ps_ret (pe_fn G0 hr (pa_cons (pv 0) (pa_cons (pe_ix ix_list (pv 2) pe_int (fun _ _ => rfl)) (pa_cons (pe_ix ix_list (pv 2) pe_int (fun _ _ => rfl)) (pa_cons (pe_ix ix_list (pv 2) pe_int (fun _ _ => rfl)) pa_nil))))))) pss_nil)
      (pss_cons (ps_if (pt_cmpR op_eq (pv 1) (pe_cst C.k1) (nomark _)) (pss_one (ps_ret (pe_fn G1 hr (pa_cons (pv 0) (pa_cons (pe_ix ix_list (pv 2) pe_int (fun _ _ => rfl)) (pa_cons (pe_ix ix_list (pv 2) pe_int (fun _ _ => rfl)) (pa_cons (pe_ix ix_list (pv 2) pe_int (fun _ _ => rfl)) pa_nil))))))) pss_nil)
      (pss_cons (ps_if (pt_cmpR op_eq (pv 1) (pe_cst C.k2) (nomark _)) (pss_one (ps_ret (pe_fn G2 hr (pa_cons (pv 0) (pa_cons (pe_ix ix_list (pv 2) pe_int (fun _ _ => rfl)) pa_nil))))) pss_nil)
      (pss_cons (ps_if (pt_cmpR op_eq (pv 1) (pe_cst C.k3) (nomark _)) (pss_one (ps_ret (pe_fn G3 hr (pa_cons (pv 0) (pa_cons (pe_ix ix_list (pv 2) pe_int (fun _ _ => rfl)) (pa_cons (pe_ix ix_list (pv 2) pe_int (fun _ _ => rfl)) pa_nil)))))) pss_nil)
      (pss_cons (ps_if (pt_cmpR op_eq (pv 1) (pe_cst C.k4) (nomark _)) (pss_one (ps_ret (pe_fn G4 hr (pa_cons (pv 0) (pa_cons (pe_ix ix_list (pv 2) pe_int (fun _ _ => rfl)) (pa_cons (pe_ix ix_list (pv 2) pe_int (fun _ _ => rfl)) (pa_cons (pe_ix ix_list (pv 2) pe_int (fun _ _ => rfl)) (pa_cons (pe_ix ix_list (pv 3) pe_int (fun _ _ => rfl)) pa_nil)))))))) pss_nil)
      (pss_cons (ps_if (pt_cmpR op_eq (pv 1) (pe_cst C.k5) (nomark _)) (pss_one (ps_ret (pe_fn G5 hr (pa_cons (pv 0) (pa_cons (pe_ix ix_list (pv 2) pe_int (fun _ _ => rfl)) (pa_cons (pe_ix ix_list (pv 3) pe_int (fun _ _ => rfl)) (pa_cons (pe_slice sl_list (pv 3) (po_some pe_int) po_none) pa_nil))))))) pss_nil)
      (pss_cons (ps_if (pt_cmpR op_eq (pv 1) (pe_cst C.k6) (nomark _)) (pss_one (ps_ret (pe_fn G6 hr (pa_cons (pv 0) (pa_cons (pe_ix ix_list (pv 2) pe_int (fun _ _ => rfl)) (pa_cons (pe_ix ix_list (pv 2) pe_int (fun _ _ => rfl)) pa_nil)))))) pss_nil)
      (pss_cons (ps_if (pt_cmpR op_eq (pv 1) (pe_cst C.k7) (nomark _)) (pss_one (ps_ret (pe_fn G7 hr (pa_cons (pv 0) (pa_cons (pe_ix ix_list (pv 2) pe_int (fun _ _ => rfl)) pa_nil))))) pss_nil)
      (pss_cons (ps_if (pt_cmpR op_eq (pv 1) (pe_cst C.k8) (nomark _)) (pss_one (ps_ret (pe_fn G8 hr (pa_cons (pv 0) (pa_cons (pe_ix ix_list (pv 2) pe_int (fun _ _ => rfl)) pa_nil))))) pss_nil)
      (pss_one (ps_ret (pe_fn G9 hr (pa_cons (pv 0) pa_nil)))))))))))), ?_⟩
    obtain ⟨call, sh, ec⟩ := Bc.shape_of hask
    have kA : AnsP c Ts Hb p h call Q := by
      rw [Bc.step_of ec] at k
      exact k
    have AB : HouseAt c Ts Hb H p h := AA.less sb
    have hn := AA.same _ _ hn0
    have hl := AA.same _ _ hl0
    clear k ec hask
    obtain ⟨rows, er⟩ : ∃ rows, rows = qs.map (·.2) := ⟨_, rfl⟩
    rw [← er] at sh
    cases sh with
    | begins r n s => exact ⟨_, rfl, rfl, _, rfl, if_take ⟨_, rfl, _, rfl, qn, _, _, _, rfl, rfl, SqL.of hn, at0, _, rfl, qn, _, _, _, rfl, rfl, SqL.of hn, at1, _, rfl, qn, _, _, _, rfl, rfl, SqL.of hn, at2, Hb, p, h, r, n, s, rfl, AB, kA⟩⟩
    | opens b a s => exact ⟨_, rfl, rfl, _, rfl, if_skip (by decide) ⟨_, rfl, rfl, _, rfl, if_take ⟨_, rfl, _, rfl, qn, _, _, _, rfl, rfl, SqL.of hn, at0, _, rfl, qn, _, _, _, rfl, rfl, SqL.of hn, at1, _, rfl, qn, _, _, _, rfl, rfl, SqL.of hn, at2, Hb, p, h, b, a, s, rfl, AB, kA⟩⟩⟩
    | closes b => exact ⟨_, rfl, rfl, _, rfl, if_skip (by decide) ⟨_, rfl, rfl, _, rfl, if_skip (by decide) ⟨_, rfl, rfl, _, rfl, if_take ⟨_, rfl, _, rfl, qn, _, _, _, rfl, rfl, SqL.of hn, at0, Hb, p, h, b, rfl, AB, kA⟩⟩⟩⟩
    | share b s => exact ⟨_, rfl, rfl, _, rfl, if_skip (by decide) ⟨_, rfl, rfl, _, rfl, if_skip (by decide) ⟨_, rfl, rfl, _, rfl, if_skip (by decide) ⟨_, rfl, rfl, _, rfl, if_take ⟨_, rfl, _, rfl, qn, _, _, _, rfl, rfl, SqL.of hn, at0, _, rfl, qn, _, _, _, rfl, rfl, SqL.of hn, at1, Hb, p, h, b, s, rfl, AB, kA⟩⟩⟩⟩⟩
    | save b z t kl hkl =>
      obtain ⟨y, rfl, ey⟩ : ∃ y, qs = [y] ∧ kl.map Bc.cI = y.2 := by
        match qs, er with
        | [y], er => exact ⟨y, rfl, by injection er⟩
        | [], er => cases er
        | _ :: _ :: _, er => injection er with _ er; cases er
      obtain ⟨hy0, hyb⟩ := hrow y (List.mem_singleton.mpr rfl)
      rw [← ey, cI_iN] at hy0
      have sd : Same Hb (del H0 y.1) := fun x o e => by
        have xk : x ≠ y.1 := fun w => by rw [w, hyb] at e; cases e
        show (if x = y.1 then none else H0 x) = some o
        rw [if_neg xk]
        exact sb x o e
      exact ⟨_, rfl, rfl, _, rfl, if_skip (by decide) ⟨_, rfl, rfl, _, rfl, if_skip (by decide) ⟨_, rfl, rfl, _, rfl, if_skip (by decide) ⟨_, rfl, rfl, _, rfl, if_skip (by decide) ⟨_, rfl, rfl, _, rfl, if_take ⟨_, rfl, _, rfl, qn, _, _, _, rfl, rfl, SqL.of hn, at0, _, rfl, qn, _, _, _, rfl, rfl, SqL.of hn, at1, _, rfl, qn, _, _, _, rfl, rfl, SqL.of hn, at2, _, rfl, ql, _, _, _, rfl, rfl, SqL.of hl, at0,
        H0, p, y.1, h, b, z, t, kl, rfl, AA, hy0, Nat.le_trans hkl (by decide), fun H1 q A1 hq hr1 => kA H1 q (A1.less sd) (sd.free hq) hr1⟩⟩⟩⟩⟩⟩
    | find b kl ps hkl hps hpl =>
      obtain ⟨y, ys, rfl, ey, eys⟩ : ∃ y ys, qs = y :: ys ∧ kl.map Bc.cI = y.2 ∧ ys.map (·.2) = ps.map (List.map Bc.cI) := by
        match qs, er with
        | y :: ys, er => injection er with e1 e2; exact ⟨y, ys, rfl, e1, e2.symm⟩
        | [], er => cases er
      obtain ⟨zs, z1, z2, z3⟩ := nat_rows ys ps eys
      obtain ⟨hy0, hyb⟩ := hrow y (List.mem_cons_self ..)
      rw [← ey, cI_iN] at hy0
      have lz : zs.length = ps.length := by rw [← z1, List.length_map]
      refine ⟨_, rfl, rfl, _, rfl, if_skip (by decide) ⟨_, rfl, rfl, _, rfl, if_skip (by decide) ⟨_, rfl, rfl, _, rfl, if_skip (by decide) ⟨_, rfl, rfl, _, rfl, if_skip (by decide) ⟨_, rfl, rfl, _, rfl, if_skip (by decide) ⟨_, rfl, rfl, _, rfl, if_take ⟨_, rfl, _, rfl, qn, _, _, _, rfl, rfl, SqL.of hn, at0, _, rfl, ql, _, _, _, rfl, rfl, SqL.of hl, at0, _, rfl, _, rfl, ql, _, rfl, SqL.of hl, fun q hq => ?_⟩⟩⟩⟩⟩⟩⟩
      have eq1 : cutV ((y :: ys).map fun y => V.ref y.1) (some 1) none = zs.map fun z => V.ref z.1 := by
        rw [List.map_cons, cut_tail, z2]
      rw [eq1]
      have sq : Same H (upd H q (.lst (zs.map fun z => V.ref z.1))) := same_upd hq
      refine ⟨Hb, p, y.1, q, h, b, kl, zs, rfl, AB.grow sq, SqL.of (sq _ _ (AA.same _ _ hy0)), Nat.le_trans hkl (by decide), SqL.of upd_same, fun z hz => ?_, by omega, by rw [z1]; exact kA⟩
      obtain ⟨x, hx, e1, e2⟩ := z3 z hz
      obtain ⟨hx0, _⟩ := hrow x (List.mem_cons_of_mem _ hx)
      rw [e1, e2, cI_iN] at hx0
      refine ⟨SqL.of (sq _ _ (AA.same _ _ hx0)), Nat.le_trans (hpl z.2 ?_) (by decide)⟩
      rw [← z1]
      exact List.mem_map.mpr ⟨z, hz, rfl⟩
    | would b z => exact ⟨_, rfl, rfl, _, rfl, if_skip (by decide) ⟨_, rfl, rfl, _, rfl, if_skip (by decide) ⟨_, rfl, rfl, _, rfl, if_skip (by decide) ⟨_, rfl, rfl, _, rfl, if_skip (by decide) ⟨_, rfl, rfl, _, rfl, if_skip (by decide) ⟨_, rfl, rfl, _, rfl, if_skip (by decide) ⟨_, rfl, rfl, _, rfl, if_take ⟨_, rfl, _, rfl, qn, _, _, _, rfl, rfl, SqL.of hn, at0, _, rfl, qn, _, _, _, rfl, rfl, SqL.of hn, at1, Hb, p, h, b, z, rfl, AB, kA⟩⟩⟩⟩⟩⟩⟩⟩
    | pass d => exact ⟨_, rfl, rfl, _, rfl, if_skip (by decide) ⟨_, rfl, rfl, _, rfl, if_skip (by decide) ⟨_, rfl, rfl, _, rfl, if_skip (by decide) ⟨_, rfl, rfl, _, rfl, if_skip (by decide) ⟨_, rfl, rfl, _, rfl, if_skip (by decide) ⟨_, rfl, rfl, _, rfl, if_skip (by decide) ⟨_, rfl, rfl, _, rfl, if_skip (by decide) ⟨_, rfl, rfl, _, rfl, if_take ⟨_, rfl, _, rfl, qn, _, _, _, rfl, rfl, SqL.of hn, at0, Hb, p, h, d, rfl, AB, kA⟩⟩⟩⟩⟩⟩⟩⟩⟩
    | list b => exact ⟨_, rfl, rfl, _, rfl, if_skip (by decide) ⟨_, rfl, rfl, _, rfl, if_skip (by decide) ⟨_, rfl, rfl, _, rfl, if_skip (by decide) ⟨_, rfl, rfl, _, rfl, if_skip (by decide) ⟨_, rfl, rfl, _, rfl, if_skip (by decide) ⟨_, rfl, rfl, _, rfl, if_skip (by decide) ⟨_, rfl, rfl, _, rfl, if_skip (by decide) ⟨_, rfl, rfl, _, rfl, if_skip (by decide) ⟨_, rfl, rfl, _, rfl, if_take ⟨_, rfl, _, rfl, qn, _, _, _, rfl, rfl, SqL.of hn, at0, Hb, p, h, b, rfl, AB, kA⟩⟩⟩⟩⟩⟩⟩⟩⟩⟩
    | state => exact ⟨_, rfl, rfl, _, rfl, if_skip (by decide) ⟨_, rfl, rfl, _, rfl, if_skip (by decide) ⟨_, rfl, rfl, _, rfl, if_skip (by decide) ⟨_, rfl, rfl, _, rfl, if_skip (by decide) ⟨_, rfl, rfl, _, rfl, if_skip (by decide) ⟨_, rfl, rfl, _, rfl, if_skip (by decide) ⟨_, rfl, rfl, _, rfl, if_skip (by decide) ⟨_, rfl, rfl, _, rfl, if_skip (by decide) ⟨_, rfl, rfl, _, rfl, if_skip (by decide) ⟨_, rfl, Hb, p, h, rfl, AB, kA⟩⟩⟩⟩⟩⟩⟩⟩⟩⟩
end
end Bp

set_option Elab.async false
set_option linter.all false
set_option maxRecDepth 100000
set_option maxHeartbeats 4000000
namespace Bp
open PySem PySem.Spec PyProof.Rows L2 LamX
/-! ### the whole -/
theorem rows_few {k : Int} {xs : List Int} {rows : List (List Int)} (h : Rp03Neutral.asked1 ((k :: xs) :: rows) = true) : rows.length ≤ 100 := by
  unfold Rp03Neutral.asked1 at h
  split at h
  case h_6 heq =>
    obtain ⟨_, rfl⟩ := List.cons.inj heq
    rw [Bool.and_eq_true, Bool.and_eq_true, Bool.and_eq_true] at h
    have := of_decide_eq_true h.2.2.1
    rw [List.length_cons]
    omega
  case h_5 heq =>
    obtain ⟨_, rfl⟩ := List.cons.inj heq
    show 1 ≤ 100
    decide
  case h_11 => cases h
  all_goals
    rename_i heq
    obtain ⟨_, rfl⟩ := List.cons.inj heq
    exact Nat.zero_le _
def told (h : Ho) (cs : List NCall) : List Int := PyFlat.told (PyFlat.played Rp03Neutral.step h cs)
theorem told_cons (h : Ho) (cl : NCall) (cs : List NCall) : told h (cl :: cs) = (((Rp03Neutral.step h cl).2.length : Int) :: (Rp03Neutral.step h cl).2) ++ told (Rp03Neutral.step h cl).1 cs := by
  show PyFlat.told ((Rp03Neutral.step h cl).2 :: PyFlat.played Rp03Neutral.step (Rp03Neutral.step h cl).1 cs) = _
  show List.flatMap _ (_ :: _) = _
  rw [List.flatMap_cons]
  rfl
def noT (H : Hp) : Hp := fun b => match H b with
  | some (.tbl _) => none
  | o => o
theorem noT_same (H : Hp) : Same (noT H) H := fun b o e => by
  unfold noT at e
  split at e
  · cases e
  · exact e
theorem noT_nt (H : Hp) : ∀ b ps, noT H b ≠ some (.tbl ps) := fun b ps e => by
  unfold noT at e
  split at e
  · cases e
  · rename_i hh
    exact hh ps e
theorem noT_seq {K : PySem.W.Frag} {H : Hp} {a : Addr} {xs : List V} (q : SqL K H a xs) : SqL K (noT H) a xs := by
  rcases q with (h | ⟨o, h⟩) | h
  · refine .inl (.inl ?_)
    unfold noT
    rw [h]
  · refine .inl (.inr ⟨o, ?_⟩)
    unfold noT
    rw [h]
  · exact .inr h
def plc (H : Hp) (y : Addr) : Nat := match H y with
  | some (.ins _ _ [_, (_, .int i)]) => i.toNat
  | _ => 0
theorem plc_is {c : Cl} {H : Hp} {y dy a : Addr} {n : Nat} (h : H y = some (.ins c.R dy (rdF a n))) : plc H y = n := by
  unfold plc
  rw [h]
  show ((n : Int)).toNat = n
  exact Int.toNat_natCast n
def spAnswers (K : PySem.W.Frag) (T : Tb) : Sp := fun vs H Q _ => ∃ (a : Addr) (ns : List Int), vs = [.ref a] ∧ SqL K H a (ns.map V.int) ∧ Tabs T H ∧ PyRp03.answers_asked ns = true ∧ ∀ H1 q, H1 q = some (.lst ((PyRp03.answers ns).map V.int)) → Q (.ref q) H1
theorem asked_of {ns : List Int} (h : PyRp03.answers_asked ns = true) : ∃ cs : List NCall, ns = PyWide.put cs ∧ PyRp03.answers ns = told Rp03.init cs ∧ (∀ cl ∈ cs, ∃ k xs rows, cl = (k :: xs) :: rows ∧ Rp03Neutral.asked1 cl = true) ∧ cs.length ≤ 60 ∧ Rp03Neutral.many Rp03.init cs ≤ 1000000 := by
  unfold PyRp03.answers_asked at h
  unfold PyRp03.answers
  cases e : PyRp03.calls ns with
  | none => rw [e] at h; cases h
  | some cs =>
    rw [e] at h
    have h' : (!cs.isEmpty && cs.all PyRp03.fits && PyFlat.atMost 60 cs && Rp03Neutral.asked cs && PyFlat.short 10000000 (PyRp03.answers ns)) = true := h
    rw [Bool.and_eq_true, Bool.and_eq_true, Bool.and_eq_true, Bool.and_eq_true] at h'
    have ha := h'.1.2
    unfold Rp03Neutral.asked at ha
    rw [Bool.and_eq_true, Bool.and_eq_true, Bool.and_eq_true] at ha
    obtain ⟨h1, h2, h3, h4⟩ := ha
    obtain ⟨p1, p2⟩ := PyWide.put_calls _ _ _ e
    refine ⟨cs, p1, rfl, fun cl hcl => ?_, of_decide_eq_true h3, of_decide_eq_true h4⟩
    obtain ⟨k, xs, rows, rfl⟩ := p2 cl hcl
    exact ⟨k, xs, rows, rfl, List.all_eq_true.mp h1 _ hcl⟩
section
variable {P : Program} {w : World} {K : PySem.W.Frag} {mg : Str → Option Value} {base : Heap} {c : Cl} {Ts : Tb}
theorem scAnswers : FnScope ["calls", "house", "reader", "answered", "answer"] ["calls"] (defScope sAnswers) := ⟨rfl, rfl, rfl, by decide +kernel, rfl, by decide +kernel, by decide +kernel⟩
theorem HouseAt.other {H0 H : Hp} {p q : Addr} {h : Ho} {o o' : HO} (A : HouseAt c Ts H0 H p h) (hq : H0 q = some o) (n1 : ∀ ps, o ≠ .tbl ps) (n2 : ∀ f, o ≠ .ext f) (n3 : ∀ ps, o' ≠ .tbl ps) : HouseAt c Ts (upd H0 q o') (upd H q o') p h := let ⟨dh, d, l, bp, ep, a⟩ := A; ⟨dh, d, l, bp, ep, a.other hq n1 n2 n3⟩
theorem ok_answers {f : Addr} {fd : FuncData} (F : Fun K "answers" "answers" sAnswers f fd) (T : Txt K mg c) (GH : Ms P w K mg base "House" c.H 4 ["self"] (spHoInit c)) (GR : Ms P w K mg base "Reader" c.R 1 ["self", "calls"] (spRdInit c)) (GD : Mt P w K mg base c.R "is_done" 1 ["self"] (spDone c K))
    (GF : Fn P w K mg base "answer_from" 7 ["house", "reader"] (spFrom c Ts K)) : FnOk P w K mg base L2.CX0 8 f fd ["calls"] (spAnswers K Ts) := by
  refine F.ok scAnswers (fun vs H Q E h => ?_) (fun cdv A outer s H vs Q E hr h => ?_)
  · obtain ⟨a, ns, rfl, _⟩ := h
    rfl
  · obtain ⟨a, ns, rfl, hs, hT, hask, k⟩ := h
    obtain ⟨cs0, ens, eans, hcs, hl60, hmany⟩ := asked_of hask
    refine ⟨_, pss_cons (ps_set (i := 1) scAnswers.nd rfl (Or.inl rfl) (pe_ms0 GH hr)) (pss_cons (ps_set (i := 2) scAnswers.nd rfl (Or.inl rfl) (pe_ms GR hr (pa_cons (pv 0) pa_nil))) (pss_cons (ps_set (i := 3) scAnswers.nd rfl (Or.inl rfl) (pe_lst pa_nil))
      (pss_cons (ps_while PassesOwn.never (pt_not (pt_val (pe_mt0 GD T.cR hr (pv 2))))
        (pss_cons (ps_set (i := 4) scAnswers.nd rfl (Or.inl rfl) (pe_fn GF hr (pa_cons (pv 1) (pa_cons (pv 2) pa_nil))))
        (pss_cons (ps_expr (pe_bm PySem.F.plainAttrs_list PySem.F.slot_list_append PySem.F.type_list_append mt_append (pv 3) (pa_cons (pe_callB call_len_seq (by rfl) T.len PySem.boot_len (pa_cons (pv 4) pa_nil)) pa_nil)))
        (pss_one (ps_expr (pe_bm PySem.F.plainAttrs_list PySem.F.slot_list_extend PySem.F.type_list_extend mt_extend (pv 3) (pa_cons (pv 4) pa_nil)))))))
      (pss_one (ps_ret (pv 3)))))), ?_⟩
    intro x dx nx ndx nex
    have s0 : Same H (upd (upd H dx (.own x)) x (.ins c.H dx [])) := fun b o e => by
      rw [upd_ne (ne_of_none e nx), upd_ne (ne_of_none e ndx)]
      exact e
    refine ⟨x, dx, rfl, upd_same, fun H1 d l b N => ⟨rfl, ?_⟩⟩
    have fr0 : ∀ {b : Addr}, upd (upd H dx (.own x)) x (.ins c.H dx []) b = none → H b = none := fun {b} e => s0.free e
    have keep1 : ∀ b o, H b = some o → H1 b = some o := fun b o e => N.keep b o (s0 b o e) (ne_of_none e nx)
    have AA1 : HouseAt c Ts (noT H) H1 x Rp03.init := ⟨dx, d, l, [(b, ⟨0, 0, 0⟩)], [], fun y o e => keep1 y o (noT_same H y o e), noT_nt H, tabs_but (tabs_up s0 hT) upd_same N.keep, Bc.good_init, (noT_same H).free nx, (noT_same H).free (fr0 N.fd), (noT_same H).free (fr0 N.fl), rfl, rfl, N.at_, N.dict, by simp,
      fun q hq => (by rw [List.mem_singleton.mp hq]; exact ⟨(noT_same H).free (fr0 N.fb), N.br⟩), N.lst, fun q hq => (by cases hq)⟩
    refine ⟨_, rfl, fun y dy ny ndy ney => ?_⟩
    refine ⟨y, dy, a, rfl, upd_same, fun H2 h2 k2 => ⟨rfl, ?_⟩⟩
    have s2 : Same H1 H2 := fun b o e => by
      have w := ne_of_none e ny
      rw [k2 b w, upd_ne w, upd_ne (ne_of_none e ndy)]
      exact e
    have AA2 := AA1.have ny s2 h2 (fun _ w => by cases w)
    refine ⟨Nat.zero_le _, fun q hq => ?_⟩
    have nyq : y ≠ q := ne_of_none h2 hq
    have AA3 := AA2.have hq (same_upd hq) upd_same (o := .lst []) (fun _ w => by cases w)
    have n0y : noT H y = none := (noT_same H).free (by
      cases e : H y with
      | none => rfl
      | some o => rw [keep1 y o e] at ny; cases ny)
    have n0q : upd (noT H) y (.ins c.R dy (rdF a 0)) q = none := AA2.same.free hq
    have n0q' : noT H q = none := by rw [upd_ne nyq.symm] at n0q; exact n0q
    have hsN : SqL K (noT H) a (ns.map V.int) := noT_seq hs
    refine while_by (fun σ H4 => ∃ (Hf : Hp) (h : Ho) (n : Nat) (cs : List NCall) (acc : List Int) (v4 : Option V), σ = [some (.ref a), some (.ref x), some (.ref y), some (.ref q), v4] ∧ HouseAt c Ts Hf H4 x h ∧ Hf y = some (.ins c.R dy (rdF a n)) ∧ Hf q = some (.lst (acc.map V.int)) ∧ Same (noT H) Hf ∧
        ns.drop n = PyWide.put cs ∧ (∀ cl ∈ cs, ∃ k xs rows, cl = (k :: xs) :: rows ∧ Rp03Neutral.asked1 cl = true) ∧ PyRp03.answers ns = acc ++ told h cs ∧ acc.length + Rp03Neutral.many h cs + cs.length ≤ 1000060)
      (fun _ H4 => ns.length - plc H4 y) ⟨_, Rp03.init, 0, cs0, [], none, rfl, AA3, by rw [upd_ne nyq, upd_same], upd_same, (same_upd n0y).trans (same_upd n0q), by rw [List.drop_zero]; exact ens, hcs, by rw [eans]; rfl, by simp; omega⟩ ?_ ?_
    · rintro σ H4 ⟨Hf, h, n, cs, acc, v4, rfl, AA, hy, hq4, sN, hd, hcl, ea, hn⟩
      have y4 := AA.same _ _ hy
      have hs4 : SqL K Hf a (ns.map V.int) := sN.seq hsN
      refine ⟨_, rfl, y, dy, _, rfl, y4, rd_no (by decide +kernel), y, dy, a, n, ns, rfl, y4, AA.same.seq hs4, _, rfl, ?_⟩
      by_cases lt : ns.length ≤ n
      · rw [decide_eq_true lt]
        refine iteF ?_
        rw [List.drop_of_length_le lt] at hd
        have ec : cs = [] := by
          cases cs with
          | nil => rfl
          | cons cl r =>
            obtain ⟨k0, xs, rows, rfl, _⟩ := hcl cl (List.mem_cons_self ..)
            cases hd
        rw [ec] at ea
        have ea' : PyRp03.answers ns = acc := by rw [ea]; show acc ++ [] = acc; rw [List.append_nil]
        refine ⟨_, rfl, k H4 q ?_⟩
        rw [ea']
        exact AA.same _ _ hq4
      · rw [decide_eq_false lt]
        refine iteT ?_
        obtain ⟨cl, cs', rfl⟩ : ∃ cl cs', cs = cl :: cs' := by
          cases cs with
          | cons cl r => exact ⟨cl, r, rfl⟩
          | nil =>
            have e1 := congrArg List.length hd
            rw [List.length_drop] at e1
            have e2 : (PyWide.put []).length = 0 := rfl
            omega
        obtain ⟨k0, xs, rows, rfl, hask1⟩ := hcl _ (List.mem_cons_self ..)
        have hd' : ns.drop n = PyWide.put1 ((k0 :: xs) :: rows) ++ PyWide.put cs' := hd
        refine ⟨_, rfl, _, rfl, Hf, x, y, dy, a, h, n, ns, xs, PyWide.put cs', k0, rows, rfl, AA, hy, hs4, rows_few hask1, hd', hask1, fun H5 q5 AA5 hq5 hr5 => ?_⟩
        have nq5 : q5 ≠ q := fun w => by rw [w, hq4] at hq5; cases hq5
        have f5q : upd Hf y (.ins c.R dy (rdF a (n + (PyWide.put1 ((k0 :: xs) :: rows)).length))) q = some (.lst (acc.map V.int)) := by rw [upd_ne nyq.symm]; exact hq4
        have q5' := AA5.same _ _ f5q
        have stepn : Rp03Neutral.many h (((k0 :: xs) :: rows) :: cs') = (Rp03Neutral.step h ((k0 :: xs) :: rows)).2.length + Rp03Neutral.many (Rp03Neutral.step h ((k0 :: xs) :: rows)).1 cs' := rfl
        rw [stepn, List.length_cons] at hn
        have AA6 := AA5.other (o' := .lst (acc.map V.int ++ [V.int (((Rp03Neutral.step h ((k0 :: xs) :: rows)).2.map V.int).length : Nat)])) f5q (fun _ w => by cases w) (fun _ w => by cases w) (fun _ w => by cases w)
        refine ⟨_, rfl, .inl ⟨rfl, _, SqL.of q5'⟩, _, rfl, q5, _, rfl, .inl (SqL.of hr5), q, _, _, rfl, rfl, q5', (by rw [List.length_map]; exact Nat.lt_of_le_of_lt (by omega : acc.length ≤ 1000060) (by decide)), ?_⟩
        refine ⟨_, rfl, .inl ⟨rfl, _, SqL.of upd_same⟩, _, rfl, q, q5, _, _, rfl, rfl, upd_same, (by rw [upd_ne nq5]; exact hr5), ?_, ?_⟩
        · refine Nat.le_trans (?_ : _ ≤ 1000060) (by decide)
          simp only [List.length_append, List.length_map, List.length_cons, List.length_nil]
          omega
        have AA7 := AA6.other (q := q) (o' := .lst ((acc.map V.int ++ [V.int (((Rp03Neutral.step h ((k0 :: xs) :: rows)).2.map V.int).length : Nat)]) ++ (Rp03Neutral.step h ((k0 :: xs) :: rows)).2.map V.int)) upd_same (fun _ w => by cases w) (fun _ w => by cases w) (fun _ w => by cases w)
        have eacc : (acc.map V.int ++ [V.int (((Rp03Neutral.step h ((k0 :: xs) :: rows)).2.map V.int).length : Nat)]) ++ (Rp03Neutral.step h ((k0 :: xs) :: rows)).2.map V.int = (acc ++ (((Rp03Neutral.step h ((k0 :: xs) :: rows)).2.length : Int) :: (Rp03Neutral.step h ((k0 :: xs) :: rows)).2)).map V.int := by
          rw [List.map_append, List.map_cons, List.length_map, List.append_assoc]
          rfl
        rw [eacc] at AA7 ⊢
        have yq6 : upd (upd (upd Hf y (.ins c.R dy (rdF a (n + (PyWide.put1 ((k0 :: xs) :: rows)).length)))) q (.lst (acc.map V.int ++ [V.int (((Rp03Neutral.step h ((k0 :: xs) :: rows)).2.map V.int).length : Nat)]))) q (.lst ((acc ++ (((Rp03Neutral.step h ((k0 :: xs) :: rows)).2.length : Int) :: (Rp03Neutral.step h ((k0 :: xs) :: rows)).2)).map V.int)) y = some (.ins c.R dy (rdF a (n + (PyWide.put1 ((k0 :: xs) :: rows)).length))) := by rw [upd_ne nyq, upd_ne nyq, upd_same]
        refine ⟨⟨_, _, n + (PyWide.put1 ((k0 :: xs) :: rows)).length, cs', acc ++ (((Rp03Neutral.step h ((k0 :: xs) :: rows)).2.length : Int) :: (Rp03Neutral.step h ((k0 :: xs) :: rows)).2), _, rfl, AA7, yq6, upd_same, fun b o e => ?_, ?_, fun cl hc => hcl cl (List.mem_cons_of_mem _ hc), ?_, ?_⟩, ?_⟩
        · have b1 := ne_of_none e n0q'
          have b2 := ne_of_none e n0y
          rw [upd_ne b1, upd_ne b1, upd_ne b2]
          exact sN b o e
        · rw [← List.drop_drop, hd', List.drop_left' rfl]
        · rw [ea, told_cons, List.append_assoc]
        · rw [List.length_append, List.length_cons]
          omega
        · have p4 : plc H4 y = n := plc_is y4
          have p7 := plc_is (AA7.same _ _ yq6)
          show ns.length - plc _ y < ns.length - plc H4 y
          rw [p4, p7]
          have : 0 < (PyWide.put1 ((k0 :: xs) :: rows)).length := Nat.zero_lt_succ _
          omega
    · rintro σ H4 Q1 Q2 mo ⟨v2, e2, a4, dx4, fs4, w1, w2, w3, r4, dx5, a5, n5, ns5, w4, w5, w6, kb, w7, hq⟩
      exact ⟨v2, e2, a4, dx4, fs4, w1, w2, w3, r4, dx5, a5, n5, ns5, w4, w5, w6, kb, w7, mo _ _ hq⟩
end
end Bp

set_option Elab.async false
set_option linter.all false
set_option maxRecDepth 100000
set_option maxHeartbeats 4000000
namespace Bp
open PySem PySem.Spec PyProof.Rows L2 LamX
/-! ### what the top leaves -/
section
variable {K : PySem.W.Frag} {h : Heap} {mg : Str → Option Value}
/-- a def of the text -/
def DefAt (K : PySem.W.Frag) (x : Str) (st : Stmt) : Prop := ∃ (f : Addr) (fd : FuncData), PySem.W.nsIn K mainGlobals x = some (some (.ref f)) ∧ Fun K x x st f fd
theorem def_at {x : Str} {st : Stmt} {f : Addr} {oc : Value} {od an : Option Addr} {osl : Array (Option Value)} {kV doc pm cdv ct : Value} (a : PySem.W.nsIn K mainGlobals x = some (some (.ref f)))
    (l : K.lookup f = some ⟨oc, od, .func (PySem.W.fnOf x x (defArgs st) (defBody st) (defScope st) .none kV doc pm an cdv ct), osl⟩) (cd : PySem.W.codeIn K cdv x = true) (kp : PySem.W.keepIn K (.ref f) = true) : DefAt K x st := ⟨f, _, a, fun_mk l cd kp⟩
/-- a method -/
def MethAt (K : PySem.W.Frag) (C : Addr) (m qual : Str) (st : Stmt) : Prop := ∃ (f : Addr) (fd : FuncData), Meth K C m f ∧ Fun K m qual st f fd
theorem meth_at {C : Addr} {m qual : Str} {st : Stmt} {f : Addr} {oc : Value} {od an : Option Addr} {osl : Array (Option Value)} {kV doc pm cdv ct : Value} (a : PySem.W.findIn K (.ref C) m = some (some (.ref f))) (i : PySem.W.isFn K (.ref f) = true)
    (l : K.lookup f = some ⟨oc, od, .func (PySem.W.fnOf m qual (defArgs st) (defBody st) (defScope st) .none kV doc pm an cdv ct), osl⟩) (cd : PySem.W.codeIn K cdv qual = true) (kp : PySem.W.keepIn K (.ref f) = true) : MethAt K C m qual st := ⟨f, _, ⟨a, i, kp⟩, fun_mk l cd kp⟩
/-- a class -/
structure ClsAt (K : PySem.W.Frag) (C : Addr) (x : Str) : Prop where
  at_ : PySem.W.nsIn K mainGlobals x = some (some (.ref C))
  pg : PySem.W.plainGet K C Str.empty = true
  hd : PySem.W.hasDictIn K C = true
  po : PySem.W.plainOver K C = true
  sa : PySem.W.findIn K (.ref C) "__setattr__" = some (some (.builtin "object.__setattr__"))
  mks : PySem.W.makesIn K C = true
  kc : PySem.W.keepIn K (.ref C) = true
theorem ClsAt.cls {C : Addr} {x : Str} (h : ClsAt K C x) : Cls K C := ⟨h.pg, h.hd, h.po, h.sa⟩
def CstAt (K : PySem.W.Frag) (x : Str) (n : Int) : Prop := ∃ t, PySem.W.nsIn K mainGlobals x = some (some (.int n t))
theorem cst_at {x : Str} {n : Int} {t : Tok} (a : PySem.W.nsIn K mainGlobals x = some (some (.int n t))) : CstAt K x n := ⟨t, a⟩
theorem CstAt.get {x : Str} {n : Int} (X : K.In h) (G : h.Ns mainGlobals mg) (a : CstAt K x n) : ∃ t, mg x = some (.int n t) := let ⟨t, a⟩ := a; ⟨t, PySem.W.mg_of X G a⟩
variable {P : Program} {w : World} {base : Heap}
theorem DefAt.fn {x : Str} {st : Stmt} {k : Nat} {ps : List Str} {sp : Sp} (X : K.In h) (G : h.Ns mainGlobals mg) (D : DefAt K x st) (hb : ∀ (kV doc pm : Value) (an : Option Addr) (cdv ct : Value) (us : List Value), us.length = ps.length → bindArgs (PySem.W.fnOf x x (defArgs st) (defBody st) (defScope st) .none kV doc pm an cdv ct) ⟨us, []⟩ = pure (ps.zip us))
    (ok : ∀ f fd, Fun K x x st f fd → FnOk P w K mg base L2.CX0 k f fd ps sp) : Fn P w K mg base x k ps sp := by
  obtain ⟨f, fd, a, F⟩ := D
  exact ⟨f, fd, PySem.W.mg_of X G a, F.kp, F.binds hb, ok f fd F⟩
theorem MethAt.mt {C : Addr} {m qual : Str} {st : Stmt} {k : Nat} {ps : List Str} {sp : Sp} (D : MethAt K C m qual st) (hb : ∀ (kV doc pm : Value) (an : Option Addr) (cdv ct : Value) (us : List Value), us.length = ps.length → bindArgs (PySem.W.fnOf m qual (defArgs st) (defBody st) (defScope st) .none kV doc pm an cdv ct) ⟨us, []⟩ = pure (ps.zip us))
    (ok : ∀ f fd, Fun K m qual st f fd → FnOk P w K mg base L2.CX0 k f fd ps sp) : Mt P w K mg base C m k ps sp := by
  obtain ⟨f, fd, a, F⟩ := D
  exact ⟨f, fd, a, F.binds hb, ok f fd F⟩
theorem MethAt.ms {C : Addr} {x qual : Str} {st : Stmt} {k : Nat} {ps : List Str} {sp : Sp} (X : K.In h) (G : h.Ns mainGlobals mg) (c : ClsAt K C x) (D : MethAt K C "__init__" qual st) (hb : ∀ (kV doc pm : Value) (an : Option Addr) (cdv ct : Value) (us : List Value), us.length = ps.length → bindArgs (PySem.W.fnOf "__init__" qual (defArgs st) (defBody st) (defScope st) .none kV doc pm an cdv ct) ⟨us, []⟩ = pure (ps.zip us))
    (ok : ∀ f fd, Fun K "__init__" qual st f fd → FnOk P w K mg base L2.CX0 k f fd ps sp) : Ms P w K mg base x C k ps sp := by
  obtain ⟨f, fd, a, F⟩ := D
  exact ⟨f, fd, PySem.W.mg_of X G c.at_, ⟨c.mks, a.at_, a.fn, c.kc⟩, F.binds hb, ok f fd F⟩
end
/-- all that is read off the top -/
structure TopAt (K : PySem.W.Frag) (cB cE cH cR cF : Addr) : Prop where
  kB : ClsAt K cB "Branch"
  kE : ClsAt K cE "Entry"
  kH : ClsAt K cH "House"
  kR : ClsAt K cR "Reader"
  kF : ClsAt K cF "Found"
  aB_parent : PySem.W.findIn K (.ref cB) "parent" = some none
  aB_share : PySem.W.findIn K (.ref cB) "share" = some none
  aE_branch : PySem.W.findIn K (.ref cE) "branch" = some none
  aE_size : PySem.W.findIn K (.ref cE) "size" = some none
  aE_content : PySem.W.findIn K (.ref cE) "content" = some none
  aE_key : PySem.W.findIn K (.ref cE) "key" = some none
  aE_last_use : PySem.W.findIn K (.ref cE) "last_use" = some none
  aE_last_day : PySem.W.findIn K (.ref cE) "last_day" = some none
  aH_room : PySem.W.findIn K (.ref cH) "room" = some none
  aH_life : PySem.W.findIn K (.ref cH) "life" = some none
  aH_day : PySem.W.findIn K (.ref cH) "day" = some none
  aH_uses : PySem.W.findIn K (.ref cH) "uses" = some none
  aH_branches : PySem.W.findIn K (.ref cH) "branches" = some none
  aH_entries : PySem.W.findIn K (.ref cH) "entries" = some none
  aR_calls : PySem.W.findIn K (.ref cR) "calls" = some none
  aR_place : PySem.W.findIn K (.ref cR) "place" = some none
  aF_way : PySem.W.findIn K (.ref cF) "way" = some none
  aF_entry : PySem.W.findIn K (.ref cF) "entry" = some none
  mB_init : MethAt K cB "__init__" "Branch.__init__" sBrInit
  mE_init : MethAt K cE "__init__" "Entry.__init__" sEnInit
  mH_init : MethAt K cH "__init__" "House.__init__" sHoInit
  mH_start_anew : MethAt K cH "start_anew" "House.start_anew" sAnew
  mH_has_branch : MethAt K cH "has_branch" "House.has_branch" sHas
  mH_line_of : MethAt K cH "line_of" "House.line_of" sLine
  mH_shares_together : MethAt K cH "shares_together" "House.shares_together" sShares
  mH_mark_used : MethAt K cH "mark_used" "House.mark_used" sMark
  mH_add_entry : MethAt K cH "add_entry" "House.add_entry" sAdd
  mH_drop_entries : MethAt K cH "drop_entries" "House.drop_entries" sDrop
  mR_init : MethAt K cR "__init__" "Reader.__init__" sRdInit
  mR_is_done : MethAt K cR "is_done" "Reader.is_done" sDone
  mR_take_number : MethAt K cR "take_number" "Reader.take_number" sNumber
  mR_take_list : MethAt K cR "take_list" "Reader.take_list" sTakeList
  mR_take_lists : MethAt K cR "take_lists" "Reader.take_lists" sTakeLists
  mF_init : MethAt K cF "__init__" "Found.__init__" sFdInit
  d_entries_of_branch : DefAt K "entries_of_branch" sOfBranch
  d_entries_without : DefAt K "entries_without" sWithout
  d_sizes_together : DefAt K "sizes_together" sSizes
  d_counted_contents : DefAt K "counted_contents" sCounted
  d_answer_begins : DefAt K "answer_begins" sBegins
  d_answer_opens : DefAt K "answer_opens" sOpens
  d_answer_closes : DefAt K "answer_closes" sCloses
  d_answer_share : DefAt K "answer_share" sShare
  d_is_key : DefAt K "is_key" sIsKey
  d_is_beginning : DefAt K "is_beginning" sIsBeg
  d_is_key_byte : DefAt K "is_key_byte" sKeyByte
  d_entries_to_go : DefAt K "entries_to_go" sToGo
  d_giving_branch : DefAt K "giving_branch" sGiving
  d_answer_save : DefAt K "answer_save" sSave
  d_is_key_taken : DefAt K "is_key_taken" sTaken
  d_answer_from : DefAt K "answer_from" sFrom
  d_answer_call : DefAt K "answer_call" sCall
  d_answer_state : DefAt K "answer_state" sState
  d_found_on_line : DefAt K "found_on_line" sOnLine
  d_found_among : DefAt K "found_among" sAmong
  d_is_begun_by : DefAt K "is_begun_by" sBegun
  d_answer_would : DefAt K "answer_would" sWould
  d_answer_find : DefAt K "answer_find" sFind
  d_answer_pass_days : DefAt K "answer_pass_days" sPass
  d_answer_list_of : DefAt K "answer_list_of" sList
  d_is_size : DefAt K "is_size" sIsSize
  d_are_beginnings : DefAt K "are_beginnings" sAreBeg
  b_len : PySem.W.nsIn K mainGlobals "len" = some none
  b_sum : PySem.W.nsIn K mainGlobals "sum" = some none
  b_all : PySem.W.nsIn K mainGlobals "all" = some none
  b_min : PySem.W.nsIn K mainGlobals "min" = some none
  b_ord : PySem.W.nsIn K mainGlobals "ord" = some none
  b_list : PySem.W.nsIn K mainGlobals "list" = some none
  b_range : PySem.W.nsIn K mainGlobals "range" = some none
  b_sorted : PySem.W.nsIn K mainGlobals "sorted" = some none
  b_enumerate : PySem.W.nsIn K mainGlobals "enumerate" = some none
  k_FIRST_ROOM : CstAt K "FIRST_ROOM" (100)
  k_FIRST_LIFE : CstAt K "FIRST_LIFE" (7)
  k_FIRST_SHARE : CstAt K "FIRST_SHARE" (0)
  k_OUT_OF_BOUNDS : CstAt K "OUT_OF_BOUNDS" (-1)
  k_NO_BRANCH : CstAt K "NO_BRANCH" (-2)
  k_IS_BRANCH_ZERO : CstAt K "IS_BRANCH_ZERO" (-3)
  k_IS_THERE : CstAt K "IS_THERE" (-4)
  k_NO_KEY : CstAt K "NO_KEY" (-5)
  k_NO_ROOM : CstAt K "NO_ROOM" (-6)
  k_TOO_MANY : CstAt K "TOO_MANY" (-7)
  k_HIGHEST_ROOM : CstAt K "HIGHEST_ROOM" (1000000)
  k_HIGHEST_LIFE : CstAt K "HIGHEST_LIFE" (1000000)
  k_MOST_BRANCHES : CstAt K "MOST_BRANCHES" (8)
  k_MOST_ENTRIES : CstAt K "MOST_ENTRIES" (40)
  k_LONGEST_KEY : CstAt K "LONGEST_KEY" (24)
  k_NOTHING_FOUND : CstAt K "NOTHING_FOUND" (-8)
  k_HIGHEST_DAY : CstAt K "HIGHEST_DAY" (1000000)
  k_MOST_BEGINNINGS : CstAt K "MOST_BEGINNINGS" (4)
  k_BY_KEY : CstAt K "BY_KEY" (0)
  k_BEGINS : CstAt K "BEGINS" (0)
  k_OPENS : CstAt K "OPENS" (1)
  k_CLOSES : CstAt K "CLOSES" (2)
  k_SHARE : CstAt K "SHARE" (3)
  k_SAVE : CstAt K "SAVE" (4)
  k_FIND : CstAt K "FIND" (5)
  k_WOULD : CstAt K "WOULD" (6)
  k_PASS_DAYS : CstAt K "PASS_DAYS" (7)
  k_LIST_OF : CstAt K "LIST_OF" (8)
theorem TopAt.txt {K : PySem.W.Frag} {h : Heap} {mg : Str → Option Value} {cB cE cH cR cF : Addr} (X : K.In h) (G : h.Ns mainGlobals mg) (A : TopAt K cB cE cH cR cF) : Txt K mg ⟨cB, cE, cH, cR, cF⟩ where
  cB := A.kB.cls
  cE := A.kE.cls
  cH := A.kH.cls
  cR := A.kR.cls
  cF := A.kF.cls
  nB := fun f hf => by
    rcases List.mem_cons.mp hf with rfl | hf
    · exact A.aB_parent
    rw [List.mem_singleton.mp hf]
    exact A.aB_share
  nE := fun f hf => by
    rcases List.mem_cons.mp hf with rfl | hf
    · exact A.aE_branch
    rcases List.mem_cons.mp hf with rfl | hf
    · exact A.aE_size
    rcases List.mem_cons.mp hf with rfl | hf
    · exact A.aE_content
    rcases List.mem_cons.mp hf with rfl | hf
    · exact A.aE_key
    rcases List.mem_cons.mp hf with rfl | hf
    · exact A.aE_last_use
    rw [List.mem_singleton.mp hf]
    exact A.aE_last_day
  nH := fun f hf => by
    rcases List.mem_cons.mp hf with rfl | hf
    · exact A.aH_room
    rcases List.mem_cons.mp hf with rfl | hf
    · exact A.aH_life
    rcases List.mem_cons.mp hf with rfl | hf
    · exact A.aH_day
    rcases List.mem_cons.mp hf with rfl | hf
    · exact A.aH_uses
    rcases List.mem_cons.mp hf with rfl | hf
    · exact A.aH_branches
    rw [List.mem_singleton.mp hf]
    exact A.aH_entries
  nR := fun f hf => by
    rcases List.mem_cons.mp hf with rfl | hf
    · exact A.aR_calls
    rw [List.mem_singleton.mp hf]
    exact A.aR_place
  nF := fun f hf => by
    rcases List.mem_cons.mp hf with rfl | hf
    · exact A.aF_way
    rw [List.mem_singleton.mp hf]
    exact A.aF_entry
  len := PySem.W.mg_none_of X G A.b_len
  sum := PySem.W.mg_none_of X G A.b_sum
  all := PySem.W.mg_none_of X G A.b_all
  min := PySem.W.mg_none_of X G A.b_min
  ord := PySem.W.mg_none_of X G A.b_ord
  list := PySem.W.mg_none_of X G A.b_list
  range := PySem.W.mg_none_of X G A.b_range
  sorted := PySem.W.mg_none_of X G A.b_sorted
  enumerate := PySem.W.mg_none_of X G A.b_enumerate
theorem TopAt.cst {K : PySem.W.Frag} {h : Heap} {mg : Str → Option Value} {cB cE cH cR cF : Addr} (X : K.In h) (G : h.Ns mainGlobals mg) (A : TopAt K cB cE cH cR cF) : Cst mg :=
  ⟨A.k_OUT_OF_BOUNDS.get X G, A.k_NO_BRANCH.get X G, A.k_IS_BRANCH_ZERO.get X G, A.k_IS_THERE.get X G, A.k_NO_KEY.get X G, A.k_NO_ROOM.get X G, A.k_TOO_MANY.get X G, A.k_HIGHEST_ROOM.get X G, A.k_HIGHEST_LIFE.get X G, A.k_MOST_BRANCHES.get X G, A.k_MOST_ENTRIES.get X G, A.k_NOTHING_FOUND.get X G, A.k_HIGHEST_DAY.get X G⟩
theorem TopAt.cstC {K : PySem.W.Frag} {h : Heap} {mg : Str → Option Value} {cB cE cH cR cF : Addr} (X : K.In h) (G : h.Ns mainGlobals mg) (A : TopAt K cB cE cH cR cF) : CstC mg :=
  ⟨A.k_BEGINS.get X G, A.k_OPENS.get X G, A.k_CLOSES.get X G, A.k_SHARE.get X G, A.k_SAVE.get X G, A.k_FIND.get X G, A.k_WOULD.get X G, A.k_PASS_DAYS.get X G, A.k_LIST_OF.get X G⟩
section
variable {P : Program} {w : World} {K : PySem.W.Frag} {h : Heap} {mg : Str → Option Value} {base : Heap} {cB cE cH cR cF : Addr}
theorem all_from {f cA PA : Addr} {fd : FuncData} (X : K.In h) (G : h.Ns mainGlobals mg) (A : TopAt K cB cE cH cR cF) (mgL : mg "least_lately_used" = some (.ref f)) (FL : Fun K "least_lately_used" "least_lately_used" sLeast f fd) (cdL : fd.code = .ref cA) (TB : TabB base mg cA PA)
    {fa : Addr} {fda : FuncData} (FA : Fun K "answers" "answers" sAnswers fa fda) : FnOk P w K mg base L2.CX0 8 fa fda ["calls"] (spAnswers K [(PA, qLam)]) := by
  have T := A.txt X G
  have C := A.cst X G
  have C2 := A.cstC X G
  have gOf := A.d_entries_of_branch.fn (P := P) (w := w) (base := base) (ps := ["entries", "number"]) X G (fun _ _ _ _ _ _ us hl => match us, hl with | [_, _], _ => rfl) fun f fd F => ok_ofBranch F T
  have gWo := A.d_entries_without.fn (P := P) (w := w) (base := base) (ps := ["entries", "gone"]) X G (fun _ _ _ _ _ _ us hl => match us, hl with | [_, _], _ => rfl) fun f fd F => ok_without F T
  have gSz := A.d_sizes_together.fn (P := P) (w := w) (base := base) (ps := ["entries"]) X G (fun _ _ _ _ _ _ us hl => match us, hl with | [_], _ => rfl) fun f fd F => ok_sizes F T
  have gCo := A.d_counted_contents.fn (P := P) (w := w) (base := base) (ps := ["entries"]) X G (fun _ _ _ _ _ _ us hl => match us, hl with | [_], _ => rfl) fun f fd F => ok_counted F T
  have gBr := A.mB_init.ms (P := P) (w := w) (base := base) (ps := ["self", "parent", "share"]) X G A.kB (fun _ _ _ _ _ _ us hl => match us, hl with | [_, _, _], _ => rfl) fun f fd F => ok_brInit F T
  have gEn := A.mE_init.ms (P := P) (w := w) (base := base) (ps := ["self", "branch", "size", "content", "key"]) X G A.kE (fun _ _ _ _ _ _ us hl => match us, hl with | [_, _, _, _, _], _ => rfl) fun f fd F => ok_enInit F T
  have gAn := A.mH_start_anew.mt (P := P) (w := w) (mg := mg) (base := base) (ps := ["self", "room", "life", "share"]) (fun _ _ _ _ _ _ us hl => match us, hl with | [_, _, _, _], _ => rfl) fun f fd F => ok_anew F T gBr
  have gHo := A.mH_init.ms (P := P) (w := w) (base := base) (ps := ["self"]) X G A.kH (fun _ _ _ _ _ _ us hl => match us, hl with | [_], _ => rfl) fun f fd F => ok_hoInit F T gAn (A.k_FIRST_ROOM.get X G) (A.k_FIRST_LIFE.get X G) (A.k_FIRST_SHARE.get X G)
  have gHas := A.mH_has_branch.mt (P := P) (w := w) (mg := mg) (base := base) (ps := ["self", "number"]) (fun _ _ _ _ _ _ us hl => match us, hl with | [_, _], _ => rfl) fun f fd F => ok_has (Ts := [(PA, qLam)]) F T
  have gSh := A.mH_shares_together.mt (P := P) (w := w) (mg := mg) (base := base) (ps := ["self"]) (fun _ _ _ _ _ _ us hl => match us, hl with | [_], _ => rfl) fun f fd F => ok_shares (Ts := [(PA, qLam)]) F T
  have gMk := A.mH_mark_used.mt (P := P) (w := w) (mg := mg) (base := base) (ps := ["self", "entry"]) (fun _ _ _ _ _ _ us hl => match us, hl with | [_, _], _ => rfl) fun f fd F => ok_mark F T
  have gAd := A.mH_add_entry.mt (P := P) (w := w) (mg := mg) (base := base) (ps := ["self", "entry"]) (fun _ _ _ _ _ _ us hl => match us, hl with | [_, _], _ => rfl) fun f fd F => ok_add (Ts := [(PA, qLam)]) F T gMk
  have gDr := A.mH_drop_entries.mt (P := P) (w := w) (mg := mg) (base := base) (ps := ["self", "going"]) (fun _ _ _ _ _ _ us hl => match us, hl with | [_, _], _ => rfl) fun f fd F => ok_drop (Ts := [(PA, qLam)]) F T gWo
  have gRd := A.mR_init.ms (P := P) (w := w) (base := base) (ps := ["self", "calls"]) X G A.kR (fun _ _ _ _ _ _ us hl => match us, hl with | [_, _], _ => rfl) fun f fd F => ok_rdInit F T
  have gDo := A.mR_is_done.mt (P := P) (w := w) (mg := mg) (base := base) (ps := ["self"]) (fun _ _ _ _ _ _ us hl => match us, hl with | [_], _ => rfl) fun f fd F => ok_done F T
  have gNu := A.mR_take_number.mt (P := P) (w := w) (mg := mg) (base := base) (ps := ["self"]) (fun _ _ _ _ _ _ us hl => match us, hl with | [_], _ => rfl) fun f fd F => ok_number F T
  have gTl := A.mR_take_list.mt (P := P) (w := w) (mg := mg) (base := base) (ps := ["self"]) (fun _ _ _ _ _ _ us hl => match us, hl with | [_], _ => rfl) fun f fd F => ok_takeList F T gNu
  have gTs := A.mR_take_lists.mt (P := P) (w := w) (mg := mg) (base := base) (ps := ["self"]) (fun _ _ _ _ _ _ us hl => match us, hl with | [_], _ => rfl) fun f fd F => ok_takeLists F T gNu gTl
  have gKb := A.d_is_key_byte.fn (P := P) (w := w) (base := base) (ps := ["byte"]) X G (fun _ _ _ _ _ _ us hl => match us, hl with | [_], _ => rfl) fun f fd F => ok_keyByte F T
  have gKs := A.d_is_beginning.fn (P := P) (w := w) (base := base) (ps := ["row"]) X G (fun _ _ _ _ _ _ us hl => match us, hl with | [_], _ => rfl) fun f fd F => ok_isBeg F T gKb (A.k_LONGEST_KEY.get X G)
  have gIk := A.d_is_key.fn (P := P) (w := w) (base := base) (ps := ["row"]) X G (fun _ _ _ _ _ _ us hl => match us, hl with | [_], _ => rfl) fun f fd F => ok_isKey F T gKs
  have gAb := A.d_are_beginnings.fn (P := P) (w := w) (base := base) (ps := ["rows"]) X G (fun _ _ _ _ _ _ us hl => match us, hl with | [_], _ => rfl) fun f fd F => ok_areBeg F T gKs (A.k_MOST_BEGINNINGS.get X G)
  have gIz := A.d_is_size.fn (P := P) (w := w) (base := base) (ps := ["house", "size"]) X G (fun _ _ _ _ _ _ us hl => match us, hl with | [_, _], _ => rfl) fun f fd F => ok_isSize (Ts := [(PA, qLam)]) F T
  have gTk := A.d_is_key_taken.fn (P := P) (w := w) (base := base) (ps := ["house", "number", "key"]) X G (fun _ _ _ _ _ _ us hl => match us, hl with | [_, _, _], _ => rfl) fun f fd F => ok_taken (Ts := [(PA, qLam)]) F T gOf
  have gLe : Fn P w K mg base "least_lately_used" 3 ["entries"] (spLeast ⟨cB, cE, cH, cR, cF⟩ [(PA, qLam)]) := ⟨f, fd, mgL, FL.kp, FL.binds (fun _ _ _ _ _ _ us hl => match us, hl with | [_], _ => rfl), ok_least FL cdL T TB (List.mem_singleton.mpr rfl) fun p hp _ => by rw [List.mem_singleton.mp hp]⟩
  have gGi := A.d_giving_branch.fn (P := P) (w := w) (base := base) (ps := ["house", "staying", "saver", "size"]) X G (fun _ _ _ _ _ _ us hl => match us, hl with | [_, _, _, _], _ => rfl) fun f fd F => ok_giving (Ts := [(PA, qLam)]) F T gOf gSz
  have gGo := A.d_entries_to_go.fn (P := P) (w := w) (base := base) (ps := ["house", "saver", "size"]) X G (fun _ _ _ _ _ _ us hl => match us, hl with | [_, _, _], _ => rfl) fun f fd F => ok_toGo (Ts := [(PA, qLam)]) F T gOf gSz gGi gLe gWo
  have gBe := A.d_answer_begins.fn (P := P) (w := w) (base := base) (ps := ["house", "room", "life", "share"]) X G (fun _ _ _ _ _ _ us hl => match us, hl with | [_, _, _, _], _ => rfl) fun f fd F => ok_begins (Ts := [(PA, qLam)]) F T C gAn
  have gOp := A.d_answer_opens.fn (P := P) (w := w) (base := base) (ps := ["house", "number", "parent", "share"]) X G (fun _ _ _ _ _ _ us hl => match us, hl with | [_, _, _, _], _ => rfl) fun f fd F => ok_opens (Ts := [(PA, qLam)]) F T C gHas gSh gBr
  have gCl := A.d_answer_closes.fn (P := P) (w := w) (base := base) (ps := ["house", "number"]) X G (fun _ _ _ _ _ _ us hl => match us, hl with | [_, _], _ => rfl) fun f fd F => ok_closes (Ts := [(PA, qLam)]) F T C gHas gOf gDr gCo
  have gSe := A.d_answer_share.fn (P := P) (w := w) (base := base) (ps := ["house", "number", "part"]) X G (fun _ _ _ _ _ _ us hl => match us, hl with | [_, _, _], _ => rfl) fun f fd F => ok_share (Ts := [(PA, qLam)]) F T C gHas gSh
  have gSv := A.d_answer_save.fn (P := P) (w := w) (base := base) (ps := ["house", "number", "size", "content", "key"]) X G (fun _ _ _ _ _ _ us hl => match us, hl with | [_, _, _, _, _], _ => rfl) fun f fd F => ok_save (Ts := [(PA, qLam)]) F T C gHas gIz gIk gTk gGo gDr gAd gEn gCo
  have gLi := A.mH_line_of.mt (P := P) (w := w) (mg := mg) (base := base) (ps := ["self", "number"]) (fun _ _ _ _ _ _ us hl => match us, hl with | [_, _], _ => rfl) fun f fd F => ok_line (Ts := [(PA, qLam)]) F T
  have gBg := A.d_is_begun_by.fn (P := P) (w := w) (base := base) (ps := ["key", "beginning"]) X G (fun _ _ _ _ _ _ us hl => match us, hl with | [_, _], _ => rfl) fun f fd F => ok_begun F T
  have gFd := A.mF_init.ms (P := P) (w := w) (base := base) (ps := ["self", "way", "entry"]) X G A.kF (fun _ _ _ _ _ _ us hl => match us, hl with | [_, _, _], _ => rfl) fun f fd F => ok_fdInit F T
  have gAm := A.d_found_among.fn (P := P) (w := w) (base := base) (ps := ["entries", "key", "beginnings"]) X G (fun _ _ _ _ _ _ us hl => match us, hl with | [_, _, _], _ => rfl) fun f fd F => ok_among F T gBg gFd (A.k_BY_KEY.get X G)
  have gOl := A.d_found_on_line.fn (P := P) (w := w) (base := base) (ps := ["house", "number", "key", "beginnings"]) X G (fun _ _ _ _ _ _ us hl => match us, hl with | [_, _, _, _], _ => rfl) fun f fd F => ok_onLine (Ts := [(PA, qLam)]) F T gLi gOf gAm
  have gFi := A.d_answer_find.fn (P := P) (w := w) (base := base) (ps := ["house", "number", "key", "beginnings"]) X G (fun _ _ _ _ _ _ us hl => match us, hl with | [_, _, _, _], _ => rfl) fun f fd F => ok_find (Ts := [(PA, qLam)]) F T C gHas gIk gAb gOl gMk
  have gWd := A.d_answer_would.fn (P := P) (w := w) (base := base) (ps := ["house", "number", "size"]) X G (fun _ _ _ _ _ _ us hl => match us, hl with | [_, _, _], _ => rfl) fun f fd F => ok_would (Ts := [(PA, qLam)]) F T C gHas gIz gGo gCo
  have gPs := A.d_answer_pass_days.fn (P := P) (w := w) (base := base) (ps := ["house", "days"]) X G (fun _ _ _ _ _ _ us hl => match us, hl with | [_, _], _ => rfl) fun f fd F => ok_pass (Ts := [(PA, qLam)]) F T C gDr gCo
  have gLs := A.d_answer_list_of.fn (P := P) (w := w) (base := base) (ps := ["house", "number"]) X G (fun _ _ _ _ _ _ us hl => match us, hl with | [_, _], _ => rfl) fun f fd F => ok_list (Ts := [(PA, qLam)]) F T C gHas gOf gSz
  have gSt := A.d_answer_state.fn (P := P) (w := w) (base := base) (ps := ["house"]) X G (fun _ _ _ _ _ _ us hl => match us, hl with | [_], _ => rfl) fun f fd F => ok_state (Ts := [(PA, qLam)]) F T gOf gSz
  have gCa := A.d_answer_call.fn (P := P) (w := w) (base := base) (ps := ["house", "call", "numbers", "lists"]) X G (fun _ _ _ _ _ _ us hl => match us, hl with | [_, _, _, _], _ => rfl) fun f fd F => ok_call (Ts := [(PA, qLam)]) F T C2 gBe gOp gCl gSe gSv gFi gWd gPs gLs gSt
  have gFr := A.d_answer_from.fn (P := P) (w := w) (base := base) (ps := ["house", "reader"]) X G (fun _ _ _ _ _ _ us hl => match us, hl with | [_, _], _ => rfl) fun f fd F => ok_from (Ts := [(PA, qLam)]) F T gNu gTl gTs gCa
  exact ok_answers FA T gHo gRd gDo gFr
end
theorem spec_at {w : World} {K : PySem.W.Frag} {h : Heap} {mg mb : Str → Option Value} {mean : ExcName → Option Value} {q : Program} {loose : List Str} {fa f f2 cA PA cB cE cH cR cF : Addr} {vsC : Array Value} {dL : DefRec} {oc oc2 occ : Value} {odc : Option Addr} {slc : Array (Option Value)} {od an od2 an2 : Option Addr} {osl osl2 : Array (Option Value)} {kV doc pm ct kV2 doc2 pm2 cdv2 ct2 : Value}
    (X : K.In h) (Tp : Top q loose mean mg mb h) (hfa : mg "answers" = some (.ref fa)) (aL : PySem.W.nsIn K mainGlobals "least_lately_used" = some (some (.ref f)))
    (lL : K.lookup f = some ⟨oc, od, .func (PySem.W.fnOf "least_lately_used" "least_lately_used" (defArgs sLeast) (defBody sLeast) (defScope sLeast) .none kV doc pm an (.ref cA) ct), osl⟩) (cL : PySem.W.codeIn K (.ref cA) "least_lately_used" = true) (kL : PySem.W.keepIn K (.ref f) = true)
    (tL : K.lookup cA = some ⟨occ, odc, .fields vsC, slc⟩) (pL : vsC[11]? = some (.ref PA)) (rL : (recsOf q).find? (fun e : DefRec => e.name == ("least_lately_used" : Str)) = some dL) (nL : K.lookup PA = none) (aA : PySem.W.nsIn K mainGlobals "answers" = some (some (.ref f2)))
    (lA : K.lookup f2 = some ⟨oc2, od2, .func (PySem.W.fnOf "answers" "answers" (defArgs sAnswers) (defBody sAnswers) (defScope sAnswers) .none kV2 doc2 pm2 an2 cdv2 ct2), osl2⟩) (cdA : PySem.W.codeIn K cdv2 "answers" = true) (kA : PySem.W.keepIn K (.ref f2) = true) (A : TopAt K cB cE cH cR cF) :
    BcK.SpecAt PySem.Challenge.rw_branchcaches_s01_answers w K L2.CX0 8 ["calls"] mg fa h := by
  have e := hfa.symm.trans (PySem.W.mg_of X Tp.g aA)
  cases e
  have FA := fun_mk (st := sAnswers) lA cdA kA
  have FL := fun_mk (st := sLeast) lL cL kL
  have eT : PySem.W.tabIn K "least_lately_used" = some (cA, PA) := by
    unfold PySem.W.tabIn
    rw [aL]
    dsimp only
    rw [lL]
    dsimp only
    rw [tL]
    dsimp only
    rw [pL]
  have tb := PySem.W.tab_of Tp X rL eT
  refine ⟨PySem.W.fnOf "answers" "answers" (defArgs sAnswers) (defBody sAnswers) (defScope sAnswers) .none kV2 doc2 pm2 an2 cdv2 ct2, [(cA, PA)], spAnswers K [(PA, qLam)], fun p hp => (by rw [List.mem_singleton.mp hp]; exact tb), fun p hp => (by rw [List.mem_singleton.mp hp]; exact nL), fun s us hu => match us, hu with | [_], _ => .of_eq rfl, fun H xs a hT hwi hask hx => ?_, fun base KB NB hTB => ?_⟩
  · cases hx with
    | cons h1 h2 =>
      cases h2
      cases h1 with
      | lst hs ha =>
        have e := L2.ints_dw a.1 _ ha
        subst e
        exact ⟨_, a.1, rfl, hs, fun p hp => (by rw [List.mem_singleton.mp hp]; exact .nil (hT (cA, PA) (List.mem_singleton.mpr rfl))), hask, fun H1 q hq => .lst (L2.SqL.of hq) (L2.dw_ints _)⟩
  · exact all_from (P := PySem.Challenge.rw_branchcaches_s01_answers.prog) X Tp.g A (PySem.W.mg_of X Tp.g aL) FL rfl (hTB (cA, PA) (List.mem_singleton.mpr rfl)) FA
end Bp

set_option Elab.async false
set_option linter.all false
open PySem PySem.W PyProof.Rows
set_option maxRecDepth 100000 in
set_option maxHeartbeats 0 in
theorem PySem.Challenge.cw_branchcaches_s01_answers_holds : PySem.Challenge.rw_branchcaches_s01_answers.Holds := by
  w_on; k_headS; (case hw => exact ⟨[.list [.int 9, .int 0, .int 0]], by decide +kernel, by decide +kernel⟩)
  k_fillS
  refine BcK.walk_specT (r := PySem.Challenge.rw_branchcaches_s01_answers) (k := 8) (CX := L2.CX0) (ps := ["calls"]) (by decide +kernel) rfl rfl ⟨rfl, by decide, by decide⟩ (fun w h Y => PySem.W.kIn_of Y) ?F (fun _ _ _ _ z => z)
  case F =>
    intro w mean mg mb fa h KX Tp hmg
    refine' Bp.spec_at KX Tp hmg ?aL ?lL ?cL ?kL ?tL ?pL ?rL ?nL ?aA ?lA ?cA ?kA ?top
    (case aL => k_is)
    (case lL => k_is)
    (case cL => k_is)
    (case kL => k_is)
    (case tL => k_is)
    (case pL => rfl)
    (case rL => rfl)
    (case nL => kernel_rfl)
    (case aA => k_is)
    (case lA => k_is)
    (case cA => k_is)
    (case kA => k_is)
    case top =>
      refine' ⟨⟨?cBat, ?cBpg, ?cBhd, ?cBpo, ?cBsa, ?cBmk, ?cBkc⟩, ⟨?cEat, ?cEpg, ?cEhd, ?cEpo, ?cEsa, ?cEmk, ?cEkc⟩, ⟨?cHat, ?cHpg, ?cHhd, ?cHpo, ?cHsa, ?cHmk, ?cHkc⟩, ⟨?cRat, ?cRpg, ?cRhd, ?cRpo, ?cRsa, ?cRmk, ?cRkc⟩, ⟨?cFat, ?cFpg, ?cFhd, ?cFpo, ?cFsa, ?cFmk, ?cFkc⟩, ?aBparent, ?aBshare, ?aEbranch, ?aEsize, ?aEcontent, ?aEkey, ?aElast_use, ?aElast_day, ?aHroom, ?aHlife, ?aHday, ?aHuses, ?aHbranches, ?aHentries, ?aRcalls, ?aRplace, ?aFway, ?aFentry, Bp.meth_at ?mBinita ?mBiniti ?mBinitl ?mBinitc ?mBinitk, Bp.meth_at ?mEinita ?mEiniti ?mEinitl ?mEinitc ?mEinitk, Bp.meth_at ?mHinita ?mHiniti ?mHinitl ?mHinitc ?mHinitk, Bp.meth_at ?mHstart_anewa ?mHstart_anewi ?mHstart_anewl ?mHstart_anewc ?mHstart_anewk, Bp.meth_at ?mHhas_brancha ?mHhas_branchi ?mHhas_branchl ?mHhas_branchc ?mHhas_branchk, Bp.meth_at ?mHline_ofa ?mHline_ofi ?mHline_ofl ?mHline_ofc ?mHline_ofk, Bp.meth_at ?mHshares_togethera ?mHshares_togetheri ?mHshares_togetherl ?mHshares_togetherc ?mHshares_togetherk, Bp.meth_at ?mHmark_useda ?mHmark_usedi ?mHmark_usedl ?mHmark_usedc ?mHmark_usedk, Bp.meth_at ?mHadd_entrya ?mHadd_entryi ?mHadd_entryl ?mHadd_entryc ?mHadd_entryk, Bp.meth_at ?mHdrop_entriesa ?mHdrop_entriesi ?mHdrop_entriesl ?mHdrop_entriesc ?mHdrop_entriesk, Bp.meth_at ?mRinita ?mRiniti ?mRinitl ?mRinitc ?mRinitk, Bp.meth_at ?mRis_donea ?mRis_donei ?mRis_donel ?mRis_donec ?mRis_donek, Bp.meth_at ?mRtake_numbera ?mRtake_numberi ?mRtake_numberl ?mRtake_numberc ?mRtake_numberk, Bp.meth_at ?mRtake_lista ?mRtake_listi ?mRtake_listl ?mRtake_listc ?mRtake_listk, Bp.meth_at ?mRtake_listsa ?mRtake_listsi ?mRtake_listsl ?mRtake_listsc ?mRtake_listsk, Bp.meth_at ?mFinita ?mFiniti ?mFinitl ?mFinitc ?mFinitk, Bp.def_at ?dentries_of_brancha ?dentries_of_branchl ?dentries_of_branchc ?dentries_of_branchk, Bp.def_at ?dentries_withouta ?dentries_withoutl ?dentries_withoutc ?dentries_withoutk, Bp.def_at ?dsizes_togethera ?dsizes_togetherl ?dsizes_togetherc ?dsizes_togetherk, Bp.def_at ?dcounted_contentsa ?dcounted_contentsl ?dcounted_contentsc ?dcounted_contentsk, Bp.def_at ?danswer_beginsa ?danswer_beginsl ?danswer_beginsc ?danswer_beginsk, Bp.def_at ?danswer_opensa ?danswer_opensl ?danswer_opensc ?danswer_opensk, Bp.def_at ?danswer_closesa ?danswer_closesl ?danswer_closesc ?danswer_closesk, Bp.def_at ?danswer_sharea ?danswer_sharel ?danswer_sharec ?danswer_sharek, Bp.def_at ?dis_keya ?dis_keyl ?dis_keyc ?dis_keyk, Bp.def_at ?dis_beginninga ?dis_beginningl ?dis_beginningc ?dis_beginningk, Bp.def_at ?dis_key_bytea ?dis_key_bytel ?dis_key_bytec ?dis_key_bytek, Bp.def_at ?dentries_to_goa ?dentries_to_gol ?dentries_to_goc ?dentries_to_gok, Bp.def_at ?dgiving_brancha ?dgiving_branchl ?dgiving_branchc ?dgiving_branchk, Bp.def_at ?danswer_savea ?danswer_savel ?danswer_savec ?danswer_savek, Bp.def_at ?dis_key_takena ?dis_key_takenl ?dis_key_takenc ?dis_key_takenk, Bp.def_at ?danswer_froma ?danswer_froml ?danswer_fromc ?danswer_fromk, Bp.def_at ?danswer_calla ?danswer_calll ?danswer_callc ?danswer_callk, Bp.def_at ?danswer_statea ?danswer_statel ?danswer_statec ?danswer_statek, Bp.def_at ?dfound_on_linea ?dfound_on_linel ?dfound_on_linec ?dfound_on_linek, Bp.def_at ?dfound_amonga ?dfound_amongl ?dfound_amongc ?dfound_amongk, Bp.def_at ?dis_begun_bya ?dis_begun_byl ?dis_begun_byc ?dis_begun_byk, Bp.def_at ?danswer_woulda ?danswer_wouldl ?danswer_wouldc ?danswer_wouldk, Bp.def_at ?danswer_finda ?danswer_findl ?danswer_findc ?danswer_findk, Bp.def_at ?danswer_pass_daysa ?danswer_pass_daysl ?danswer_pass_daysc ?danswer_pass_daysk, Bp.def_at ?danswer_list_ofa ?danswer_list_ofl ?danswer_list_ofc ?danswer_list_ofk, Bp.def_at ?dis_sizea ?dis_sizel ?dis_sizec ?dis_sizek, Bp.def_at ?dare_beginningsa ?dare_beginningsl ?dare_beginningsc ?dare_beginningsk, ?blen, ?bsum, ?ball, ?bmin, ?bord, ?blist, ?brange, ?bsorted, ?benumerate, Bp.cst_at ?kFIRST_ROOM, Bp.cst_at ?kFIRST_LIFE, Bp.cst_at ?kFIRST_SHARE, Bp.cst_at ?kOUT_OF_BOUNDS, Bp.cst_at ?kNO_BRANCH, Bp.cst_at ?kIS_BRANCH_ZERO, Bp.cst_at ?kIS_THERE, Bp.cst_at ?kNO_KEY, Bp.cst_at ?kNO_ROOM, Bp.cst_at ?kTOO_MANY, Bp.cst_at ?kHIGHEST_ROOM, Bp.cst_at ?kHIGHEST_LIFE, Bp.cst_at ?kMOST_BRANCHES, Bp.cst_at ?kMOST_ENTRIES, Bp.cst_at ?kLONGEST_KEY, Bp.cst_at ?kNOTHING_FOUND, Bp.cst_at ?kHIGHEST_DAY, Bp.cst_at ?kMOST_BEGINNINGS, Bp.cst_at ?kBY_KEY, Bp.cst_at ?kBEGINS, Bp.cst_at ?kOPENS, Bp.cst_at ?kCLOSES, Bp.cst_at ?kSHARE, Bp.cst_at ?kSAVE, Bp.cst_at ?kFIND, Bp.cst_at ?kWOULD, Bp.cst_at ?kPASS_DAYS, Bp.cst_at ?kLIST_OF⟩
      (case cBat => k_is)
      (case cBpg => k_is)
      (case cBhd => k_is)
      (case cBpo => k_is)
      (case cBsa => k_is)
      (case cBmk => k_is)
      (case cBkc => k_is)
      (case cEat => k_is)
      (case cEpg => k_is)
      (case cEhd => k_is)
      (case cEpo => k_is)
      (case cEsa => k_is)
      (case cEmk => k_is)
      (case cEkc => k_is)
      (case cHat => k_is)
      (case cHpg => k_is)
      (case cHhd => k_is)
      (case cHpo => k_is)
      (case cHsa => k_is)
      (case cHmk => k_is)
      (case cHkc => k_is)
      (case cRat => k_is)
      (case cRpg => k_is)
      (case cRhd => k_is)
      (case cRpo => k_is)
      (case cRsa => k_is)
      (case cRmk => k_is)
      (case cRkc => k_is)
      (case cFat => k_is)
      (case cFpg => k_is)
      (case cFhd => k_is)
      (case cFpo => k_is)
      (case cFsa => k_is)
      (case cFmk => k_is)
      (case cFkc => k_is)
      (case aBparent => k_is)
      (case aBshare => k_is)
      (case aEbranch => k_is)
      (case aEsize => k_is)
      (case aEcontent => k_is)
      (case aEkey => k_is)
      (case aElast_use => k_is)
      (case aElast_day => k_is)
      (case aHroom => k_is)
      (case aHlife => k_is)
      (case aHday => k_is)
      (case aHuses => k_is)
      (case aHbranches => k_is)
      (case aHentries => k_is)
      (case aRcalls => k_is)
      (case aRplace => k_is)
      (case aFway => k_is)
      (case aFentry => k_is)
      (case mBinita => k_is)
      (case mBiniti => k_is)
      (case mBinitl => k_is)
      (case mBinitc => k_is)
      (case mBinitk => k_is)
      (case mEinita => k_is)
      (case mEiniti => k_is)
      (case mEinitl => k_is)
      (case mEinitc => k_is)
      (case mEinitk => k_is)
      (case mHinita => k_is)
      (case mHiniti => k_is)
      (case mHinitl => k_is)
      (case mHinitc => k_is)
      (case mHinitk => k_is)
      (case mHstart_anewa => k_is)
      (case mHstart_anewi => k_is)
      (case mHstart_anewl => k_is)
      (case mHstart_anewc => k_is)
      (case mHstart_anewk => k_is)
      (case mHhas_brancha => k_is)
      (case mHhas_branchi => k_is)
      (case mHhas_branchl => k_is)
      (case mHhas_branchc => k_is)
      (case mHhas_branchk => k_is)
      (case mHline_ofa => k_is)
      (case mHline_ofi => k_is)
      (case mHline_ofl => k_is)
      (case mHline_ofc => k_is)
      (case mHline_ofk => k_is)
      (case mHshares_togethera => k_is)
      (case mHshares_togetheri => k_is)
      (case mHshares_togetherl => k_is)
      (case mHshares_togetherc => k_is)
      (case mHshares_togetherk => k_is)
      (case mHmark_useda => k_is)
      (case mHmark_usedi => k_is)
      (case mHmark_usedl => k_is)
      (case mHmark_usedc => k_is)
      (case mHmark_usedk => k_is)
      (case mHadd_entrya => k_is)
      (case mHadd_entryi => k_is)
      (case mHadd_entryl => k_is)
      (case mHadd_entryc => k_is)
      (case mHadd_entryk => k_is)
      (case mHdrop_entriesa => k_is)
      (case mHdrop_entriesi => k_is)
      (case mHdrop_entriesl => k_is)
      (case mHdrop_entriesc => k_is)
      (case mHdrop_entriesk => k_is)
      (case mRinita => k_is)
      (case mRiniti => k_is)
      (case mRinitl => k_is)
      (case mRinitc => k_is)
      (case mRinitk => k_is)
      (case mRis_donea => k_is)
      (case mRis_donei => k_is)
      (case mRis_donel => k_is)
      (case mRis_donec => k_is)
      (case mRis_donek => k_is)
      (case mRtake_numbera => k_is)
      (case mRtake_numberi => k_is)
      (case mRtake_numberl => k_is)
      (case mRtake_numberc => k_is)
      (case mRtake_numberk => k_is)
      (case mRtake_lista => k_is)
      (case mRtake_listi => k_is)
      (case mRtake_listl => k_is)
      (case mRtake_listc => k_is)
      (case mRtake_listk => k_is)
      (case mRtake_listsa => k_is)
      (case mRtake_listsi => k_is)
      (case mRtake_listsl => k_is)
      (case mRtake_listsc => k_is)
      (case mRtake_listsk => k_is)
      (case mFinita => k_is)
      (case mFiniti => k_is)
      (case mFinitl => k_is)
      (case mFinitc => k_is)
      (case mFinitk => k_is)
      (case dentries_of_brancha => k_is)
      (case dentries_of_branchl => k_is)
      (case dentries_of_branchc => k_is)
      (case dentries_of_branchk => k_is)
      (case dentries_withouta => k_is)
      (case dentries_withoutl => k_is)
      (case dentries_withoutc => k_is)
      (case dentries_withoutk => k_is)
      (case dsizes_togethera => k_is)
      (case dsizes_togetherl => k_is)
      (case dsizes_togetherc => k_is)
      (case dsizes_togetherk => k_is)
      (case dcounted_contentsa => k_is)
      (case dcounted_contentsl => k_is)
      (case dcounted_contentsc => k_is)
      (case dcounted_contentsk => k_is)
      (case danswer_beginsa => k_is)
      (case danswer_beginsl => k_is)
      (case danswer_beginsc => k_is)
      (case danswer_beginsk => k_is)
      (case danswer_opensa => k_is)
      (case danswer_opensl => k_is)
      (case danswer_opensc => k_is)
      (case danswer_opensk => k_is)
      (case danswer_closesa => k_is)
      (case danswer_closesl => k_is)
      (case danswer_closesc => k_is)
      (case danswer_closesk => k_is)
      (case danswer_sharea => k_is)
      (case danswer_sharel => k_is)
      (case danswer_sharec => k_is)
      (case danswer_sharek => k_is)
      (case dis_keya => k_is)
      (case dis_keyl => k_is)
      (case dis_keyc => k_is)
      (case dis_keyk => k_is)
      (case dis_beginninga => k_is)
      (case dis_beginningl => k_is)
      (case dis_beginningc => k_is)
      (case dis_beginningk => k_is)
      (case dis_key_bytea => k_is)
      (case dis_key_bytel => k_is)
      (case dis_key_bytec => k_is)
      (case dis_key_bytek => k_is)
      (case dentries_to_goa => k_is)
      (case dentries_to_gol => k_is)
      (case dentries_to_goc => k_is)
      (case dentries_to_gok => k_is)
      (case dgiving_brancha => k_is)
      (case dgiving_branchl => k_is)
      (case dgiving_branchc => k_is)
      (case dgiving_branchk => k_is)
      (case danswer_savea => k_is)
      (case danswer_savel => k_is)
      (case danswer_savec => k_is)
      (case danswer_savek => k_is)
      (case dis_key_takena => k_is)
      (case dis_key_takenl => k_is)
      (case dis_key_takenc => k_is)
      (case dis_key_takenk => k_is)
      (case danswer_froma => k_is)
      (case danswer_froml => k_is)
      (case danswer_fromc => k_is)
      (case danswer_fromk => k_is)
      (case danswer_calla => k_is)
      (case danswer_calll => k_is)
      (case danswer_callc => k_is)
      (case danswer_callk => k_is)
      (case danswer_statea => k_is)
      (case danswer_statel => k_is)
      (case danswer_statec => k_is)
      (case danswer_statek => k_is)
      (case dfound_on_linea => k_is)
      (case dfound_on_linel => k_is)
      (case dfound_on_linec => k_is)
      (case dfound_on_linek => k_is)
      (case dfound_amonga => k_is)
      (case dfound_amongl => k_is)
      (case dfound_amongc => k_is)
      (case dfound_amongk => k_is)
      (case dis_begun_bya => k_is)
      (case dis_begun_byl => k_is)
      (case dis_begun_byc => k_is)
      (case dis_begun_byk => k_is)
      (case danswer_woulda => k_is)
      (case danswer_wouldl => k_is)
      (case danswer_wouldc => k_is)
      (case danswer_wouldk => k_is)
      (case danswer_finda => k_is)
      (case danswer_findl => k_is)
      (case danswer_findc => k_is)
      (case danswer_findk => k_is)
      (case danswer_pass_daysa => k_is)
      (case danswer_pass_daysl => k_is)
      (case danswer_pass_daysc => k_is)
      (case danswer_pass_daysk => k_is)
      (case danswer_list_ofa => k_is)
      (case danswer_list_ofl => k_is)
      (case danswer_list_ofc => k_is)
      (case danswer_list_ofk => k_is)
      (case dis_sizea => k_is)
      (case dis_sizel => k_is)
      (case dis_sizec => k_is)
      (case dis_sizek => k_is)
      (case dare_beginningsa => k_is)
      (case dare_beginningsl => k_is)
      (case dare_beginningsc => k_is)
      (case dare_beginningsk => k_is)
      (case blen => k_is)
      (case bsum => k_is)
      (case ball => k_is)
      (case bmin => k_is)
      (case bord => k_is)
      (case blist => k_is)
      (case brange => k_is)
      (case bsorted => k_is)
      (case benumerate => k_is)
      (case kFIRST_ROOM => k_is)
      (case kFIRST_LIFE => k_is)
      (case kFIRST_SHARE => k_is)
      (case kOUT_OF_BOUNDS => k_is)
      (case kNO_BRANCH => k_is)
      (case kIS_BRANCH_ZERO => k_is)
      (case kIS_THERE => k_is)
      (case kNO_KEY => k_is)
      (case kNO_ROOM => k_is)
      (case kTOO_MANY => k_is)
      (case kHIGHEST_ROOM => k_is)
      (case kHIGHEST_LIFE => k_is)
      (case kMOST_BRANCHES => k_is)
      (case kMOST_ENTRIES => k_is)
      (case kLONGEST_KEY => k_is)
      (case kNOTHING_FOUND => k_is)
      (case kHIGHEST_DAY => k_is)
      (case kMOST_BEGINNINGS => k_is)
      (case kBY_KEY => k_is)
      (case kBEGINS => k_is)
      (case kOPENS => k_is)
      (case kCLOSES => k_is)
      (case kSHARE => k_is)
      (case kSAVE => k_is)
      (case kFIND => k_is)
      (case kWOULD => k_is)
      (case kPASS_DAYS => k_is)
      (case kLIST_OF => k_is)
