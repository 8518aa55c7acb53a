import PyProof.Rows.All
import Wide.All
import OpenK.AllK
import Wide.FinOn
import Open.SpecLaws
import KE.OsGo
import HandS.ForSpec
import HandS.ForMost
import HandS.Evl
import HandS.More
import HandS.Walk
import PyWideLaws
import HandS.CallLocal
import PySem.Challenge.RW_borders_s01_answers
section
/-! The strip's motions as a group, over the specification alone: what keeps a strip, its period, its kinds, its sort. -/
set_option autoImplicit false
namespace BM
open Wp01

/-- a motion told by two bits and a number -/
def mot (f v : Bool) (k : Int) : Motion := ⟨(if f then 1 else 0) + (if v then 2 else 0), k⟩
def mx (f : Bool) (k x : Int) : Int := if f then k - x else x + k
def my (v : Bool) (h y : Nat) : Nat := if v then h - 1 - y else y

theorem mot_x (f v : Bool) (k x : Int) : (mot f v k).x x = mx f k x := by
  cases f <;> cases v <;> simp [Motion.x, mot, mx]
theorem mot_y (f v : Bool) (k : Int) (h y : Nat) : (mot f v k).y h y = my v h y := by
  cases f <;> cases v <;> rfl
theorem my_lt {v : Bool} {h y : Nat} (hy : y < h) : my v h y < h := by
  cases v <;> simp [my] <;> omega
theorem my_my {v : Bool} {h y : Nat} (hy : y < h) : my v h (my v h y) = y := by
  cases v <;> simp [my] <;> omega
theorem my_comp {v u : Bool} {h y : Nat} (hy : y < h) : my v h (my u h y) = my (v != u) h y := by
  cases v <;> cases u <;> simp [my] <;> omega
theorem mx_comp (f g : Bool) (k l x : Int) : mx f k (mx g l x) = mx (f != g) (if f then k - l else l + k) x := by
  cases f <;> cases g <;> simp [mx] <;> omega

/-- a strip as the program holds it -/
structure Ok (s : Strip) : Prop where
  w : 0 < s.w
  h : 0 < s.h
  len : s.cells.length = s.h * s.w

theorem at_congr {s : Strip} {x x' : Int} {y : Nat} (h : x % (s.w : Int) = x' % (s.w : Int)) : s.at_ x y = s.at_ x' y := by
  unfold Strip.at_; rw [h]

/-- all whole columns -/
def K (s : Strip) (f v : Bool) (k : Int) : Prop := ∀ (x : Int) (y : Nat), y < s.h → s.at_ (mx f k x) (my v s.h y) = s.at_ x y

theorem mx_mod (f : Bool) (w k x : Int) : (mx f k (x % w)) % w = (mx f k x) % w := by
  cases f
  · simp [mx]
  · simp [mx]
theorem mx_modk (f : Bool) (w k x : Int) : (mx f (k % w) x) % w = (mx f k x) % w := by
  cases f
  · simp [mx]
  · simp [mx]

theorem keeps_iff {s : Strip} (hw : 0 < s.w) (f v : Bool) (k : Int) : keeps s (mot f v k) = true ↔ K s f v k := by
  unfold keeps K
  simp only [List.all_eq_true, List.mem_range, beq_iff_eq, mot_x, mot_y]
  constructor
  · intro h x y hy
    have hp : (0 : Int) < (s.w : Int) := by omega
    have h0 : 0 ≤ x % (s.w : Int) := Int.emod_nonneg _ (by omega)
    have h1 : x % (s.w : Int) < (s.w : Int) := Int.emod_lt_of_pos _ hp
    have e := h (x % (s.w : Int)).toNat (by omega) y hy
    rw [Int.toNat_of_nonneg h0] at e
    rw [at_congr (mx_mod f (s.w : Int) k x).symm, e]
    exact at_congr (Int.emod_emod_of_dvd x (Int.dvd_refl _))
  · intro h x _ y hy
    exact h x y hy

theorem K_comp {s : Strip} {f v g u : Bool} {k l : Int} (a : K s f v k) (b : K s g u l) : K s (f != g) (v != u) (if f then k - l else l + k) := by
  intro x y hy
  have e := a (mx g l x) (my u s.h y) (my_lt hy)
  rw [mx_comp, my_comp hy] at e
  rw [e]; exact b x y hy
theorem K_inv {s : Strip} {f v : Bool} {k : Int} (a : K s f v k) : K s f v (if f then k else -k) := by
  intro x y hy
  have e := a (mx f (if f then k else -k) x) (my v s.h y) (my_lt hy)
  rw [mx_comp, my_comp hy] at e
  rw [← e]
  cases f <;> cases v <;> simp [mx, my] <;> congr 1 <;> omega
theorem K_zero (s : Strip) : K s false false 0 := by intro x y _; simp [mx, my]
theorem K_w (s : Strip) : K s false false (s.w : Int) := by
  intro x y _; simp only [mx, my]; apply at_congr; simp
theorem K_congr {s : Strip} {f v : Bool} {k l : Int} (h : k % (s.w : Int) = l % (s.w : Int)) (a : K s f v k) : K s f v l := by
  intro x y hy
  rw [← a x y hy]
  apply at_congr
  rw [← mx_modk, ← h, mx_modk]
theorem K_neg {s : Strip} {k : Int} (a : K s false false k) : K s false false (-k) := by
  have := K_inv a; simpa using this
theorem K_add {s : Strip} {f v : Bool} {k l : Int} (a : K s false false l) (b : K s f v k) : K s f v (k + l) := by
  have := K_comp a b; simpa using this
/-- two of one kind differ by a way on -/
theorem K_diff {s : Strip} {f v : Bool} {k l : Int} (a : K s f v k) (b : K s f v l) : K s false false (k - l) := by
  have := K_comp a (K_inv b)
  cases f <;> cases v <;> simp at this ⊢
  · have e : -l + k = k - l := by omega
    rwa [e] at this
  · have e : -l + k = k - l := by omega
    rwa [e] at this
  · exact this
  · exact this
theorem K_mul {s : Strip} {k : Int} (a : K s false false k) : ∀ n : Nat, K s false false (k * n)
  | 0 => by simpa using K_zero s
  | n + 1 => by
    have := K_add a (K_mul a n)
    have e : k * ((n + 1 : Nat) : Int) = k * (n : Int) + k := by
      rw [Int.natCast_add, Int.mul_add]; simp
    rwa [e]
theorem K_mulI {s : Strip} {k : Int} (a : K s false false k) (n : Int) : K s false false (k * n) := by
  cases n with
  | ofNat n => exact K_mul a n
  | negSucc n =>
    have := K_neg (K_mul a (n + 1))
    rw [← Int.mul_neg] at this
    exact this

/-! ### The period -/
theorem find_least {p : Nat → Bool} : ∀ (w b : Nat), (∃ k, b ≤ k ∧ k < b + w ∧ p k = true) → ∃ t, ((List.range' b w).find? p) = some t ∧ b ≤ t ∧ t < b + w ∧ p t = true ∧ ∀ k, b ≤ k → k < t → p k = false
  | 0, b, ⟨k, h1, h2, _⟩ => by omega
  | w + 1, b, ⟨k, h1, h2, h3⟩ => by
    rw [List.range'_succ, List.find?_cons]
    cases e : p b with
    | true => exact ⟨b, rfl, by omega, by omega, e, fun k _ _ => by omega⟩
    | false =>
      have hk : k ≠ b := fun z => by rw [z, e] at h3; cases h3
      obtain ⟨t, a1, a2, a3, a4, a5⟩ := find_least (p := p) w (b + 1) ⟨k, by omega, by omega, h3⟩
      refine ⟨t, a1, by omega, by omega, a4, fun j hj hl => ?_⟩
      by_cases z : j = b
      · rw [z]; exact e
      · exact a5 j (by omega) hl
theorem map_succ (w : Nat) : (List.range w).map (fun (k : Nat) => k + 1) = List.range' 1 w := by
  rw [List.range_eq_range', show (fun (k : Nat) => k + 1) = (fun x => 1 + x) from funext fun k => Nat.add_comm k 1, List.map_add_range']

structure Per (s : Strip) (t : Nat) : Prop where
  pos : 0 < t
  le : t ≤ s.w
  keeps : K s false false (t : Int)
  least : ∀ k : Nat, 0 < k → k < t → ¬ K s false false (k : Int)

theorem period_per {s : Strip} (hw : 0 < s.w) : Per s (period s) := by
  have hm : ∀ k : Nat, Wp01.keeps s ⟨0, (k : Int)⟩ = true ↔ K s false false (k : Int) := fun k => keeps_iff hw false false (k : Int)
  obtain ⟨t, a1, a2, a3, a4, a5⟩ := find_least (p := fun (k : Nat) => Wp01.keeps s ⟨0, (k : Int)⟩) s.w 1 ⟨s.w, by omega, by omega, (hm s.w).2 (K_w s)⟩
  have e : period s = t := by
    unfold period; rw [map_succ, a1]; rfl
  rw [e]
  refine ⟨by omega, by omega, (hm t).1 a4, fun k h1 h2 h3 => ?_⟩
  have := a5 k (by omega) h2
  rw [(hm k).2 h3] at this; cases this

theorem Per.dvd {s : Strip} {t : Nat} (P : Per s t) {k : Int} (a : K s false false k) : (t : Int) ∣ k := by
  have hp : (0 : Int) < (t : Int) := by have := P.pos; omega
  have h0 : 0 ≤ k % (t : Int) := Int.emod_nonneg _ (by omega)
  have h1 : k % (t : Int) < (t : Int) := Int.emod_lt_of_pos _ hp
  have e : k % (t : Int) = k + (t : Int) * (-(k / (t : Int))) := by
    rw [Int.mul_neg, Int.emod_def]; omega
  have q : K s false false (k % (t : Int)) := by
    rw [e]; exact K_add (K_mulI P.keeps _) a
  apply Int.dvd_of_emod_eq_zero
  by_cases z : k % (t : Int) = 0
  · exact z
  · exfalso
    refine P.least (k % (t : Int)).toNat (by omega) (by omega) ?_
    rw [Int.toNat_of_nonneg h0]; exact q
theorem Per.uniq {s : Strip} {t u : Nat} (P : Per s t) (Q : Per s u) : t = u := by
  by_cases c : t < u
  · exact absurd P.keeps (Q.least t P.pos c)
  · by_cases d : u < t
    · exact absurd Q.keeps (P.least u Q.pos d)
    · omega
theorem Per.dvd_w {s : Strip} {t : Nat} (P : Per s t) : (t : Int) ∣ (s.w : Int) := P.dvd (K_w s)
/-- a motion of the strip with its number below the period -/
theorem Per.red {s : Strip} {t : Nat} (P : Per s t) {f v : Bool} {k : Int} (a : K s f v k) : K s f v (k % (t : Int)) := by
  have e : k % (t : Int) = k + (t : Int) * (-(k / (t : Int))) := by
    rw [Int.mul_neg, Int.emod_def]; omega
  rw [e]; exact K_add (K_mulI P.keeps _) a

/-! ### Kinds -/
def kf (kind : Nat) : Bool := kind % 2 == 1
def kv (kind : Nat) : Bool := decide (2 ≤ kind)
theorem mot_kind {kind : Nat} (h : kind < 4) (k : Int) : mot (kf kind) (kv kind) k = ⟨kind, k⟩ := by
  match kind, h with
  | 0, _ => rfl
  | 1, _ => rfl
  | 2, _ => rfl
  | 3, _ => rfl
theorem kind_of (f v : Bool) : ∃ kind, kind < 4 ∧ kf kind = f ∧ kv kind = v := by
  cases f <;> cases v
  · exact ⟨0, by decide, rfl, rfl⟩
  · exact ⟨2, by decide, rfl, rfl⟩
  · exact ⟨1, by decide, rfl, rfl⟩
  · exact ⟨3, by decide, rfl, rfl⟩
theorem keepsK {s : Strip} (hw : 0 < s.w) {kind : Nat} (h : kind < 4) (k : Int) : keeps s ⟨kind, k⟩ = true ↔ K s (kf kind) (kv kind) k := by
  rw [← mot_kind h]; exact keeps_iff hw _ _ _
theorem mem_ofKind {s : Strip} (hw : 0 < s.w) {kind : Nat} (h : kind < 4) (k : Nat) : k ∈ ofKind s kind ↔ k < period s ∧ K s (kf kind) (kv kind) (k : Int) := by
  unfold ofKind
  rw [List.mem_filter, List.mem_range]
  exact and_congr Iff.rfl (keepsK hw h _)
theorem ofKind_one {s : Strip} (hw : 0 < s.w) {kind : Nat} (h : kind < 4) {a b : Nat} (ha : a ∈ ofKind s kind) (hb : b ∈ ofKind s kind) : a = b := by
  have P := period_per hw
  obtain ⟨a1, a2⟩ := (mem_ofKind hw h a).1 ha
  obtain ⟨b1, b2⟩ := (mem_ofKind hw h b).1 hb
  obtain ⟨c, hc⟩ := P.dvd (K_diff a2 b2)
  have hp := P.pos
  have : c = 0 := by
    by_cases z : c = 0
    · exact z
    · exfalso
      have : (1 : Int) ≤ c ∨ c ≤ -1 := by omega
      cases this with
      | inl h =>
        have := Int.mul_le_mul_of_nonneg_left h (show (0 : Int) ≤ (period s : Int) by omega)
        omega
      | inr h =>
        have := Int.mul_le_mul_of_nonneg_left h (show (0 : Int) ≤ (period s : Int) by omega)
        omega
  subst this
  omega
theorem ofKind_ne {s : Strip} (hw : 0 < s.w) {kind : Nat} (h : kind < 4) : ofKind s kind ≠ [] ↔ ∃ k, K s (kf kind) (kv kind) k := by
  have P := period_per hw
  constructor
  · intro n
    obtain ⟨a, ha⟩ := List.exists_mem_of_ne_nil _ n
    exact ⟨_, ((mem_ofKind hw h a).1 ha).2⟩
  · rintro ⟨k, hk⟩ z
    have hp : (0 : Int) < (period s : Int) := by have := P.pos; omega
    have h0 : 0 ≤ k % (period s : Int) := Int.emod_nonneg _ (by omega)
    have h1 : k % (period s : Int) < (period s : Int) := Int.emod_lt_of_pos _ hp
    have : (k % (period s : Int)).toNat ∈ ofKind s kind := (mem_ofKind hw h _).2 ⟨by omega, by
      rw [Int.toNat_of_nonneg h0]; exact P.red hk⟩
    rw [z] at this; cases this
theorem ofKind_nodup (s : Strip) (kind : Nat) : (ofKind s kind).Nodup := List.Pairwise.filter _ List.nodup_range
theorem ofKind_form {s : Strip} (hw : 0 < s.w) {kind : Nat} (h : kind < 4) : ofKind s kind = [] ∨ ∃ k, ofKind s kind = [k] := by
  cases e : ofKind s kind with
  | nil => exact .inl rfl
  | cons a r =>
    cases r with
    | nil => exact .inr ⟨a, rfl⟩
    | cons b r =>
      exfalso
      have ha : a ∈ ofKind s kind := by rw [e]; exact List.mem_cons_self
      have hb : b ∈ ofKind s kind := by rw [e]; exact List.mem_cons_of_mem _ List.mem_cons_self
      have n := ofKind_nodup s kind
      rw [e, ofKind_one hw h ha hb] at n
      simp at n

/-- the sort as the program tells it: by three lists -/
def sortOf (m g r : List Nat) : Nat :=
  if m ≠ [] ∧ r ≠ [] then (if 0 ∈ g then 6 else 4) else if g ≠ [] then (if 0 ∈ g then 5 else 1) else if r ≠ [] then 3 else if m ≠ [] then 2 else 0
theorem type_sortOf {s : Strip} (hw : 0 < s.w) : type s = sortOf (ofKind s 1) (ofKind s 2) (ofKind s 3) := by
  have m1 := ofKind_ne hw (kind := 1) (by decide)
  have m2 := ofKind_ne hw (kind := 2) (by decide)
  have m3 := ofKind_ne hw (kind := 3) (by decide)
  have c13 : ofKind s 1 ≠ [] → ofKind s 3 ≠ [] → ofKind s 2 ≠ [] := fun a b => by
    obtain ⟨k, hk⟩ := m1.1 a
    obtain ⟨l, hl⟩ := m3.1 b
    exact m2.2 ⟨_, K_comp hk hl⟩
  have c12 : ofKind s 1 ≠ [] → ofKind s 2 ≠ [] → ofKind s 3 ≠ [] := fun a b => by
    obtain ⟨k, hk⟩ := m1.1 a
    obtain ⟨l, hl⟩ := m2.1 b
    exact m3.2 ⟨_, K_comp hk hl⟩
  have c23 : ofKind s 2 ≠ [] → ofKind s 3 ≠ [] → ofKind s 1 ≠ [] := fun a b => by
    obtain ⟨k, hk⟩ := m2.1 a
    obtain ⟨l, hl⟩ := m3.1 b
    exact m1.2 ⟨_, K_comp hk hl⟩
  have g2 := ofKind_form hw (kind := 2) (by decide)
  unfold type sortOf
  rcases e1 : ofKind s 1 with _ | ⟨a, r1⟩ <;> rcases e3 : ofKind s 3 with _ | ⟨b, r3⟩ <;> rcases g2 with e2 | ⟨k, e2⟩ <;>
    (rw [e1] at c13 c12 c23; rw [e2] at c13 c12 c23; rw [e3] at c13 c12 c23; rw [e2]) <;> simp at c13 c12 c23 ⊢
  all_goals (by_cases z : k = 0 <;> simp [z]; try (intro y; exact absurd y.symm z))
  all_goals (first | (intro y; exact absurd y.symm z) | omega | skip)
end BM

end

section
/-! Cells that go along: the specification's search is reachability; for the strip's own motions one step is enough. -/
set_option autoImplicit false
namespace BM
open Wp01

/-! ### Lists without a number twice -/
theorem length_le_of_sub : ∀ {l m : List Nat}, l.Nodup → (∀ x ∈ l, x ∈ m) → l.length ≤ m.length
  | [], _, _, _ => Nat.zero_le _
  | a :: l, m, n, h => by
    have hm : a ∈ m := h a List.mem_cons_self
    rw [List.nodup_cons] at n
    have : l.length ≤ (m.erase a).length := length_le_of_sub n.2 fun x hx => by
      refine (List.mem_erase_of_ne ?_).2 (h x (List.mem_cons_of_mem _ hx))
      intro z; rw [z] at hx; exact n.1 hx
    rw [List.length_erase_of_mem hm] at this
    have : 0 < m.length := List.length_pos_of_mem hm
    simp only [List.length_cons]; omega
theorem length_le_of_lt {l : List Nat} {N : Nat} (n : l.Nodup) (h : ∀ x ∈ l, x < N) : l.length ≤ N := by
  have := length_le_of_sub (m := List.range N) n fun x hx => List.mem_range.2 (h x hx)
  rwa [List.length_range] at this
theorem full_of_length {l : List Nat} {N : Nat} (n : l.Nodup) (h : ∀ x ∈ l, x < N) (hl : N ≤ l.length) {i : Nat} (hi : i < N) : i ∈ l := by
  by_cases c : i ∈ l
  · exact c
  · exfalso
    have : (i :: l).length ≤ N := length_le_of_lt (List.nodup_cons.2 ⟨c, n⟩) fun x hx => by
      rcases List.mem_cons.1 hx with e | e
      · omega
      · exact h x e
    simp only [List.length_cons] at this; omega
theorem length_eq_of_mem {l m : List Nat} (a : l.Nodup) (b : m.Nodup) (h : ∀ x, x ∈ l ↔ x ∈ m) : l.length = m.length :=
  Nat.le_antisymm (length_le_of_sub a fun x => (h x).1) (length_le_of_sub b fun x => (h x).2)

/-! ### Reachability -/
inductive Reach (R : Nat → List Nat) : Nat → Nat → Prop
  | refl (c : Nat) : Reach R c c
  | step {c d e : Nat} : Reach R c d → e ∈ R d → Reach R c e
theorem Reach.trans {R : Nat → List Nat} {a b c : Nat} (h : Reach R a b) (k : Reach R b c) : Reach R a c := by
  induction k with
  | refl => exact h
  | step _ m ih => exact .step ih m

/-- one step by each motion -/
def stepS (w h : Nat) (ms : List Motion) (c : Nat) : List Nat := ms.map fun (m : Motion) => cellAt w (m.x ((c % w : Nat) : Int)) (m.y h (c / w))
/-- the new ones, each once -/
def news (l : List Nat) (xs : List Nat) (a : List Nat) : List Nat := xs.foldl (fun (a : List Nat) (c : Nat) => if l.contains c = true ∨ a.contains c = true then a else a ++ [c]) a
theorem news_spec (l : List Nat) : ∀ (xs a : List Nat), a.Nodup → (∀ x ∈ a, x ∉ l) → (news l xs a).Nodup ∧ (∀ x ∈ news l xs a, x ∉ l) ∧ (∀ x, x ∈ news l xs a ↔ x ∈ a ∨ (x ∈ xs ∧ x ∉ l))
  | [], a, n, h => ⟨n, h, fun x => by simp [news]⟩
  | c :: xs, a, n, h => by
    by_cases q : c ∈ l ∨ c ∈ a
    · have e : news l (c :: xs) a = news l xs a := by
        unfold news; rw [List.foldl_cons, if_pos]
        simpa [List.contains_iff_mem] using q
      rw [e]
      obtain ⟨i1, i2, i3⟩ := news_spec l xs a n h
      refine ⟨i1, i2, fun x => ?_⟩
      rw [i3]
      constructor
      · rintro (z | ⟨z1, z2⟩)
        · exact .inl z
        · exact .inr ⟨List.mem_cons_of_mem _ z1, z2⟩
      · rintro (z | ⟨z1, z2⟩)
        · exact .inl z
        · rcases List.mem_cons.1 z1 with z3 | z3
          · subst z3
            rcases q with q | q
            · exact absurd q z2
            · exact .inl q
          · exact .inr ⟨z3, z2⟩
    · have e : news l (c :: xs) a = news l xs (a ++ [c]) := by
        unfold news; rw [List.foldl_cons, if_neg]
        simpa [List.contains_iff_mem] using q
      rw [e]
      rw [not_or] at q
      obtain ⟨i1, i2, i3⟩ := news_spec l xs (a ++ [c]) (by
          rw [List.nodup_append]
          refine ⟨n, by simp, fun x hx y hy => ?_⟩
          rw [List.mem_singleton] at hy
          intro z; rw [z, hy] at hx; exact q.2 hx) (by
          intro x hx
          rcases List.mem_append.1 hx with z | z
          · exact h x z
          · rw [List.mem_singleton] at z; rw [z]; exact q.1)
      refine ⟨i1, i2, fun x => ?_⟩
      rw [i3, List.mem_append, List.mem_singleton]
      constructor
      · rintro ((z | z) | ⟨z1, z2⟩)
        · exact .inl z
        · subst z; exact .inr ⟨List.mem_cons_self, q.1⟩
        · exact .inr ⟨List.mem_cons_of_mem _ z1, z2⟩
      · rintro (z | ⟨z1, z2⟩)
        · exact .inl (.inl z)
        · rcases List.mem_cons.1 z1 with z3 | z3
          · exact .inl (.inr z3)
          · exact .inr ⟨z3, z2⟩

theorem goes_eq (w h : Nat) (ms : List Motion) (f : Nat) (l : List Nat) : goes w h ms (f + 1) l = if news l (l.flatMap (stepS w h ms)) [] = [] then l else goes w h ms f (l ++ news l (l.flatMap (stepS w h ms)) []) := rfl

theorem goes_spec {w h : Nat} {ms : List Motion} {N : Nat} (hc : ∀ c, c < N → ∀ d ∈ stepS w h ms c, d < N) : ∀ (f : Nat) (l : List Nat), l.Nodup → (∀ x ∈ l, x < N) → N ≤ f + l.length →
    (goes w h ms f l).Nodup ∧ (∀ x ∈ l, x ∈ goes w h ms f l) ∧ (∀ x ∈ goes w h ms f l, x < N) ∧ (∀ x ∈ goes w h ms f l, ∀ y ∈ stepS w h ms x, y ∈ goes w h ms f l) ∧ (∀ x ∈ goes w h ms f l, ∃ c ∈ l, Reach (stepS w h ms) c x)
  | 0, l, n, b, hl => by
    have e : goes w h ms 0 l = l := rfl
    rw [e]
    exact ⟨n, fun x hx => hx, b, fun x hx y hy => full_of_length n b (by omega) (hc x (b x hx) y hy), fun x hx => ⟨x, hx, .refl x⟩⟩
  | f + 1, l, n, b, hl => by
    obtain ⟨i1, i2, i3⟩ := news_spec l (l.flatMap (stepS w h ms)) [] List.nodup_nil (fun x hx => by cases hx)
    rw [goes_eq]
    by_cases q : news l (l.flatMap (stepS w h ms)) [] = []
    · rw [if_pos q]
      refine ⟨n, fun x hx => hx, b, fun x hx y hy => ?_, fun x hx => ⟨x, hx, .refl x⟩⟩
      by_cases z : y ∈ l
      · exact z
      · have := (i3 y).2 (.inr ⟨List.mem_flatMap.2 ⟨x, hx, hy⟩, z⟩)
        rw [q] at this; cases this
    · rw [if_neg q]
      have hp : 0 < (news l (l.flatMap (stepS w h ms)) []).length := List.length_pos_iff.2 q
      have src : ∀ x ∈ news l (l.flatMap (stepS w h ms)) [], ∃ c ∈ l, x ∈ stepS w h ms c := fun x hx => by
        rcases (i3 x).1 hx with z | ⟨z, _⟩
        · cases z
        · exact List.mem_flatMap.1 z
      obtain ⟨j1, j2, j3, j4, j5⟩ := goes_spec hc f (l ++ news l (l.flatMap (stepS w h ms)) []) (by
          rw [List.nodup_append]
          exact ⟨n, i1, fun x hx y hy z => i2 y hy (z ▸ hx)⟩) (by
          intro x hx
          rcases List.mem_append.1 hx with z | z
          · exact b x z
          · obtain ⟨c, c1, c2⟩ := src x z
            exact hc c (b c c1) x c2) (by rw [List.length_append]; omega)
      refine ⟨j1, fun x hx => j2 x (List.mem_append_left _ hx), j3, j4, fun x hx => ?_⟩
      obtain ⟨c, c1, c2⟩ := j5 x hx
      rcases List.mem_append.1 c1 with z | z
      · exact ⟨c, z, c2⟩
      · obtain ⟨d, d1, d2⟩ := src c z
        exact ⟨d, d1, Reach.trans (.step (.refl d) d2) c2⟩

theorem cellAt_lt {w h : Nat} (hw : 0 < w) {x : Int} {y : Nat} (hy : y < h) : cellAt w x y < h * w := by
  unfold cellAt
  have h0 : 0 ≤ x % (w : Int) := Int.emod_nonneg _ (by omega)
  have h1 : x % (w : Int) < (w : Int) := Int.emod_lt_of_pos _ (by omega)
  have : (y + 1) * w ≤ h * w := Nat.mul_le_mul_right w hy
  rw [Nat.succ_mul] at this
  omega
theorem cellAt_mod {w : Nat} (hw : 0 < w) (x : Int) (y : Nat) : ((cellAt w x y % w : Nat) : Int) = x % (w : Int) := by
  unfold cellAt
  have h0 : 0 ≤ x % (w : Int) := Int.emod_nonneg _ (by omega)
  have h1 : x % (w : Int) < (w : Int) := Int.emod_lt_of_pos _ (by omega)
  rw [Nat.mul_add_mod_self_right, Nat.mod_eq_of_lt (by omega)]
  omega
theorem cellAt_div {w : Nat} (hw : 0 < w) (x : Int) (y : Nat) : cellAt w x y / w = y := by
  unfold cellAt
  have h0 : 0 ≤ x % (w : Int) := Int.emod_nonneg _ (by omega)
  have h1 : x % (w : Int) < (w : Int) := Int.emod_lt_of_pos _ (by omega)
  rw [Nat.mul_comm, Nat.mul_add_div hw, Nat.div_eq_of_lt (by omega)]; rfl
theorem cellAt_self {w : Nat} (c : Nat) : cellAt w ((c % w : Nat) : Int) (c / w) = c := by
  unfold cellAt
  have e : (((c % w : Nat) : Int) % (w : Int)).toNat = c % w := by
    rw [Int.ofNat_mod_ofNat, Nat.mod_mod]; rfl
  rw [e, Nat.mul_comm]; exact Nat.div_add_mod c w
theorem cellAt_congr {w : Nat} {x x' : Int} {y : Nat} (h : x % (w : Int) = x' % (w : Int)) : cellAt w x y = cellAt w x' y := by
  unfold cellAt; rw [h]
theorem Motion_y_lt {m : Motion} {h y : Nat} (hy : y < h) : m.y h y < h := by
  unfold Motion.y; split <;> omega

theorem stepS_lt {w h : Nat} (hw : 0 < w) (ms : List Motion) : ∀ c, c < h * w → ∀ d ∈ stepS w h ms c, d < h * w := by
  intro c hc d hd
  obtain ⟨m, _, rfl⟩ := List.mem_map.1 hd
  exact cellAt_lt hw (Motion_y_lt (by rw [Nat.div_lt_iff_lt_mul hw]; exact hc))

/-- what the specification's search finds -/
theorem along_spec {w h : Nat} (hw : 0 < w) (ms : List Motion) {c : Nat} (hc : c < h * w) :
    (along w h ms c).Nodup ∧ (∀ x ∈ along w h ms c, x < h * w) ∧ (∀ x, x ∈ along w h ms c ↔ Reach (stepS w h ms) c x) := by
  obtain ⟨j1, j2, j3, j4, j5⟩ := goes_spec (stepS_lt hw ms) (w * h) [c] (by simp) (by simpa using hc) (by rw [Nat.mul_comm]; omega)
  refine ⟨j1, j3, fun x => ⟨fun hx => ?_, fun hx => ?_⟩⟩
  · obtain ⟨d, d1, d2⟩ := j5 x hx
    rw [List.mem_singleton] at d1; rw [← d1]; exact d2
  · induction hx with
    | refl => exact j2 c (List.mem_singleton.2 rfl)
    | step _ m ih => exact j4 _ ih _ m

/-! ### The strip's own motions -/
/-- to which cells of u columns the strip's motions take one -/
def Orb (s : Strip) (u : Nat) (c d : Nat) : Prop := ∃ (f v : Bool) (k : Int), K s f v k ∧ d = cellAt u (mx f k ((c % u : Nat) : Int)) (my v s.h (c / u))
theorem Orb.refl (s : Strip) (u c : Nat) : Orb s u c c := ⟨false, false, 0, K_zero s, by simp only [mx, my, Int.add_zero]; exact (cellAt_self c).symm⟩
theorem Orb.move {s : Strip} {u : Nat} (hu : 0 < u) {c d : Nat} (hc : c < s.h * u) (o : Orb s u c d) {f v : Bool} {k : Int} (a : K s f v k) : Orb s u c (cellAt u (mx f k ((d % u : Nat) : Int)) (my v s.h (d / u))) := by
  obtain ⟨g, z, l, b, rfl⟩ := o
  refine ⟨_, _, _, K_comp a b, ?_⟩
  rw [cellAt_div hu, my_comp (by rw [Nat.div_lt_iff_lt_mul hu]; exact hc), cellAt_mod hu]
  apply cellAt_congr
  rw [mx_mod, mx_comp]
theorem mem_all {s : Strip} (hw : 0 < s.w) {m : Motion} : m ∈ all s ↔ ∃ (f v : Bool) (k : Nat), m = mot f v (k : Int) ∧ k < period s ∧ K s f v (k : Int) := by
  unfold all
  simp only [List.mem_flatMap, List.mem_range, List.mem_map]
  constructor
  · rintro ⟨kind, h4, k, hk, rfl⟩
    obtain ⟨a, b⟩ := (mem_ofKind hw h4 k).1 hk
    exact ⟨_, _, k, (mot_kind h4 _).symm, a, b⟩
  · rintro ⟨f, v, k, rfl, a, b⟩
    obtain ⟨kind, h4, rfl, rfl⟩ := kind_of f v
    exact ⟨kind, h4, k, (mem_ofKind hw h4 k).2 ⟨a, b⟩, (mot_kind h4 _).symm⟩

/-- the least cells: over the period's columns -/
theorem along_period {s : Strip} (hw : 0 < s.w) {c : Nat} (hc : c < s.h * period s) (d : Nat) : d ∈ along (period s) s.h (all s) c ↔ Orb s (period s) c d := by
  have P := period_per hw
  rw [(along_spec P.pos (all s) hc).2.2]
  constructor
  · intro r
    induction r with
    | refl => exact Orb.refl s _ c
    | step _ m ih =>
      obtain ⟨mm, h1, rfl⟩ := List.mem_map.1 m
      obtain ⟨f, v, k, rfl, _, hk⟩ := (mem_all hw).1 h1
      rw [mot_x, mot_y]
      exact ih.move P.pos hc hk
  · rintro ⟨f, v, k, hk, rfl⟩
    have hp : (0 : Int) < (period s : Int) := by have := P.pos; omega
    have h0 : 0 ≤ k % (period s : Int) := Int.emod_nonneg _ (by omega)
    have h1 : k % (period s : Int) < (period s : Int) := Int.emod_lt_of_pos _ hp
    refine .step (.refl c) (List.mem_map.2 ⟨mot f v (k % (period s : Int)), (mem_all hw).2 ⟨f, v, (k % (period s : Int)).toNat, by rw [Int.toNat_of_nonneg h0], by omega, by rw [Int.toNat_of_nonneg h0]; exact P.red hk⟩, ?_⟩)
    rw [mot_x, mot_y]
    exact cellAt_congr (mx_modk _ _ _ _)

/-- going on by the period, n times -/
theorem reach_on {w h t : Nat} (hw : 0 < w) {ms : List Motion} (hm : (⟨0, (t : Int)⟩ : Motion) ∈ ms) {c : Nat} {x : Int} {y : Nat} (r : Reach (stepS w h ms) c (cellAt w x y)) : ∀ n : Nat, Reach (stepS w h ms) c (cellAt w (x + (t : Int) * (n : Int)) y)
  | 0 => by simpa using r
  | n + 1 => by
    refine .step (reach_on hw hm r n) (List.mem_map.2 ⟨_, hm, ?_⟩)
    have e1 : (⟨0, (t : Int)⟩ : Motion) = mot false false (t : Int) := rfl
    rw [e1, mot_x, mot_y, cellAt_div hw, cellAt_mod hw]
    simp only [my]
    apply cellAt_congr
    rw [mx_mod]
    simp only [mx]
    have e : x + (t : Int) * ((n + 1 : Nat) : Int) = x + (t : Int) * (n : Int) + (t : Int) := by
      rw [Int.natCast_add, Int.mul_add]; simp; omega
    rw [e]; rfl

/-- paint: over the columns told -/
theorem along_told {s : Strip} (hw : 0 < s.w) {c : Nat} (hc : c < s.h * s.w) (d : Nat) : d ∈ along s.w s.h (all s ++ [⟨0, nat (period s)⟩]) c ↔ Orb s s.w c d := by
  have P := period_per hw
  rw [(along_spec hw _ hc).2.2]
  constructor
  · intro r
    induction r with
    | refl => exact Orb.refl s _ c
    | step _ m ih =>
      obtain ⟨mm, h1, rfl⟩ := List.mem_map.1 m
      rcases List.mem_append.1 h1 with h1 | h1
      · obtain ⟨f, v, k, rfl, _, hk⟩ := (mem_all hw).1 h1
        rw [mot_x, mot_y]
        exact ih.move hw hc hk
      · rw [List.mem_singleton] at h1
        have e1 : mm = mot false false (period s : Int) := h1
        rw [e1, mot_x, mot_y]
        exact ih.move hw hc P.keeps
  · rintro ⟨f, v, k, hk, rfl⟩
    have hp : (0 : Int) < (period s : Int) := by have := P.pos; omega
    have h0 : 0 ≤ k % (period s : Int) := Int.emod_nonneg _ (by omega)
    have h1 : k % (period s : Int) < (period s : Int) := Int.emod_lt_of_pos _ hp
    have r1 : Reach (stepS s.w s.h (all s ++ [⟨0, nat (period s)⟩])) c (cellAt s.w (mx f (k % (period s : Int)) ((c % s.w : Nat) : Int)) (my v s.h (c / s.w))) := by
      refine .step (.refl c) (List.mem_map.2 ⟨mot f v (k % (period s : Int)), List.mem_append_left _ ((mem_all hw).2 ⟨f, v, (k % (period s : Int)).toNat, by rw [Int.toNat_of_nonneg h0], by omega, by rw [Int.toNat_of_nonneg h0]; exact P.red hk⟩), ?_⟩)
      rw [mot_x, mot_y]
    have hm : (⟨0, ((period s : Nat) : Int)⟩ : Motion) ∈ all s ++ [⟨0, nat (period s)⟩] := List.mem_append_right _ (List.mem_singleton.2 rfl)
    -- a number of steps on that is not below 0 and the same by w columns
    have hq : 0 ≤ k / (period s : Int) + (s.w : Int) * ((k / (period s : Int)).natAbs : Int) := by
      have : ((k / (period s : Int)).natAbs : Int) * 1 ≤ ((k / (period s : Int)).natAbs : Int) * (s.w : Int) := Int.mul_le_mul_of_nonneg_left (by omega) (by omega)
      rw [Int.mul_comm (s.w : Int)]
      omega
    have r2 := reach_on (t := period s) hw hm r1 (k / (period s : Int) + (s.w : Int) * ((k / (period s : Int)).natAbs : Int)).toNat
    rw [Int.toNat_of_nonneg hq] at r2
    refine (cellAt_congr (w := s.w) (y := my v s.h (c / s.w)) ?_) ▸ r2
    have e : (period s : Int) * (k / (period s : Int) + (s.w : Int) * ((k / (period s : Int)).natAbs : Int)) = (k - k % (period s : Int)) + (s.w : Int) * ((period s : Int) * ((k / (period s : Int)).natAbs : Int)) := by
      rw [Int.mul_add, Int.emod_def, Int.mul_left_comm]; omega
    rw [e]
    cases f
    · simp only [mx, Bool.false_eq_true, if_false]
      have e2 : ((c % s.w : Nat) : Int) + k % (period s : Int) + (k - k % (period s : Int) + (s.w : Int) * ((period s : Int) * ((k / (period s : Int)).natAbs : Int))) = ((c % s.w : Nat) : Int) + k + (s.w : Int) * ((period s : Int) * ((k / (period s : Int)).natAbs : Int)) := by omega
      rw [e2, Int.add_mul_emod_self_left]
    · simp only [mx, if_true]
      have e2 : k % (period s : Int) - ((c % s.w : Nat) : Int) + (k - k % (period s : Int) + (s.w : Int) * ((period s : Int) * ((k / (period s : Int)).natAbs : Int))) = k - ((c % s.w : Nat) : Int) + (s.w : Int) * ((period s : Int) * ((k / (period s : Int)).natAbs : Int)) := by omega
      rw [e2, Int.add_mul_emod_self_left]
end BM

end

section
/-! The program's own ways of asking, told by the specification's words. -/
set_option autoImplicit false
namespace BM
open Wp01
theorem cell_mod {w y x : Nat} (hx : x < w) : (y * w + x) % w = x := by
  rw [Nat.mul_add_mod_self_right, Nat.mod_eq_of_lt hx]
theorem cell_div {w y x : Nat} (hx : x < w) : (y * w + x) / w = y := by
  rw [Nat.mul_comm, Nat.mul_add_div (by omega), Nat.div_eq_of_lt hx]; rfl
theorem cell_lt {w h y x : Nat} (hx : x < w) (hy : y < h) : y * w + x < h * w := by
  have : (y + 1) * w ≤ h * w := Nat.mul_le_mul_right w hy
  rw [Nat.succ_mul] at this
  omega
/-- keeps, cell by cell in the order of their numbers -/
theorem keeps_cells {s : Strip} (hw : 0 < s.w) (m : Motion) : keeps s m = true ↔ ∀ n, n < s.h * s.w → s.at_ (m.x ((n % s.w : Nat) : Int)) (m.y s.h (n / s.w)) = s.at_ ((n % s.w : Nat) : Int) (n / s.w) := by
  unfold keeps
  simp only [List.all_eq_true, List.mem_range, beq_iff_eq]
  constructor
  · intro h n hn
    exact h (n % s.w) (Nat.mod_lt _ hw) (n / s.w) (by rw [Nat.div_lt_iff_lt_mul hw]; exact hn)
  · intro h x hx y hy
    have e := h (y * s.w + x) (cell_lt hx hy)
    rw [cell_mod hx, cell_div hx] at e
    exact e
theorem keeps_no {s : Strip} (hw : 0 < s.w) {m : Motion} {n : Nat} (hn : n < s.h * s.w) (h : s.at_ (m.x ((n % s.w : Nat) : Int)) (m.y s.h (n / s.w)) ≠ s.at_ ((n % s.w : Nat) : Int) (n / s.w)) : keeps s m = false := by
  cases e : keeps s m with
  | false => rfl
  | true => exact absurd ((keeps_cells hw m).1 e n hn) h
theorem kind_x {kind : Nat} (h : kind < 4) (k x : Int) : (⟨kind, k⟩ : Motion).x x = mx (kf kind) k x := by rw [← mot_kind h, mot_x]
theorem kind_y {kind : Nat} (h : kind < 4) (k : Int) (n y : Nat) : (⟨kind, k⟩ : Motion).y n y = my (kv kind) n y := by rw [← mot_kind h, mot_y]
end BM

end

section
/-! Cells that one comes to from one another: reachability by motions goes both ways; the least of those reached. -/
set_option autoImplicit false
namespace BM
open Wp01
/-- where a motion takes a cell, by its number -/
def act (w h : Nat) (f v : Bool) (k : Int) (c : Nat) : Nat := cellAt w (mx f k ((c % w : Nat) : Int)) (my v h (c / w))
theorem act_lt {w h : Nat} (hw : 0 < w) {f v : Bool} {k : Int} {c : Nat} (hc : c < h * w) : act w h f v k c < h * w :=
  cellAt_lt hw (my_lt (by rw [Nat.div_lt_iff_lt_mul hw]; exact hc))
theorem act_act {w h : Nat} (hw : 0 < w) {f v g u : Bool} {k l : Int} {c : Nat} (hc : c < h * w) : act w h f v k (act w h g u l c) = act w h (f != g) (v != u) (if f then k - l else l + k) c := by
  unfold act
  rw [cellAt_div hw, my_comp (by rw [Nat.div_lt_iff_lt_mul hw]; exact hc), cellAt_mod hw]
  apply cellAt_congr
  rw [mx_mod, mx_comp]
theorem act_id {w h : Nat} {k : Int} (hk : (w : Int) ∣ k) (c : Nat) : act w h false false k c = c := by
  unfold act
  simp only [mx, my, Bool.false_eq_true, if_false]
  obtain ⟨z, rfl⟩ := hk
  rw [cellAt_congr (x' := ((c % w : Nat) : Int)) (by rw [Int.add_mul_emod_self_left])]
  exact cellAt_self c
theorem act_mem {w h : Nat} {f v : Bool} {k : Int} {ms : List Motion} (hm : mot f v k ∈ ms) (c : Nat) : act w h f v k c ∈ stepS w h ms c :=
  List.mem_map.2 ⟨_, hm, by rw [mot_x, mot_y]; rfl⟩
def odd (n : Nat) : Bool := n % 2 == 1
theorem odd_succ (n : Nat) : odd (n + 1) = !odd n := by
  unfold odd
  rcases Nat.mod_two_eq_zero_or_one n with h | h
  · have : (n + 1) % 2 = 1 := by omega
    rw [h, this]; rfl
  · have : (n + 1) % 2 = 0 := by omega
    rw [h, this]; rfl
/-- a way on (upside down or not), again and again -/
theorem reach_iter {w h : Nat} (hw : 0 < w) {v : Bool} {k : Int} {ms : List Motion} (hm : mot false v k ∈ ms) {c : Nat} (hc : c < h * w) : ∀ n : Nat, Reach (stepS w h ms) (act w h false v k c) (act w h false (v && odd (n + 1)) (k * ((n + 1 : Nat) : Int)) c)
  | 0 => by
    have e1 : (v && odd (0 + 1)) = v := by cases v <;> rfl
    have e2 : k * ((0 + 1 : Nat) : Int) = k := by simp
    rw [e1, e2]
    exact .refl _
  | n + 1 => by
    have e : act w h false (v && odd (n + 1 + 1)) (k * ((n + 1 + 1 : Nat) : Int)) c = act w h false v k (act w h false (v && odd (n + 1)) (k * ((n + 1 : Nat) : Int)) c) := by
      rw [act_act hw hc]
      have e1 : (v && odd (n + 1 + 1)) = (v != (v && odd (n + 1))) := by
        rw [odd_succ (n + 1)]
        cases v <;> cases odd (n + 1) <;> rfl
      have e2 : k * ((n + 1 + 1 : Nat) : Int) = (if false = true then k - k * ((n + 1 : Nat) : Int) else k * ((n + 1 : Nat) : Int) + k) := by
        simp only [Bool.false_eq_true, if_false]
        rw [Int.natCast_add (n + 1) 1, Int.mul_add]
        simp
      rw [e1, e2]
      rfl
    rw [e]
    exact .step (reach_iter hw hm hc n) (act_mem hm _)
/-- one step back -/
theorem reach_back {w h : Nat} (hw : 0 < w) {f v : Bool} {k : Int} {ms : List Motion} (hm : mot f v k ∈ ms) {c : Nat} (hc : c < h * w) : Reach (stepS w h ms) (act w h f v k c) c := by
  cases f with
  | true =>
    have e : act w h true v k (act w h true v k c) = c := by
      rw [act_act hw hc]
      have e1 : (v != v) = false := by cases v <;> rfl
      rw [e1]
      exact act_id (by simp) c
    have r : Reach (stepS w h ms) (act w h true v k c) (act w h true v k (act w h true v k c)) := .step (.refl _) (act_mem hm _)
    rw [e] at r
    exact r
  | false =>
    have r := reach_iter hw hm hc (2 * w - 1)
    have e0 : 2 * w - 1 + 1 = 2 * w := by omega
    rw [e0] at r
    have e1 : (v && odd (2 * w)) = false := by
      have : odd (2 * w) = false := by
        unfold odd
        have : 2 * w % 2 = 0 := by omega
        rw [this]; rfl
      rw [this]; cases v <;> rfl
    have e2 : act w h false (v && odd (2 * w)) (k * ((2 * w : Nat) : Int)) c = c := by
      rw [e1]
      refine act_id ⟨k * 2, ?_⟩ c
      rw [Int.natCast_mul, Int.mul_comm (w : Int), Int.mul_assoc]
      rfl
    rw [e2] at r
    exact r
theorem mot_of {m : Motion} (h : m.kind < 4) : mot (kf m.kind) (kv m.kind) m.k = m := mot_kind h m.k
theorem reach_lt {w h : Nat} (hw : 0 < w) {ms : List Motion} {c d : Nat} (hc : c < h * w) (r : Reach (stepS w h ms) c d) : d < h * w := by
  induction r with
  | refl => exact hc
  | step _ m ih => exact stepS_lt hw ms _ ih _ m
theorem reach_symm {w h : Nat} (hw : 0 < w) {ms : List Motion} (hk : ∀ m ∈ ms, m.kind < 4) {c d : Nat} (hc : c < h * w) (r : Reach (stepS w h ms) c d) : Reach (stepS w h ms) d c := by
  induction r with
  | refl => exact .refl _
  | step r1 hm ih =>
    obtain ⟨m, h1, rfl⟩ := List.mem_map.1 hm
    have hm' : mot (kf m.kind) (kv m.kind) m.k ∈ ms := by rw [mot_of (hk m h1)]; exact h1
    have b := reach_back hw hm' (reach_lt hw hc r1)
    unfold act at b
    rw [← mot_x (kf m.kind) (kv m.kind), ← mot_y (kf m.kind) (kv m.kind) m.k, mot_of (hk m h1)] at b
    exact b.trans ih
/-- the least number reached -/
def leastOf (w h : Nat) (ms : List Motion) (c : Nat) : Nat := (along w h ms c).foldl min c
theorem foldl_min_le : ∀ (l : List Nat) (a : Nat), l.foldl min a ≤ a ∧ ∀ x ∈ l, l.foldl min a ≤ x
  | [], a => ⟨Nat.le_refl _, fun x hx => by cases hx⟩
  | b :: l, a => by
    obtain ⟨h1, h2⟩ := foldl_min_le l (min a b)
    refine ⟨Nat.le_trans h1 (Nat.min_le_left _ _), fun x hx => ?_⟩
    rcases List.mem_cons.1 hx with e | e
    · rw [e]; exact Nat.le_trans h1 (Nat.min_le_right _ _)
    · exact h2 x e
theorem foldl_min_mem : ∀ (l : List Nat) (a : Nat), l.foldl min a = a ∨ l.foldl min a ∈ l
  | [], a => .inl rfl
  | b :: l, a => by
    show l.foldl min (min a b) = a ∨ l.foldl min (min a b) ∈ b :: l
    rcases foldl_min_mem l (min a b) with h | h
    · rw [h]
      by_cases c : a ≤ b
      · rw [Nat.min_eq_left c]; exact .inl rfl
      · rw [Nat.min_eq_right (by omega)]; exact .inr List.mem_cons_self
    · exact .inr (List.mem_cons_of_mem _ h)
theorem leastOf_reach {w h : Nat} (hw : 0 < w) {ms : List Motion} {c : Nat} (hc : c < h * w) : Reach (stepS w h ms) c (leastOf w h ms c) ∧ ∀ d, Reach (stepS w h ms) c d → leastOf w h ms c ≤ d := by
  obtain ⟨_, _, mem⟩ := along_spec hw ms hc
  refine ⟨?_, fun d hd => (foldl_min_le _ c).2 d ((mem d).2 hd)⟩
  rcases foldl_min_mem (along w h ms c) c with e | e
  · unfold leastOf; rw [e]; exact .refl _
  · exact (mem _).1 e
/-- it is told by: reached, and none less is -/
theorem leastOf_uniq {w h : Nat} (hw : 0 < w) {ms : List Motion} {c m : Nat} (hc : c < h * w) (h1 : Reach (stepS w h ms) c m) (h2 : ∀ d, Reach (stepS w h ms) c d → m ≤ d) : leastOf w h ms c = m := by
  obtain ⟨a, b⟩ := leastOf_reach hw (ms := ms) hc
  exact Nat.le_antisymm (b m h1) (h2 _ a)
/-- the same for all that one comes to from one another -/
theorem leastOf_same {w h : Nat} (hw : 0 < w) {ms : List Motion} (hk : ∀ m ∈ ms, m.kind < 4) {c d : Nat} (hc : c < h * w) (r : Reach (stepS w h ms) c d) : leastOf w h ms d = leastOf w h ms c := by
  obtain ⟨a, b⟩ := leastOf_reach hw (ms := ms) hc
  refine leastOf_uniq hw (reach_lt hw hc r) ((reach_symm hw hk hc r).trans a) fun e he => b e (r.trans he)
end BM

end

section
/-! What takes one strip to another, the first motion that does; make's motions; how many cells are reached. -/
set_option autoImplicit false
namespace BM
open Wp01
/-- each cell of s of u columns goes to one of its colour of o -/
def takesB (s o : Strip) (m : Motion) (u : Nat) : Bool := (List.range u).all fun (x : Nat) => (List.range s.h).all fun (y : Nat) => o.at_ (m.x (x : Int)) (m.y s.h y) == s.at_ (x : Int) y
theorem takes_cells {s o : Strip} {u : Nat} (hu : 0 < u) (m : Motion) : takesB s o m u = true ↔ ∀ n, n < s.h * u → o.at_ (m.x ((n % u : Nat) : Int)) (m.y s.h (n / u)) = s.at_ ((n % u : Nat) : Int) (n / u) := by
  unfold takesB
  simp only [List.all_eq_true, List.mem_range, beq_iff_eq]
  constructor
  · intro h n hn
    exact h (n % u) (Nat.mod_lt _ hu) (n / u) (by rw [Nat.div_lt_iff_lt_mul hu]; exact hn)
  · intro h x hx y hy
    have e := h (y * u + x) (cell_lt hx hy)
    rw [cell_mod hx, cell_div hx] at e
    exact e
theorem takes_no {s o : Strip} {u : Nat} (hu : 0 < u) {m : Motion} {n : Nat} (hn : n < s.h * u) (h : o.at_ (m.x ((n % u : Nat) : Int)) (m.y s.h (n / u)) ≠ s.at_ ((n % u : Nat) : Int) (n / u)) : takesB s o m u = false := by
  cases e : takesB s o m u with
  | false => rfl
  | true => exact absurd ((takes_cells hu m).1 e n hn) h
theorem takes_self (s : Strip) (m : Motion) : takesB s s m s.w = keeps s m := rfl

/-! ### The first motion -/
def pairsL (t : Nat) : List Motion := (List.range 4).flatMap fun (kind : Nat) => (List.range t).map fun (k : Nat) => (⟨kind, (k : Int)⟩ : Motion)
theorem find_at {α : Type} {p : α → Bool} {A B : List α} {x : α} (h : ∀ a ∈ A, p a = false) (hx : p x = true) : (A ++ x :: B).find? p = some x := by
  induction A with
  | nil => rw [List.nil_append, List.find?_cons, hx]
  | cons a r ih =>
    rw [List.cons_append, List.find?_cons, h a List.mem_cons_self]
    exact ih fun b hb => h b (List.mem_cons_of_mem _ hb)
theorem range_cut {k t : Nat} (h : k < t) : ∃ B, List.range t = List.range k ++ k :: B := by
  obtain ⟨m, rfl⟩ : ∃ m, t = k + (m + 1) := ⟨t - k - 1, by omega⟩
  rw [List.range_add, List.range_succ_eq_map, List.map_cons]
  exact ⟨_, rfl⟩
theorem first_some {p : Motion → Bool} {t kind k : Nat} (h4 : kind < 4) (hk : k < t) (hp : p ⟨kind, (k : Int)⟩ = true) (h1 : ∀ kd, kd < kind → ∀ j : Nat, j < t → p ⟨kd, (j : Int)⟩ = false) (h2 : ∀ j : Nat, j < k → p ⟨kind, (j : Int)⟩ = false) :
    (pairsL t).find? p = some ⟨kind, (k : Int)⟩ := by
  obtain ⟨B, hB⟩ := range_cut h4
  obtain ⟨E, hE⟩ := range_cut hk
  have e : pairsL t = (((List.range kind).flatMap fun (kind : Nat) => (List.range t).map fun (k : Nat) => (⟨kind, (k : Int)⟩ : Motion)) ++ (List.range k).map fun (k : Nat) => (⟨kind, (k : Int)⟩ : Motion)) ++ (⟨kind, (k : Int)⟩ : Motion) :: ((E.map fun (k : Nat) => (⟨kind, (k : Int)⟩ : Motion)) ++ (B.flatMap fun (kind : Nat) => (List.range t).map fun (k : Nat) => (⟨kind, (k : Int)⟩ : Motion))) := by
    unfold pairsL
    rw [hB, List.flatMap_append, List.flatMap_cons]
    conv => lhs; rhs; lhs; rw [hE]
    simp
  rw [e]
  refine find_at (fun a ha => ?_) hp
  rcases List.mem_append.1 ha with ha | ha
  · simp only [List.mem_flatMap, List.mem_range, List.mem_map] at ha
    obtain ⟨kd, hkd, j, hj, rfl⟩ := ha
    exact h1 kd hkd j hj
  · simp only [List.mem_range, List.mem_map] at ha
    obtain ⟨j, hj, rfl⟩ := ha
    exact h2 j hj
theorem first_none {p : Motion → Bool} {t : Nat} (h : ∀ kd, kd < 4 → ∀ j : Nat, j < t → p ⟨kd, (j : Int)⟩ = false) : (pairsL t).find? p = none := by
  rw [List.find?_eq_none]
  intro a ha
  unfold pairsL at ha
  simp only [List.mem_flatMap, List.mem_range, List.mem_map] at ha
  obtain ⟨kd, hkd, j, hj, rfl⟩ := ha
  rw [h kd hkd j hj]
  decide

/-! ### make's motions -/
theorem stepS_app (w h : Nat) (a b : List Motion) (c : Nat) : stepS w h (a ++ b) c = stepS w h a c ++ stepS w h b c := List.map_append
theorem reach_into {R S : Nat → List Nat} {N : Nat} (hR : ∀ c, c < N → ∀ d ∈ R c, d < N) (h : ∀ c, c < N → ∀ d ∈ R c, Reach S c d) {c d : Nat} (hc : c < N) (r : Reach R c d) : d < N ∧ Reach S c d := by
  induction r with
  | refl => exact ⟨hc, .refl _⟩
  | step _ m ih => exact ⟨hR _ ih.1 _ m, ih.2.trans (h _ ih.1 _ m)⟩
theorem reach_sub {R S : Nat → List Nat} (h : ∀ c d, d ∈ R c → d ∈ S c) {c d : Nat} (r : Reach R c d) : Reach S c d := by
  induction r with
  | refl => exact .refl _
  | step _ m ih => exact .step ih (h _ _ m)
theorem make_reach {s : Strip} (hw : 0 < s.w) {ps : List Motion} (hp : ∀ c d, d ∈ stepS s.w s.h ps c ↔ Orb s s.w c d) (m : Motion) {c d : Nat} (hc : c < s.h * s.w) :
    Reach (stepS s.w s.h (ps ++ [m])) c d ↔ Reach (stepS s.w s.h (all s ++ [⟨0, nat (period s)⟩, m])) c d := by
  have e : all s ++ [⟨0, nat (period s)⟩, m] = (all s ++ [⟨0, nat (period s)⟩]) ++ [m] := by simp
  rw [e]
  constructor
  · refine fun r => (reach_into (stepS_lt hw _) (fun a ha b hb => ?_) hc r).2
    rw [stepS_app, List.mem_append] at hb
    rcases hb with hb | hb
    · have r1 := ((along_spec hw _ ha).2.2 b).1 ((along_told hw ha b).2 ((hp a b).1 hb))
      exact reach_sub (fun x y hy => by rw [stepS_app]; exact List.mem_append_left _ hy) r1
    · exact .step (.refl _) (by rw [stepS_app]; exact List.mem_append_right _ hb)
  · refine fun r => (reach_into (stepS_lt hw _) (fun a ha b hb => ?_) hc r).2
    rw [stepS_app, List.mem_append] at hb
    refine .step (.refl _) ?_
    rw [stepS_app, List.mem_append]
    rcases hb with hb | hb
    · exact .inl ((hp a b).2 ((along_told hw ha b).1 (((along_spec hw _ ha).2.2 b).2 (.step (.refl _) hb))))
    · exact .inr hb

/-! ### How many are reached -/
theorem reach_rows {w h : Nat} (hw : 0 < w) {ms : List Motion} {c d : Nat} (hc : c < h * w) (r : Reach (stepS w h ms) c d) : d / w = c / w ∨ d / w = h - 1 - c / w := by
  have hy : c / w < h := by rw [Nat.div_lt_iff_lt_mul hw]; exact hc
  induction r with
  | refl => exact .inl rfl
  | @step d0 _ _ m ih =>
    obtain ⟨mm, _, rfl⟩ := List.mem_map.1 m
    rw [cellAt_div hw]
    unfold Motion.y
    generalize c / w = q at *
    generalize d0 / w = p at *
    split <;> omega
theorem reach_few {w h : Nat} (hw : 0 < w) {ms : List Motion} {c : Nat} (hc : c < h * w) {l : List Nat} (hn : l.Nodup) (hr : ∀ d ∈ l, Reach (stepS w h ms) c d) : l.length ≤ 2 * w := by
  have key : ∀ d y : Nat, d / w = y → d ∈ (List.range w).map fun x => y * w + x := by
    intro d y e
    refine List.mem_map.2 ⟨d % w, List.mem_range.2 (Nat.mod_lt _ hw), ?_⟩
    have := Nat.div_add_mod d w
    rw [e, Nat.mul_comm] at this
    exact this
  have := length_le_of_sub (m := ((List.range w).map fun x => (c / w) * w + x) ++ ((List.range w).map fun x => (h - 1 - c / w) * w + x)) hn (fun d hd => by
    rw [List.mem_append]
    rcases reach_rows hw hc (hr d hd) with e | e
    · exact .inl (key d _ e)
    · exact .inr (key d _ e))
  rw [List.length_append, List.length_map, List.length_map, List.length_range] at this
  omega
end BM

end

section
set_option Elab.async false
set_option linter.all false
set_option maxRecDepth 100000
set_option maxHeartbeats 2000000
/-! What the proofs of all defs share: a def by its promise (Has), values that stay (Ex), how strips and cells lie in the heap. -/
namespace B
open PySem L2 Evl

def top (i : Nat) : Stmt := PySem.Challenge.pw_borders_s01_answers.main.body.getD i (.Pass ⟨0, 0, 0, 0⟩)

/-! ### A def of the module by its promise -/
def Has (P : Program) (w : World) (K : PySem.W.Frag) (mg : Str → Option Value) (base : Heap) (x : Str) (ps : List Str) (k : Nat) (sp : Sp) : Prop :=
  ∃ (f : Addr) (fd : FuncData), FnOk P w K mg base CX0 k f fd ps sp ∧ mg x = some (.ref f) ∧ PySem.W.keepIn K (.ref f) = true ∧ Binds K fd ps []
section
variable {X : Cx} {x : Str} {ps : List Str} {k : Nat} {sp : Sp} {p pos : Pos} {e : Expr} {es : List Expr} {t : TA}
theorem pcall (G : Has X.prog X.w X.K X.mg X.base x ps k sp) (hr : Room k X.A) (hg : Gl X x) (ha : PA X (e :: es) t) (hdb : (x == ("__debug__" : Str)) = false := by decide)
    (he : starEach (e :: es) X.env = (false, eval e X.env) :: starEach es X.env := by rfl) (hpl : (backTo pos (starEach es X.env)).any (·.1) = false := by rfl) :
    PE X (.Call (.Name x p) (e :: es) [] pos) (tCall sp [] E0 t) := by
  obtain ⟨f, fd, ok, m, kp, b⟩ := G
  exact pe_call ok hr hg m kp b .nil pass0 ha hdb he hpl
end
section
variable {X : Cx} {x : Str} {v : V} {pos p : Pos} {ps : List Str} {k : Nat} {sp : Sp} {C : Addr} {e : Expr} {es : List Expr} {t : TA}
/-- a constant of the module -/
theorem pglob (hg : Gl X x) (h : ∃ u, X.mg x = some u ∧ RelV v u) (hd : (x == ("__debug__" : Str)) = false := by decide) : PE X (.Name x pos) (tC v) := by
  obtain ⟨u, h1, h2⟩ := h
  exact pe_glob hg h1 h2 hd
/-- a class of the module by its __init__'s promise -/
def HasC (P : Program) (w : World) (K : PySem.W.Frag) (mg : Str → Option Value) (base : Heap) (x : Str) (C : Addr) (ps : List Str) (k : Nat) (sp : Sp) : Prop :=
  ∃ (f : Addr) (fd : FuncData), Mk K C f ∧ FnOk P w K mg base CX0 k f fd ps sp ∧ mg x = some (.ref C) ∧ Binds K fd ps []
theorem pmake (G : HasC X.prog X.w X.K X.mg X.base x C ps k sp) (hr : Room (k + 1) X.A) (hg : Gl X x) (ha : PA X (e :: es) t) (hdb : (x == ("__debug__" : Str)) = false := by decide)
    (he : starEach (e :: es) X.env = (false, eval e X.env) :: starEach es X.env := by rfl) (hpl : (backTo pos (starEach es X.env)).any (·.1) = false := by rfl) :
    PE X (.Call (.Name x p) (e :: es) [] pos) (tMake C sp [] E0 t) := by
  obtain ⟨f, fd, M, ok, m, b⟩ := G
  exact pe_make M ok hr hg m b .nil pass0 ha hdb he hpl
theorem pmake0 (G : HasC X.prog X.w X.K X.mg X.base x C ps k sp) (hr : Room (k + 1) X.A) (hg : Gl X x) (hdb : (x == ("__debug__" : Str)) = false := by decide) :
    PE X (.Call (.Name x p) [] [] pos) (tMake C sp [] E0 tNil) := by
  obtain ⟨f, fd, M, ok, m, b⟩ := G
  exact pe_make0 M ok hr hg m b .nil pass0 hdb
theorem pcall0 (G : Has X.prog X.w X.K X.mg X.base x ps k sp) (hr : Room k X.A) (hg : Gl X x) (hdb : (x == ("__debug__" : Str)) = false := by decide) :
    PE X (.Call (.Name x p) [] [] pos) (tCall sp [] E0 tNil) := by
  obtain ⟨f, fd, ok, m, kp, b⟩ := G
  exact pe_call0 ok hr hg m kp b .nil pass0 hdb
end
theorem Has.mono {P : Program} {w : World} {K : PySem.W.Frag} {mg : Str → Option Value} {base : Heap} {x : Str} {ps : List Str} {j k : Nat} {sp : Sp} (G : Has P w K mg base x ps j sp) (h : j ≤ k) : Has P w K mg base x ps k sp := by
  obtain ⟨f, fd, ok, r⟩ := G
  exact ⟨f, fd, ok.mono h, r⟩

/-! ### Cells and strips in the heap -/
section
variable {K : PySem.W.Frag} {H H' : Hp}
/-- a pair of whole numbers -/
def PairV (K : PySem.W.Frag) (H : Hp) (v : V) (x y : Int) : Prop := ∃ a, v = .ref a ∧ SqT K H a [.int x, .int y]
theorem PairV.ex {v : V} {x y : Int} (e : Ex H H') (h : PairV K H v x y) : PairV K H' v x y := by
  obtain ⟨a, rfl, h⟩ := h
  exact ⟨a, rfl, ex_t e h⟩
def sF (h w : Int) (l : Addr) : List (Str × V) := [("h", .int h), ("w", .int w), ("colours", .ref l)]
/-- what holds of every strip that the program makes -/
structure Good (s : Wp01.Strip) : Prop where
  w0 : 0 < s.w
  w1 : s.w ≤ 12
  h0 : 0 < s.h
  h1 : s.h ≤ 6
  len : s.cells.length = s.h * s.w
  col : ∀ c ∈ s.cells, c ≤ 9
def nI (n : Nat) : V := .int (n : Int)
/-- a strip at an address: it is never changed -/
def StripA (K : PySem.W.Frag) (C : Addr) (H : Hp) (a : Addr) (s : Wp01.Strip) : Prop := ∃ dx l, H a = some (.ins C dx (sF s.h s.w l)) ∧ H l = some (.lst (s.cells.map nI)) ∧ Good s
theorem StripA.ex {C a : Addr} {s : Wp01.Strip} (e : Ex H H') (h : StripA K C H a s) : StripA K C H' a s := by
  obtain ⟨dx, l, h1, h2, h3⟩ := h
  exact ⟨dx, l, e _ _ h1, e _ _ h2, h3⟩
theorem lk_here {k : Str} {v : V} {r : List (Str × V)} : List.lookup k ((k, v) :: r) = some v := by
  have e : (k == k) = true := beq_self_eq_true k
  simp only [List.lookup, e]
theorem lk_past {k g : Str} {v : V} {r : List (Str × V)} (h : (k == g) = false) : List.lookup k ((g, v) :: r) = List.lookup k r := by
  simp only [List.lookup, h]
theorem sF_h {h w : Int} {l : Addr} : (sF h w l).lookup ("h" : Str) = some (.int h) := lk_here
theorem sF_w {h w : Int} {l : Addr} : (sF h w l).lookup ("w" : Str) = some (.int w) := (lk_past (by decide +kernel)).trans lk_here
theorem sF_c {h w : Int} {l : Addr} : (sF h w l).lookup ("colours" : Str) = some (.ref l) := (lk_past (by decide +kernel)).trans ((lk_past (by decide +kernel)).trans lk_here)
/-- the classes' facts -/
structure ClsS (K : PySem.W.Frag) (C : Addr) : Prop where
  cl : Cls K C
  nh : NoAttr K C "h"
  nw : NoAttr K C "w"
  nc : NoAttr K C "colours"
structure ClsL (K : PySem.W.Frag) (C : Addr) : Prop where
  cl : Cls K C
  ncur : NoAttr K C "current"
  nkept : NoAttr K C "kept"
  npast : NoAttr K C "past"
variable {C a : Addr} {s : Wp01.Strip} {σ : L2.St} {ta : TE}
/-! reading a strip's parts -/
theorem ev_h (T : ClsS K C) (h : StripA K C H a s) (v : Ev ta σ H (.ref a)) : Ev (tFld K ta "h") σ H (.int s.h) := fun H1 e Q q => v H1 e _ fun H2 e2 => by
  obtain ⟨dx, l, h1, _⟩ := h.ex (e.trans e2)
  exact ⟨a, C, dx, _, _, rfl, h1, T.cl, T.nh, sF_h, q H2 e2⟩
theorem ev_w (T : ClsS K C) (h : StripA K C H a s) (v : Ev ta σ H (.ref a)) : Ev (tFld K ta "w") σ H (.int s.w) := fun H1 e Q q => v H1 e _ fun H2 e2 => by
  obtain ⟨dx, l, h1, _⟩ := h.ex (e.trans e2)
  exact ⟨a, C, dx, _, _, rfl, h1, T.cl, T.nw, sF_w, q H2 e2⟩
end

/-! ### What the module's top has written -/
structure Txt (K : PySem.W.Frag) (mg : Str → Option Value) (C CL kA : Addr) : Prop where
  cs : ClsS K C
  ls : ClsL K CL
  b_len : mg "len" = none
  b_range : mg "range" = none
  b_enumerate : mg "enumerate" = none
  b_sorted : mg "sorted" = none
  b_all : mg "all" = none
  b_list : mg "list" = none
  c_STEP : ∃ u, mg "STEP" = some u ∧ RelV (.int 0) u
  c_MIRROR : ∃ u, mg "MIRROR" = some u ∧ RelV (.int 1) u
  c_FLIPPED_STEP : ∃ u, mg "FLIPPED_STEP" = some u ∧ RelV (.int 2) u
  c_HALF_TURN : ∃ u, mg "HALF_TURN" = some u ∧ RelV (.int 3) u
  c_MOST_ROWS : ∃ u, mg "MOST_ROWS" = some u ∧ RelV (.int 6) u
  c_MOST_COLUMNS : ∃ u, mg "MOST_COLUMNS" = some u ∧ RelV (.int 12) u
  c_MOST_COLOUR : ∃ u, mg "MOST_COLOUR" = some u ∧ RelV (.int 9) u
  c_HOW_MANY_COLOURS : ∃ u, mg "HOW_MANY_COLOURS" = some u ∧ RelV (.int 10) u
  c_FARTHEST : ∃ u, mg "FARTHEST" = some u ∧ RelV (.int 1000) u
  c_KINDS : ∃ u, mg "KINDS" = some u ∧ RelV (.ref kA) u
  kinds : ∀ H, SqT K H kA [.int 0, .int 1, .int 2, .int 3]

/-! ### Readings whose value is told by a word that stays -/
def EvR (te : TE) (σ : L2.St) (H : Hp) (P : V → Hp → Prop) : Prop := ∀ H1, Ex H H1 → ∀ Q : VK, (∀ v H2, Ex H1 H2 → P v H2 → Q v H2) → te σ H1 Q
/-- arguments, one after another -/
def EvAR (ta : TA) (σ : L2.St) (H : Hp) (P : List V → Hp → Prop) : Prop := ∀ H1, Ex H H1 → ∀ Q : List V → Hp → Prop, (∀ vs H2, Ex H1 H2 → P vs H2 → Q vs H2) → ta σ H1 Q
section
variable {σ : L2.St} {H H' : Hp} {te : TE} {ta tr : TA} {v : V} {P : V → Hp → Prop}
theorem Ev.r (h : Ev te σ H v) : EvR te σ H fun u _ => u = v := fun H1 e Q q => h H1 e _ fun H2 e2 => q v H2 e2 rfl
theorem EvR.mono (e : Ex H H') (h : EvR te σ H P) : EvR te σ H' P := fun H1 a Q q => h H1 (e.trans a) Q q
theorem EvR.imp {P' : V → Hp → Prop} (h : EvR te σ H P) (k : ∀ v H', P v H' → P' v H') : EvR te σ H P' := fun H1 a Q q => h H1 a Q fun v H2 e p => q v H2 e (k v H2 p)
theorem er_nil : EvAR tNil σ H fun vs _ => vs = [] := fun H1 _ _ q => q [] H1 (Ex.refl H1) rfl
theorem er_cons {R : List V → Hp → Prop} (h : EvR te σ H P) (st : ∀ v H1 H2, Ex H1 H2 → P v H1 → P v H2) (hr : ∀ H1, Ex H H1 → EvAR tr σ H1 R) : EvAR (tCons te tr) σ H fun vs H' => ∃ v r, vs = v :: r ∧ P v H' ∧ R r H' := fun H1 e _ q =>
  h H1 e _ fun v H2 e2 p => hr H2 (e.trans e2) H2 (Ex.refl H2) _ fun vs H3 e3 r => q _ H3 (e2.trans e3) ⟨v, vs, rfl, st v _ _ e3 p, r⟩
/-- a call by its promise -/
theorem er_call {sp : Sp} {A : List V → Hp → Prop} (h : EvAR ta σ H A) (hs : ∀ vs H1, Ex H H1 → A vs H1 → ∀ Q : VK, (∀ v H2, Ex H1 H2 → P v H2 → Q v H2) → sp (vs ++ []) H1 Q E0) : EvR (tCall sp [] E0 ta) σ H P := fun H1 e Q q =>
  h H1 e _ fun vs H2 e2 p => hs vs H2 (e.trans e2) p Q fun v H3 e3 r => q v H3 (e2.trans e3) r
theorem EvR.to (h : EvR te σ H fun u _ => u = v) : Ev te σ H v := fun H1 e Q q => h H1 e Q fun u H2 e2 p => by
  subst p
  exact q H2 e2
end
end B

end

section
set_option Elab.async false
set_option linter.all false
set_option maxRecDepth 100000
set_option maxHeartbeats 2000000
namespace B
open PySem L2 Evl
section
variable {P : Program} {w : World} {K : PySem.W.Frag} {mg : Str → Option Value} {base : Heap} {C CL kA : Addr}

/-! ### number_of -/
abbrev s_number_of : Stmt := top 14
abbrev N_number_of : List Str := ["cell", "width"]
theorem sc_number_of : FnScope N_number_of ["cell", "width"] (defScope s_number_of) := ⟨rfl, rfl, rfl, by decide +kernel, rfl, by decide +kernel, by decide +kernel⟩
def spNum (K : PySem.W.Frag) : Sp := fun vs H Q _ => ∃ (v : V) (x y u : Int), vs = [v, .int u] ∧ PairV K H v x y ∧ 0 < u ∧ (-(2 ^ 64) < y ∧ y < 2 ^ 64) ∧ Q (.int (y * u + x % u)) H
theorem ok_number_of {f : Addr} {fd : FuncData} (F : Fun K "number_of" "number_of" s_number_of f fd) : FnOk P w K mg base CX0 1 f fd ["cell", "width"] (spNum K) := by
  refine F.ok sc_number_of (fun vs H Q E h => ?_) (fun cdv A outer s H vs Q E hr h => ?_)
  · obtain ⟨v, x, y, u, rfl, _⟩ := h
    rfl
  · obtain ⟨v, x, y, u, rfl, ⟨a, rfl, hc⟩, hu, hy, k⟩ := h
    refine ⟨_, (pss_one (ps_ret (pe_op op_add (pe_op op_mul (pe_ix ix_tup (pv 0) pe_int (fun _ _ => rfl)) (pv 1)) (pe_op op_mod (pe_ix ix_tup (pv 0) pe_int (fun _ _ => rfl)) (pv 1))))), ?_⟩
    refine ⟨_, rfl, a, _, _, _, rfl, rfl, hc, atI_nat (j := 1) rfl, _, rfl, _, _, rfl, rfl, .inl hy, _, rfl, a, _, _, _, rfl, rfl, hc, atI_nat (j := 0) rfl, _, rfl, _, _, rfl, rfl, hu, _, _, rfl, rfl, k⟩

/-! ### colour_at -/
abbrev s_colour_at : Stmt := top 15
abbrev N_colour_at : List Str := ["strip", "cell"]
theorem sc_colour_at : FnScope N_colour_at ["strip", "cell"] (defScope s_colour_at) := ⟨rfl, rfl, rfl, by decide +kernel, rfl, by decide +kernel, by decide +kernel⟩
def spColour (K : PySem.W.Frag) (C : Addr) : Sp := fun vs H Q _ => ∃ (a : Addr) (v : V) (st : Wp01.Strip) (x : Int) (y : Nat), vs = [.ref a, v] ∧ StripA K C H a st ∧ PairV K H v x (y : Int) ∧ y < st.h ∧ Q (.int (st.at_ x y : Nat)) H
theorem at_get {st : Wp01.Strip} (g : Good st) {x : Int} {y : Nat} (hy : y < st.h) : ((st.cells.map nI)[(y * st.w + (x % (st.w : Int)).toNat)]?) = some (.int (st.at_ x y : Nat)) := by
  have hlt : y * st.w + (x % (st.w : Int)).toNat < st.cells.length := by
    rw [g.len]; exact BM.cellAt_lt (w := st.w) (h := st.h) g.w0 hy
  unfold Wp01.Strip.at_
  rw [List.getElem?_map, List.getD_eq_getElem?_getD, List.getElem?_eq_getElem hlt]
  rfl
theorem num_cast {y w : Nat} (hw : 0 < w) (x : Int) : (y : Int) * (w : Int) + x % (w : Int) = ((y * w + (x % (w : Int)).toNat : Nat) : Int) := by
  have h0 : 0 ≤ x % (w : Int) := Int.emod_nonneg _ (by omega)
  rw [Int.natCast_add, Int.natCast_mul, Int.toNat_of_nonneg h0]
theorem ok_colour_at {f : Addr} {fd : FuncData} (F : Fun K "colour_at" "colour_at" s_colour_at f fd) (T : Txt K mg C CL kA) (G_number_of : Has P w K mg base "number_of" ["cell", "width"] 1 (spNum K)) : FnOk P w K mg base CX0 2 f fd ["strip", "cell"] (spColour K C) := by
  refine F.ok sc_colour_at (fun vs H Q E h => ?_) (fun cdv A outer s H vs Q E hr h => ?_)
  · obtain ⟨a, v, st, x, y, rfl, _⟩ := h
    rfl
  · obtain ⟨a, v, st, x, y, rfl, ⟨dx, l, h1, h2, g⟩, hc, hy, k⟩ := h
    refine ⟨_, (pss_one (ps_ret (pe_ix ix_list (pe_fld (pv 0) rfl) (pcall G_number_of (hr.mono (by decide)) (by rfl) (pa_cons (pv 1) (pa_cons (pe_fld (pv 0) rfl) pa_nil))) (fun _ _ => rfl)))), ?_⟩
    have b1 := g.h1
    have b0 := g.w0
    refine ⟨_, rfl, a, C, dx, _, _, rfl, h1, T.cs.cl, T.cs.nc, sF_c, _, rfl, _, rfl, a, C, dx, _, _, rfl, h1, T.cs.cl, T.cs.nw, sF_w, v, x, y, st.w, rfl, hc, by omega, by omega, l, _, _, _, rfl, rfl, SqL.of h2, ?_, k⟩
    rw [num_cast g.w0]
    exact atI_nat (at_get g hy)

/-! ### moved -/
abbrev s_moved : Stmt := top 16
abbrev N_moved : List Str := ["kind", "k", "cell", "h", "x", "y"]
theorem sc_moved : FnScope N_moved ["kind", "k", "cell", "h"] (defScope s_moved) := ⟨rfl, rfl, rfl, by decide +kernel, rfl, by decide +kernel, by decide +kernel⟩
def spMoved (K : PySem.W.Frag) : Sp := fun vs H Q _ => ∃ (kind : Nat) (k : Int) (v : V) (x : Int) (h y : Nat), vs = [.int (kind : Int), .int k, v, .int (h : Int)] ∧ kind < 4 ∧ PairV K H v x (y : Int) ∧ y < h ∧
  ∀ u H', Ex H H' → PairV K H' u (BM.mx (BM.kf kind) k x) (BM.my (BM.kv kind) h y : Nat) → Q u H'
theorem ok_moved {f : Addr} {fd : FuncData} (F : Fun K "moved" "moved" s_moved f fd) (T : Txt K mg C CL kA) : FnOk P w K mg base CX0 1 f fd ["kind", "k", "cell", "h"] (spMoved K) := by
  refine F.ok sc_moved (fun vs H Q E h => ?_) (fun cdv A outer s H vs Q E hr h => ?_)
  · obtain ⟨kind, k, v, x, h, y, rfl, _⟩ := h
    rfl
  · obtain ⟨kind, k, v, x, h, y, rfl, h4, ⟨a, rfl, hc⟩, hy, q⟩ := h
    refine ⟨_, (pss_cons (ps_set (i := 4) sc_moved.nd rfl (Or.inl rfl) (pe_ix ix_tup (pv 2) pe_int (fun _ _ => rfl)))
      (pss_cons (ps_set (i := 5) sc_moved.nd rfl (Or.inl rfl) (pe_ix ix_tup (pv 2) pe_int (fun _ _ => rfl)))
      (pss_cons (ps_if (PW.pt (pw_or (pt_cmpR op_eq (pv 0) (pglob (by rfl) T.c_MIRROR) (nomark _)) (pw_or1 (pt_cmpR op_eq (pv 0) (pglob (by rfl) T.c_HALF_TURN) (nomark _))))) (pss_one (ps_set (i := 4) sc_moved.nd rfl (Or.inl rfl) (pe_un un_neg (pv 4)))) pss_nil)
      (pss_cons (ps_if (PW.pt (pw_or (pt_cmpR op_eq (pv 0) (pglob (by rfl) T.c_FLIPPED_STEP) (nomark _)) (pw_or1 (pt_cmpR op_eq (pv 0) (pglob (by rfl) T.c_HALF_TURN) (nomark _))))) (pss_one (ps_set (i := 5) sc_moved.nd rfl (Or.inl rfl) (pe_op op_sub (pe_op op_sub (pv 3) pe_int) (pv 5)))) pss_nil)
      (pss_one (ps_ret (pe_tup (pa_cons (pe_op op_add (pv 4) (pv 1)) (pa_cons (pv 5) pa_nil))))))))), ?_⟩
    refine ⟨_, rfl, a, _, _, _, rfl, rfl, hc, atI_nat (j := 0) rfl, _, rfl, a, _, _, _, rfl, rfl, hc, atI_nat (j := 1) rfl, ?_⟩
    have fin : ∀ (x' y' : Int), x' + k = BM.mx (BM.kf kind) k x → y' = ((BM.my (BM.kv kind) h y : Nat) : Int) → ∀ p, H p = none → Q (.ref p) (upd H p (.tup [.int (x' + k), .int y'])) := by
      intro x' y' e1 e2 p hp
      refine q _ _ (Ex.new hp) ⟨p, rfl, ?_⟩
      rw [← e1, ← e2]
      exact st_of upd_same
    match kind, h4 with
    | 0, _ =>
      refine ⟨_, rfl, rfl, _, rfl, iteF ⟨_, rfl, rfl, _, rfl, iteF ⟨_, rfl, rfl, _, rfl, iteF ⟨_, rfl, rfl, _, rfl, iteF ?_⟩⟩⟩⟩
      refine ⟨_, rfl, _, rfl, _, _, rfl, rfl, _, rfl, (by show 2 ≤ sizeLine; decide), fin _ _ rfl rfl⟩
    | 1, _ =>
      refine ⟨_, rfl, rfl, _, rfl, iteT ⟨_, rfl, _, rfl, ⟨_, rfl, rfl, _, rfl, iteF ⟨_, rfl, rfl, _, rfl, iteF ?_⟩⟩⟩⟩
      refine ⟨_, rfl, _, rfl, _, _, rfl, rfl, _, rfl, (by show 2 ≤ sizeLine; decide), fin _ _ (by show -x + k = k - x; omega) rfl⟩
    | 2, _ =>
      refine ⟨_, rfl, rfl, _, rfl, iteF ⟨_, rfl, rfl, _, rfl, iteF ⟨_, rfl, rfl, _, rfl, iteT ⟨_, rfl, _, _, rfl, rfl, _, rfl, _, _, rfl, rfl, ?_⟩⟩⟩⟩
      refine ⟨_, rfl, _, rfl, _, _, rfl, rfl, _, rfl, (by show 2 ≤ sizeLine; decide), fin _ _ rfl (by show (h : Int) - 1 - (y : Int) = ((h - 1 - y : Nat) : Int); omega)⟩
    | 3, _ =>
      refine ⟨_, rfl, rfl, _, rfl, iteF ⟨_, rfl, rfl, _, rfl, iteT ⟨_, rfl, _, rfl, ⟨_, rfl, rfl, _, rfl, iteF ⟨_, rfl, rfl, _, rfl, iteT ⟨_, rfl, _, _, rfl, rfl, _, rfl, _, _, rfl, rfl, ?_⟩⟩⟩⟩⟩⟩
      refine ⟨_, rfl, _, rfl, _, _, rfl, rfl, _, rfl, (by show 2 ≤ sizeLine; decide), fin _ _ (by show -x + k = k - x; omega) (by show (h : Int) - 1 - (y : Int) = ((h - 1 - y : Nat) : Int); omega)⟩
end
end B

end

section
set_option Elab.async false
set_option linter.all false
set_option maxRecDepth 100000
set_option maxHeartbeats 2000000
namespace B
open PySem L2 Evl
theorem yes_of {σ : L2.St} {H : Hp} {A B : Hp → Prop} (h : A H) : tYes σ H (fun b H' => if b = true then A H' else B H') := by
  show (if true = true then A H else B H)
  rw [if_pos rfl]
  exact h
/-- a tuple is not touched by a list's change -/
theorem sqt_upd {K : PySem.W.Frag} {H : Hp} {a D : Addr} {xs cs cs' : List V} (h : SqT K H a xs) (hD : H D = some (.lst cs)) : SqT K (upd H D (.lst cs')) a xs := by
  rcases h with (h | ⟨o, h⟩) | h
  · exact .inl (.inl (by rw [upd_ne (ne_of h hD (by intro z; cases z))]; exact h))
  · exact .inl (.inr ⟨o, by rw [upd_ne (ne_of h hD (by intro z; cases z))]; exact h⟩)
  · exact .inr h
theorem PairV.upd {K : PySem.W.Frag} {H : Hp} {D : Addr} {cs cs' : List V} {v : V} {x y : Int} (h : PairV K H v x y) (hD : H D = some (.lst cs)) : PairV K (L2.upd H D (.lst cs')) v x y := by
  obtain ⟨a, rfl, h⟩ := h
  exact ⟨a, rfl, sqt_upd h hD⟩
/-- the cells of u columns, the first n of them -/
def CellsAre (K : PySem.W.Frag) (H : Hp) (cs : List V) (n u : Nat) : Prop := cs.length = n ∧ ∀ i, i < n → ∃ v, cs[i]? = some v ∧ PairV K H v ((i % u : Nat) : Int) ((i / u : Nat) : Int)
theorem CellsAre.ex {K : PySem.W.Frag} {H H' : Hp} {cs : List V} {n u : Nat} (e : Ex H H') (h : CellsAre K H cs n u) : CellsAre K H' cs n u :=
  ⟨h.1, fun i hi => let ⟨v, h1, h2⟩ := h.2 i hi; ⟨v, h1, h2.ex e⟩⟩
theorem CellsAre.more {K : PySem.W.Frag} {H : Hp} {D : Addr} {cs : List V} {n u : Nat} {v : V} (h : CellsAre K H cs n u) (hD : H D = some (.lst cs)) (hv : PairV K H v ((n % u : Nat) : Int) ((n / u : Nat) : Int)) : CellsAre K (upd H D (.lst (cs ++ [v]))) (cs ++ [v]) (n + 1) u := by
  refine ⟨by rw [List.length_append, h.1]; rfl, fun i hi => ?_⟩
  by_cases c : i < n
  · obtain ⟨z, h1, h2⟩ := h.2 i c
    exact ⟨z, by rw [List.getElem?_append_left (by rw [h.1]; exact c)]; exact h1, h2.upd hD⟩
  · have e : i = n := by omega
    subst e
    exact ⟨v, by rw [List.getElem?_append_right (by rw [h.1]; exact Nat.le_refl _), h.1]; simp, hv.upd hD⟩
section
variable {P : Program} {w : World} {K : PySem.W.Frag} {mg : Str → Option Value} {base : Heap} {C CL kA : Addr}

/-! ### cells_within -/
abbrev s_cells_within : Stmt := top 13
abbrev N_cells_within : List Str := ["h", "width", "number"]
theorem sc_cells_within : FnScope N_cells_within ["h", "width"] (defScope s_cells_within) := ⟨rfl, rfl, rfl, by decide +kernel, rfl, by decide +kernel, by decide +kernel⟩
def spCells (K : PySem.W.Frag) : Sp := fun vs H Q _ => ∃ (h u : Nat), vs = [.int (h : Int), .int (u : Int)] ∧ h ≤ 6 ∧ 0 < u ∧ u ≤ 12 ∧
  ∀ p H' cs, H p = none → Ex H H' → H' p = some (.lst cs) → CellsAre K H' cs (h * u) u → Q (.ref p) H'
theorem ok_cells_within {f : Addr} {fd : FuncData} (F : Fun K "cells_within" "cells_within" s_cells_within f fd) (T : Txt K mg C CL kA) : FnOk P w K mg base CX0 1 f fd ["h", "width"] (spCells K) := by
  refine F.ok sc_cells_within (fun vs H Q E h => ?_) (fun cdv A outer s H vs Q E hr h => ?_)
  · obtain ⟨h, u, rfl, _⟩ := h
    rfl
  · obtain ⟨h, u, rfl, h6, u0, u1, q⟩ := h
    refine ⟨_, (pss_one (ps_ret (pe_lc (own := [("number", 2)]) (g := gName 2) (by rfl) sc_cells_within.nd (pi_range1 (by rfl) T.b_range (pa_cons (pe_op op_mul (pv 0) (pv 1)) pa_nil)) (blkOk_by (own := [("number", 2)]) (N := N_cells_within) (sc := defScope s_cells_within) (by decide +kernel)) (fun _ _ _ _ _ => (pg_name (i := 2) sc_cells_within.nd rfl (Or.inl rfl))) (fun _ _ _ _ _ => pts_nil) (fun _ _ _ _ _ => (pe_tup (pa_cons (pe_op op_mod (pv 2) (pv 1)) (pa_cons (pe_op op_fdiv (pv 2) (pv 1)) pa_nil))))))), ?_⟩
    have hn : (h : Int) * (u : Int) = ((h * u : Nat) : Int) := by rw [Int.natCast_mul]
    have hle : h * u ≤ 6 * 12 := Nat.mul_le_mul h6 u1
    refine ⟨_, rfl, _, rfl, _, _, rfl, rfl, .inl ⟨by omega, by omega⟩, _, rfl, by omega, by omega, fun D hD => ?_⟩
    refine lc_range (lo := 0) (n := ((h : Int) * (u : Int)).toNat) (fun i H' => Ex H H' ∧ ∃ cs, H' D = some (.lst cs) ∧ CellsAre K H' cs i u) ⟨Ex.new hD, [], upd_same, rfl, fun i hi => absurd hi (Nat.not_lt_zero i)⟩ ?_ ?_
    · rintro i H' hi ⟨e, cs, h1, h2⟩
      refine ⟨rfl, yes_of ?_⟩
      refine ⟨_, rfl, _, rfl, _, _, rfl, rfl, (by show (0 : Int) < (u : Int); omega), _, rfl, _, rfl, _, _, rfl, rfl, ⟨by omega, by omega⟩, (by show 2 ≤ sizeLine; decide), fun p hp => ?_⟩
      refine ⟨cs, Ex.new hp D _ h1, ?_, Ex.mut (e.trans (Ex.new hp)) hD, _, upd_same, ?_⟩
      · rw [h2.1]
        exact sz_lt (by omega)
      · refine (h2.ex (Ex.new hp)).more (Ex.new hp D _ h1) ⟨p, rfl, ?_⟩
        have e0 : (0 : Int) + (i : Int) = (i : Int) := Int.zero_add _
        rw [e0]
        exact st_of upd_same
    · rintro H' ⟨e, cs, h1, h2⟩
      refine q D H' cs hD e h1 ?_
      rw [hn] at h2
      exact h2
end
end B

end

section
set_option Elab.async false
set_option linter.all false
set_option maxRecDepth 100000
set_option maxHeartbeats 2000000
namespace B
open PySem L2 Evl
section
variable {P : Program} {w : World} {K : PySem.W.Frag} {mg : Str → Option Value} {base : Heap} {C CL kA : Addr}

/-! ### takes -/
abbrev s_takes : Stmt := top 17
abbrev N_takes : List Str := ["strip", "other", "kind", "k", "width", "cell"]
theorem sc_takes : FnScope N_takes ["strip", "other", "kind", "k", "width"] (defScope s_takes) := ⟨rfl, rfl, rfl, by decide +kernel, rfl, by decide +kernel, by decide +kernel⟩
def spTakes (K : PySem.W.Frag) (C : Addr) : Sp := fun vs H Q _ => ∃ (a b : Addr) (st ot : Wp01.Strip) (kind u : Nat) (k : Int), vs = [.ref a, .ref b, .int (kind : Int), .int k, .int (u : Int)] ∧ StripA K C H a st ∧ StripA K C H b ot ∧ ot.h = st.h ∧ kind < 4 ∧ 0 < u ∧ u ≤ 12 ∧ ∀ H', Ex H H' → Q (.bl (BM.takesB st ot ⟨kind, k⟩ u)) H'
theorem ok_takes {f : Addr} {fd : FuncData} (F : Fun K "takes" "takes" s_takes f fd) (T : Txt K mg C CL kA) (G_cells_within : Has P w K mg base "cells_within" ["h", "width"] 1 (spCells K))
    (G_colour_at : Has P w K mg base "colour_at" ["strip", "cell"] 2 (spColour K C)) (G_moved : Has P w K mg base "moved" ["kind", "k", "cell", "h"] 1 (spMoved K)) : FnOk P w K mg base CX0 3 f fd ["strip", "other", "kind", "k", "width"] (spTakes K C) := by
  refine F.ok sc_takes (fun vs H Q E h => ?_) (fun cdv A outer s H vs Q E hr h => ?_)
  · obtain ⟨a, b, st, ot, kind, u, k, rfl, _⟩ := h
    rfl
  · obtain ⟨a, b, st, ot, kind, u, k, rfl, hS, hO, hh, h4, u0, u12, q⟩ := h
    refine ⟨_, (pss_cons (ps_for PassesOwn.never rfl (pi_list (pcall G_cells_within (hr.mono (by decide)) (by rfl) (pa_cons (pe_fld (pv 0) rfl) (pa_cons (pv 4) pa_nil)))) (pg_name (i := 5) sc_takes.nd rfl (Or.inl rfl)) (pss_one (ps_if (pt_cmpR op_ne (pcall G_colour_at (hr.mono (by decide)) (by rfl) (pa_cons (pv 1) (pa_cons (pcall G_moved (hr.mono (by decide)) (by rfl) (pa_cons (pv 2) (pa_cons (pv 3) (pa_cons (pv 5) (pa_cons (pe_fld (pv 0) rfl) pa_nil))))) pa_nil))) (pcall G_colour_at (hr.mono (by decide)) (by rfl) (pa_cons (pv 0) (pa_cons (pv 5) pa_nil))) (nomark _)) (pss_one (ps_ret pe_bl)) pss_nil)))
      (pss_one (ps_ret pe_bl))), ?_⟩
    obtain ⟨dx, l, h1, h2, g⟩ := id hS
    refine ⟨_, rfl, a, C, dx, _, _, rfl, h1, T.cs.cl, T.cs.nh, sF_h, _, rfl, st.h, u, rfl, g.h1, u0, u12, fun p H1 cs hp e1 hL ca => ?_⟩
    refine ⟨p, rfl, ⟨_, SqL.of hL⟩, for_list (K := K) (a := p) (xs := cs) (fun i σ H' => (∃ v : Option V, σ = [some (.ref a), some (.ref b), some (.int (kind : Int)), some (.int k), some (.int (u : Int)), v]) ∧ Ex H1 H' ∧ ∀ n, n < i → ot.at_ ((⟨kind, k⟩ : Wp01.Motion).x ((n % u : Nat) : Int)) ((⟨kind, k⟩ : Wp01.Motion).y st.h (n / u)) = st.at_ ((n % u : Nat) : Int) (n / u))
      ⟨⟨none, rfl⟩, Ex.refl _, fun n hn => absurd hn (Nat.not_lt_zero n)⟩ (fun i σ H' _ hh => SqL.of (hh.2.1 _ _ hL)) ?_ ?_⟩
    · rintro i v σ H' hi ⟨⟨v0, rfl⟩, e2, all⟩
      have hil : i < st.h * u := by
        have := (List.getElem?_eq_some_iff.mp hi).1
        rw [ca.1] at this
        exact this
      obtain ⟨v', hv', pv'⟩ := ca.2 i hil
      rw [hi] at hv'
      cases hv'
      have pc := pv'.ex e2
      have hS2 := hS.ex (e1.trans e2)
      have hO2 := hO.ex (e1.trans e2)
      have hy : i / u < st.h := by rw [Nat.div_lt_iff_lt_mul u0]; exact hil
      obtain ⟨dx2, l2, g1, _⟩ := id hS2
      refine ⟨_, rfl, _, rfl, _, rfl, _, rfl, _, rfl, a, C, dx2, _, _, rfl, g1, T.cs.cl, T.cs.nh, sF_h, kind, k, v, ((i % u : Nat) : Int), st.h, i / u, rfl, h4, pc, hy, fun z H3 e3 pu => ?_⟩
      refine ⟨b, z, ot, _, _, rfl, hO2.ex e3, pu, by rw [hh]; exact BM.my_lt hy, ?_⟩
      refine ⟨_, rfl, _, rfl, a, v, st, _, _, rfl, hS2.ex e3, pc.ex e3, hy, rfl, _, rfl, ?_⟩
      rw [← BM.kind_x h4, ← BM.kind_y h4 k]
      by_cases c : ot.at_ ((⟨kind, k⟩ : Wp01.Motion).x ((i % u : Nat) : Int)) ((⟨kind, k⟩ : Wp01.Motion).y st.h (i / u)) = st.at_ ((i % u : Nat) : Int) (i / u)
      · rw [c]
        refine iteNS rfl ?_
        refine ⟨⟨_, rfl⟩, e2.trans e3, fun n hn => ?_⟩
        by_cases z : n = i
        · rw [z]; exact c
        · exact all n (by omega)
      · have d : (!decide (V.int ((ot.at_ ((⟨kind, k⟩ : Wp01.Motion).x ((i % u : Nat) : Int)) ((⟨kind, k⟩ : Wp01.Motion).y st.h (i / u)) : Nat) : Int) = V.int ((st.at_ ((i % u : Nat) : Int) (i / u) : Nat) : Int))) = true := by
          rw [decide_eq_false]
          · rfl
          · intro z
            injection z with z
            exact c (by omega)
        rw [d]
        refine iteT ?_
        have r := q H3 ((e1.trans e2).trans e3)
        rw [BM.takes_no u0 hil c] at r
        exact r
    · rintro σ H' ⟨⟨v0, rfl⟩, e2, all⟩
      have r := q H' (e1.trans e2)
      rw [ca.1] at all
      rw [(BM.takes_cells u0 _).2 all] at r
      exact r

/-! ### keeps -/
abbrev s_keeps : Stmt := top 18
abbrev N_keeps : List Str := ["strip", "kind", "k"]
theorem sc_keeps : FnScope N_keeps ["strip", "kind", "k"] (defScope s_keeps) := ⟨rfl, rfl, rfl, by decide +kernel, rfl, by decide +kernel, by decide +kernel⟩
def spKeeps (K : PySem.W.Frag) (C : Addr) : Sp := fun vs H Q _ => ∃ (a : Addr) (st : Wp01.Strip) (kind : Nat) (k : Int), vs = [.ref a, .int (kind : Int), .int k] ∧ StripA K C H a st ∧ kind < 4 ∧ ∀ H', Ex H H' → Q (.bl (Wp01.keeps st ⟨kind, k⟩)) H'
theorem ok_keeps {f : Addr} {fd : FuncData} (F : Fun K "keeps" "keeps" s_keeps f fd) (T : Txt K mg C CL kA) (G_takes : Has P w K mg base "takes" ["strip", "other", "kind", "k", "width"] 3 (spTakes K C)) : FnOk P w K mg base CX0 4 f fd ["strip", "kind", "k"] (spKeeps K C) := by
  refine F.ok sc_keeps (fun vs H Q E h => ?_) (fun cdv A outer s H vs Q E hr h => ?_)
  · obtain ⟨a, st, kind, k, rfl, _⟩ := h
    rfl
  · obtain ⟨a, st, kind, k, rfl, hS, h4, q⟩ := h
    refine ⟨_, (pss_one (ps_ret (pcall G_takes (hr.mono (by decide)) (by rfl) (pa_cons (pv 0) (pa_cons (pv 0) (pa_cons (pv 1) (pa_cons (pv 2) (pa_cons (pe_fld (pv 0) rfl) pa_nil)))))))), ?_⟩
    obtain ⟨dx, l, h1, h2, g⟩ := id hS
    exact ⟨_, rfl, _, rfl, _, rfl, _, rfl, _, rfl, a, C, dx, _, _, rfl, h1, T.cs.cl, T.cs.nw, sF_w, a, a, st, st, kind, st.w, k, rfl, hS, hS, rfl, h4, g.w0, g.w1, q⟩
end
end B

end

section
set_option Elab.async false
set_option linter.all false
set_option maxRecDepth 100000
set_option maxHeartbeats 2000000
namespace B
open PySem L2 Evl
/-- [k for k in range(u) if keeps(.., kind, k)] -/
def keepL (st : Wp01.Strip) (kind u : Nat) : List Nat := (List.range u).filter fun (k : Nat) => Wp01.keeps st ⟨kind, (k : Int)⟩
theorem keepL_le (st : Wp01.Strip) (kind u : Nat) : (keepL st kind u).length ≤ u := by
  have := List.length_filter_le (fun (k : Nat) => Wp01.keeps st ⟨kind, (k : Int)⟩) (List.range u)
  rw [List.length_range] at this
  exact this
theorem keepL_given (st : Wp01.Strip) (kind u : Nat) : given u (fun k => Wp01.keeps st ⟨kind, (k : Int)⟩) nI = (keepL st kind u).map nI := rfl
section
variable {P : Program} {w : World} {K : PySem.W.Frag} {mg : Str → Option Value} {base : Heap} {C CL kA : Addr}

/-! ### period -/
abbrev s_period : Stmt := top 19
abbrev N_period : List Str := ["strip", "k"]
theorem sc_period : FnScope N_period ["strip"] (defScope s_period) := ⟨rfl, rfl, rfl, by decide +kernel, rfl, by decide +kernel, by decide +kernel⟩
def spPeriod (K : PySem.W.Frag) (C : Addr) : Sp := fun vs H Q _ => ∃ (a : Addr) (st : Wp01.Strip), vs = [.ref a] ∧ StripA K C H a st ∧ ∀ H', Ex H H' → Q (nI (Wp01.period st)) H'
theorem ok_period {f : Addr} {fd : FuncData} (F : Fun K "period" "period" s_period f fd) (T : Txt K mg C CL kA) (G_keeps : Has P w K mg base "keeps" ["strip", "kind", "k"] 4 (spKeeps K C)) : FnOk P w K mg base CX0 5 f fd ["strip"] (spPeriod K C) := by
  refine F.ok sc_period (fun vs H Q E h => ?_) (fun cdv A outer s H vs Q E hr h => ?_)
  · obtain ⟨a, st, rfl, _⟩ := h
    rfl
  · obtain ⟨a, st, rfl, hS, q⟩ := h
    obtain ⟨_, _, _, _, g⟩ := id hS
    have Pp := BM.period_per g.w0
    have kp : ∀ k : Nat, Wp01.keeps st ⟨0, (k : Int)⟩ = true ↔ BM.K st false false (k : Int) := fun k => BM.keepsK g.w0 (kind := 0) (by decide) (k : Int)
    refine ⟨_, (pss_cons (ps_set (i := 1) sc_period.nd rfl (Or.inl rfl) pe_int)
      (pss_cons (ps_while PassesOwn.never (pt_not (pt_val (pcall G_keeps (hr.mono (by decide)) (by rfl) (pa_cons (pv 0) (pa_cons (pglob (by rfl) T.c_STEP) (pa_cons (pv 1) pa_nil)))))) (pss_one (ps_aug (i := 1) sc_period.nd rfl (Or.inl rfl) pe_int ip_add)))
      (pss_one (ps_ret (pv 1))))), ?_⟩
    refine q_asg ev_c fun H1 e1 => ?_
    have pos := Pp.pos
    refine q_while (fun m σ H' => ∃ k : Nat, 1 ≤ k ∧ k ≤ Wp01.period st ∧ m = Wp01.period st - k ∧ σ = [some (.ref a), some (nI k)] ∧ Ex H H') (Wp01.period st - 1) ⟨1, by omega, by omega, rfl, rfl, e1⟩ ?_
    rintro m σ' H' ⟨k, k1, k2, rfl, rfl, e2⟩
    refine ⟨!(Wp01.keeps st ⟨0, (k : Int)⟩), et_not (et_B (ev_call (ea_cons (ev_var rfl) (ea_cons ev_c (ea_cons (ev_var rfl) ea_nil))) fun H3 e3 Q' q' E' => ⟨a, st, 0, (k : Int), rfl, hS.ex (e2.trans e3), by decide, q'⟩)), fun hb H3 e3 => ?_, fun hb H3 e3 => ?_⟩
    · have hf : ¬ Wp01.keeps st ⟨0, (k : Int)⟩ = true := fun z => by rw [z] at hb; cases hb
      have hk : k < Wp01.period st := by
        by_cases z : k = Wp01.period st
        · exact absurd ((kp k).2 (by rw [z]; exact Pp.keeps)) hf
        · omega
      refine ⟨fun σ2 H2 => σ2 = [some (.ref a), some (nI (k + 1))] ∧ Ex H H2, fun σ2 H2 ⟨z1, z2⟩ => ⟨Wp01.period st - (k + 1), by omega, k + 1, by omega, by omega, rfl, z1, z2⟩, ?_⟩
      refine s_aug (a := (k : Int)) (b := 1) rfl ev_c fun H4 e4 => ⟨rfl, (e2.trans e3).trans e4⟩
    · have hf : Wp01.keeps st ⟨0, (k : Int)⟩ = true := by
        cases z : Wp01.keeps st ⟨0, (k : Int)⟩ with
        | true => rfl
        | false => rw [z] at hb; cases hb
      have hk : k = Wp01.period st := by
        by_cases z : k < Wp01.period st
        · exact absurd ((kp k).1 hf) (Pp.least k (by omega) z)
        · omega
      refine s_ret (ev_var rfl) fun H4 e4 => ?_
      have r := q H4 ((e2.trans e3).trans e4)
      rw [← hk] at r
      exact r

/-! ### keeping -/
abbrev s_keeping : Stmt := top 20
abbrev N_keeping : List Str := ["strip", "kind", "width", "k"]
theorem sc_keeping : FnScope N_keeping ["strip", "kind", "width"] (defScope s_keeping) := ⟨rfl, rfl, rfl, by decide +kernel, rfl, by decide +kernel, by decide +kernel⟩
def spKeeping (K : PySem.W.Frag) (C : Addr) : Sp := fun vs H Q _ => ∃ (a : Addr) (st : Wp01.Strip) (kind u : Nat), vs = [.ref a, .int (kind : Int), .int (u : Int)] ∧ StripA K C H a st ∧ kind < 4 ∧ u ≤ 12 ∧
  ∀ p H', H p = none → Ex H H' → H' p = some (.lst ((keepL st kind u).map nI)) → Q (.ref p) H'
theorem ok_keeping {f : Addr} {fd : FuncData} (F : Fun K "keeping" "keeping" s_keeping f fd) (T : Txt K mg C CL kA) (G_keeps : Has P w K mg base "keeps" ["strip", "kind", "k"] 4 (spKeeps K C)) : FnOk P w K mg base CX0 5 f fd ["strip", "kind", "width"] (spKeeping K C) := by
  refine F.ok sc_keeping (fun vs H Q E h => ?_) (fun cdv A outer s H vs Q E hr h => ?_)
  · obtain ⟨a, st, kind, u, rfl, _⟩ := h
    rfl
  · obtain ⟨a, st, kind, u, rfl, hS, h4, u1, q⟩ := h
    refine ⟨_, (pss_one (ps_ret (pe_lc (own := [("k", 3)]) (g := gName 3) (by rfl) sc_keeping.nd (pi_range1 (by rfl) T.b_range (pa_cons (pv 2) pa_nil)) (blkOk_by (own := [("k", 3)]) (N := N_keeping) (sc := defScope s_keeping) (by decide +kernel)) (fun _ _ _ _ _ => (pg_name (i := 3) sc_keeping.nd rfl (Or.inl rfl))) (fun _ _ _ _ _ => pts_one (pt_val (pcall G_keeps (hr.mono (by decide)) (by rfl) (pa_cons (pv 0) (pa_cons (pv 1) (pa_cons (pv 3) pa_nil)))))) (fun _ _ _ _ _ => (pv 3))))), ?_⟩
    refine s_retL (xs := (keepL st kind u).map nI) ?_ fun p H1 hp e1 hL => q p H1 hp e1 hL
    refine el_lcR1 (n := (u : Int)) (fun k => Wp01.keeps st ⟨kind, (k : Int)⟩) nI (ea_cons (ev_var rfl) ea_nil) (by omega) (fun x => rfl) (fun i H1 e1 hi => ?_) (fun i H1 e1 hi _ => ?_)
    · exact et_B (ev_call (ea_cons (ev_var rfl) (ea_cons (ev_var rfl) (ea_cons (ev_var rfl) ea_nil))) fun H3 e3 Q' q' E' => ⟨a, st, kind, (i : Int), rfl, hS.ex (e1.trans e3), h4, q'⟩)
    · exact ev_var rfl
end
end B

end

section
set_option Elab.async false
set_option linter.all false
set_option maxRecDepth 100000
set_option maxHeartbeats 2000000
namespace B
open PySem L2 Evl
/-- a list of pairs of whole numbers -/
def PairsAre (K : PySem.W.Frag) (H : Hp) (vs : List V) (L : List (Nat × Int)) : Prop := vs.length = L.length ∧ ∀ (i : Nat) (p : Nat × Int), L[i]? = some p → ∃ v, vs[i]? = some v ∧ PairV K H v (p.1 : Int) (p.2 : Int)
theorem PairsAre.nil {K : PySem.W.Frag} {H : Hp} : PairsAre K H [] [] := ⟨rfl, fun i p h => by simp at h⟩
theorem PairsAre.ex {K : PySem.W.Frag} {H H' : Hp} {vs : List V} {L : List (Nat × Int)} (e : Ex H H') (h : PairsAre K H vs L) : PairsAre K H' vs L :=
  ⟨h.1, fun i p hi => let ⟨v, h1, h2⟩ := h.2 i p hi; ⟨v, h1, h2.ex e⟩⟩
theorem PairsAre.more {K : PySem.W.Frag} {H : Hp} {D : Addr} {vs : List V} {L : List (Nat × Int)} {v : V} {p : Nat × Int} (h : PairsAre K H vs L) (hD : H D = some (.lst vs)) (hv : PairV K H v (p.1 : Int) (p.2 : Int)) : PairsAre K (upd H D (.lst (vs ++ [v]))) (vs ++ [v]) (L ++ [p]) := by
  refine ⟨by rw [List.length_append, List.length_append, h.1]; rfl, fun i z hi => ?_⟩
  by_cases c : i < L.length
  · rw [List.getElem?_append_left c] at hi
    obtain ⟨u, h1, h2⟩ := h.2 i z hi
    exact ⟨u, by rw [List.getElem?_append_left (by rw [h.1]; exact c)]; exact h1, h2.upd hD⟩
  · have l1 := (List.getElem?_eq_some_iff.mp hi).1
    rw [List.length_append, List.length_singleton] at l1
    have e : i = L.length := by omega
    subst e
    rw [List.getElem?_append_right (Nat.le_refl _), Nat.sub_self] at hi
    cases hi
    exact ⟨v, by rw [List.getElem?_append_right (by rw [h.1]; exact Nat.le_refl _), h.1, Nat.sub_self]; rfl, hv.upd hD⟩
/-- the strip's motions with numbers below u -/
def motsN (st : Wp01.Strip) (u n : Nat) : List (Nat × Int) := (List.range n).flatMap fun kind => (keepL st kind u).map fun (k : Nat) => (kind, (k : Int))
theorem motsN_succ (st : Wp01.Strip) (u n : Nat) : motsN st u (n + 1) = motsN st u n ++ (keepL st n u).map fun (k : Nat) => (n, (k : Int)) := by
  unfold motsN
  rw [List.range_succ, List.flatMap_append]
  simp
theorem motsN_le (st : Wp01.Strip) (u : Nat) : ∀ n, (motsN st u n).length ≤ n * u
  | 0 => by simp [motsN]
  | n + 1 => by
    have h1 := motsN_le st u n
    have h2 := keepL_le st n u
    rw [motsN_succ, List.length_append, List.length_map, Nat.succ_mul]
    omega
theorem take_map_more {α β : Type} {f : α → β} {l : List α} {j : Nat} {x : α} (h : l[j]? = some x) : (l.take (j + 1)).map f = (l.take j).map f ++ [f x] := by
  rw [List.take_add_one, h]
  simp
section
variable {P : Program} {w : World} {K : PySem.W.Frag} {mg : Str → Option Value} {base : Heap} {C CL kA : Addr}

/-! ### motions_within -/
abbrev s_motions_within : Stmt := top 21
abbrev N_motions_within : List Str := ["strip", "width", "found", "kind", "k"]
theorem sc_motions_within : FnScope N_motions_within ["strip", "width"] (defScope s_motions_within) := ⟨rfl, rfl, rfl, by decide +kernel, rfl, by decide +kernel, by decide +kernel⟩
def spMotions (K : PySem.W.Frag) (C : Addr) : Sp := fun vs H Q _ => ∃ (a : Addr) (st : Wp01.Strip) (u : Nat), vs = [.ref a, .int (u : Int)] ∧ StripA K C H a st ∧ u ≤ 12 ∧
  ∀ p H' ms, H p = none → Ex H H' → H' p = some (.lst ms) → PairsAre K H' ms (motsN st u 4) → Q (.ref p) H'
theorem ok_motions_within {f : Addr} {fd : FuncData} (F : Fun K "motions_within" "motions_within" s_motions_within f fd) (T : Txt K mg C CL kA) (G_keeping : Has P w K mg base "keeping" ["strip", "kind", "width"] 5 (spKeeping K C)) : FnOk P w K mg base CX0 6 f fd ["strip", "width"] (spMotions K C) := by
  refine F.ok sc_motions_within (fun vs H Q E h => ?_) (fun cdv A outer s H vs Q E hr h => ?_)
  · obtain ⟨a, st, u, rfl, _⟩ := h
    rfl
  · obtain ⟨a, st, u, rfl, hS, u1, q⟩ := h
    refine ⟨_, (pss_cons (ps_set (i := 2) sc_motions_within.nd rfl (Or.inl rfl) (pe_lst pa_nil))
      (pss_cons (ps_for PassesOwn.never rfl (pi_tup (pglob (by rfl) T.c_KINDS)) (pg_name (i := 3) sc_motions_within.nd rfl (Or.inl rfl)) (pss_one (ps_for PassesOwn.never rfl (pi_list (pcall G_keeping (hr.mono (by decide)) (by rfl) (pa_cons (pv 0) (pa_cons (pv 3) (pa_cons (pv 1) pa_nil))))) (pg_name (i := 4) sc_motions_within.nd rfl (Or.inl rfl)) (pss_one (ps_expr (pe_bm PySem.F.plainAttrs_list PySem.F.slot_list_append PySem.F.type_list_append mt_append (pv 2) (pa_cons (pe_tup (pa_cons (pv 3) (pa_cons (pv 4) pa_nil))) pa_nil)))))))
      (pss_one (ps_ret (pv 2))))), ?_⟩
    refine q_asgL (xs := []) (el_lst ea_nil (by decide)) fun D H1 hD e1 h1 => ?_
    refine q_forT (a := kA) (xs := [.int 0, .int 1, .int 2, .int 3]) ev_c (T.kinds _) (fun i σ H' => (∃ v1 v2 : Option V, σ = [some (.ref a), some (.int (u : Int)), some (.ref D), v1, v2]) ∧ Ex H H' ∧ ∃ ms, H' D = some (.lst ms) ∧ PairsAre K H' ms (motsN st u i))
      (fun H2 e2 => ⟨⟨none, none, rfl⟩, e1.trans e2, [], e2 _ _ h1, PairsAre.nil⟩) (fun i σ' H' _ _ => T.kinds _) ?_ ?_
    · rintro kind x σ' H' hi ⟨⟨v1, v2, rfl⟩, e2, ms, h2, h3⟩
      have h4 : kind < 4 := (List.getElem?_eq_some_iff.mp hi).1
      have hx : x = .int (kind : Int) := by
        match kind, h4 with
        | 0, _ => exact (Option.some.inj hi).symm
        | 1, _ => exact (Option.some.inj hi).symm
        | 2, _ => exact (Option.some.inj hi).symm
        | 3, _ => exact (Option.some.inj hi).symm
      subst hx
      refine s_forNL (xs := (keepL st kind u).map nI) (el_call (ea_cons (ev_var rfl) (ea_cons (ev_var rfl) (ea_cons (ev_var rfl) ea_nil))) fun H3 e3 Q' q' E' => ⟨a, st, kind, u, rfl, hS.ex (e2.trans e3), h4, u1, q'⟩)
        (fun p j σ2 H4 => (∃ v2 : Option V, σ2 = [some (.ref a), some (.int (u : Int)), some (.ref D), some (.int (kind : Int)), v2]) ∧ p ≠ D ∧ Ex H H4 ∧ H4 p = some (.lst ((keepL st kind u).map nI)) ∧ ∃ ms, H4 D = some (.lst ms) ∧ PairsAre K H4 ms (motsN st u kind ++ ((keepL st kind u).take j).map fun (k : Nat) => (kind, (k : Int))))
        (fun p H4 hp e4 h4' => ⟨⟨_, rfl⟩, (ne_of_none h2 hp).symm, e2.trans e4, h4', ms, e4 _ _ h2, by rw [List.take_zero, List.map_nil, List.append_nil]; exact h3.ex e4⟩)
        (fun p j σ2 H4 _ z => sq_of z.2.2.2.1) ?_ ?_
      · rintro p j x σ2 H4 hj ⟨⟨v3, rfl⟩, npD, e4, hp, ms4, h5, h6⟩
        rw [List.getElem?_map] at hj
        cases hk : (keepL st kind u)[j]? with
        | none => rw [hk] at hj; cases hj
        | some k =>
          rw [hk] at hj
          cases hj
          have l6 := h6.1
          have lm := motsN_le st u kind
          have lk := keepL_le st kind u
          have lt : ((keepL st kind u).take j).length ≤ (keepL st kind u).length := List.length_take_le' _ _
          have l3 : kind * u ≤ 3 * 12 := Nat.mul_le_mul (by omega) u1
          rw [List.length_append, List.length_map] at l6
          refine s_appU (l := D) (xs := ms4) (ys := [.int (kind : Int), nI k]) h5 (ev_var rfl) (eu_tup (ea_cons (ev_var rfl) (ea_cons (ev_var rfl) ea_nil)) (by show 2 ≤ 100000; decide)) (by omega) fun t H5 ht e5 h7 => ?_
          refine ⟨⟨_, rfl⟩, npD, Ex.mut (e4.trans e5) hD, ?_, _, upd_same, ?_⟩
          · rw [upd_ne npD]
            exact e5 _ _ hp
          · rw [take_map_more hk, ← List.append_assoc]
            exact (h6.ex e5).more (e5 _ _ h5) ⟨t, rfl, st_of h7⟩
      · rintro p σ2 H4 ⟨⟨v3, rfl⟩, npD, e4, hp, ms4, h5, h6⟩
        refine ⟨⟨_, _, rfl⟩, e4, ms4, h5, ?_⟩
        rw [List.length_map, List.take_length] at h6
        rw [motsN_succ]
        exact h6
    · rintro σ' H' ⟨⟨v1, v2, rfl⟩, e2, ms, h2, h3⟩
      exact ⟨_, rfl, q D H' ms hD e2 h2 h3⟩
end
end B

end

section
set_option Elab.async false
set_option linter.all false
set_option maxRecDepth 100000
set_option maxHeartbeats 2000000
namespace B
open PySem L2 Evl
theorem keepL_of (st : Wp01.Strip) (kind : Nat) : keepL st kind (Wp01.period st) = Wp01.ofKind st kind := rfl
theorem inV_nI (l : List Nat) : inV (.int 0) (l.map nI) = decide (0 ∈ l) := by
  induction l with
  | nil => rfl
  | cons a r ih =>
    show ((a : Int) == 0 || inV (.int 0) (r.map nI)) = decide (0 ∈ a :: r)
    rw [ih]
    by_cases c : a = 0
    · subst c
      simp
    · have c' : ¬ (a : Int) = 0 := by omega
      have c2 : ¬ 0 = a := fun z => c z.symm
      simp [c', c2]
      exact fun z => absurd z c
theorem flat_nI (l : List Nat) : (l.map nI).all flatV = true := by
  simp [flatV, nI]
theorem empty_nI (l : List Nat) : (!(l.map nI).isEmpty) = decide (l ≠ []) := by
  cases l <;> rfl
/-- a list's truth -/
theorem et_truL {K : PySem.W.Frag} {σ : L2.St} {H : Hp} {ta : TE} {p : Addr} {xs : List V} (v : Ev ta σ H (.ref p)) (h : SqL K H p xs) : EvT (fun σ H Q => ta σ H fun x H' => ∃ k, TruV K x H' k ∧ Q k H') σ H (!xs.isEmpty) := fun H1 e Q q =>
  v H1 e _ fun H2 e2 => ⟨_, .inl ⟨xs, ex_l (e.trans e2) h, rfl⟩, q H2 e2⟩
section
variable {P : Program} {w : World} {K : PySem.W.Frag} {mg : Str → Option Value} {base : Heap} {C CL kA : Addr}

/-! ### sort_of -/
abbrev s_sort_of : Stmt := top 22
abbrev N_sort_of : List Str := ["strip", "t", "mirrors", "flipped_steps", "half_turns"]
theorem sc_sort_of : FnScope N_sort_of ["strip"] (defScope s_sort_of) := ⟨rfl, rfl, rfl, by decide +kernel, rfl, by decide +kernel, by decide +kernel⟩
def spSort (K : PySem.W.Frag) (C : Addr) : Sp := fun vs H Q _ => ∃ (a : Addr) (st : Wp01.Strip), vs = [.ref a] ∧ StripA K C H a st ∧ ∀ H', Ex H H' → Q (nI (Wp01.type st)) H'
theorem ok_sort_of {f : Addr} {fd : FuncData} (F : Fun K "sort_of" "sort_of" s_sort_of f fd) (T : Txt K mg C CL kA) (G_period : Has P w K mg base "period" ["strip"] 5 (spPeriod K C)) (G_keeping : Has P w K mg base "keeping" ["strip", "kind", "width"] 5 (spKeeping K C)) : FnOk P w K mg base CX0 6 f fd ["strip"] (spSort K C) := by
  refine F.ok sc_sort_of (fun vs H Q E h => ?_) (fun cdv A outer s H vs Q E hr h => ?_)
  · obtain ⟨a, st, rfl, _⟩ := h
    rfl
  · obtain ⟨a, st, rfl, hS, q⟩ := h
    obtain ⟨_, _, _, _, g⟩ := id hS
    have Pp := BM.period_per g.w0
    have p12 : Wp01.period st ≤ 12 := Nat.le_trans Pp.le g.w1
    rw [BM.type_sortOf g.w0] at q
    refine ⟨_, (pss_cons (ps_set (i := 1) sc_sort_of.nd rfl (Or.inl rfl) (pcall G_period (hr.mono (by decide)) (by rfl) (pa_cons (pv 0) pa_nil)))
      (pss_cons (ps_set (i := 2) sc_sort_of.nd rfl (Or.inl rfl) (pcall G_keeping (hr.mono (by decide)) (by rfl) (pa_cons (pv 0) (pa_cons (pglob (by rfl) T.c_MIRROR) (pa_cons (pv 1) pa_nil)))))
      (pss_cons (ps_set (i := 3) sc_sort_of.nd rfl (Or.inl rfl) (pcall G_keeping (hr.mono (by decide)) (by rfl) (pa_cons (pv 0) (pa_cons (pglob (by rfl) T.c_FLIPPED_STEP) (pa_cons (pv 1) pa_nil)))))
      (pss_cons (ps_set (i := 4) sc_sort_of.nd rfl (Or.inl rfl) (pcall G_keeping (hr.mono (by decide)) (by rfl) (pa_cons (pv 0) (pa_cons (pglob (by rfl) T.c_HALF_TURN) (pa_cons (pv 1) pa_nil)))))
      (pss_cons (ps_if (PW.pt (pw_and (pt_truth (pv 2) (by intro _; rfl)) (pw_and1 (pt_truth (pv 4) (by intro _; rfl))))) (pss_one (ps_ret (pe_ifExp (pt_cmpR op_in_seq pe_int (pv 3) (by rfl)) pe_int pe_int))) pss_nil)
      (pss_cons (ps_if (pt_truth (pv 3) (by intro _; rfl)) (pss_one (ps_ret (pe_ifExp (pt_cmpR op_in_seq pe_int (pv 3) (by rfl)) pe_int pe_int))) pss_nil)
      (pss_cons (ps_if (pt_truth (pv 4) (by intro _; rfl)) (pss_one (ps_ret pe_int)) pss_nil)
      (pss_one (ps_ret (pe_ifExp (pt_truth (pv 2) (by intro _; rfl)) pe_int pe_int)))))))))), ?_⟩
    refine q_asg (v := nI (Wp01.period st)) (ev_call (ea_cons (ev_var rfl) ea_nil) fun H3 e3 Q' q' E' => ⟨a, st, rfl, hS.ex e3, q'⟩) fun H1 e1 => ?_
    refine q_asgL (xs := (Wp01.ofKind st 1).map nI) (el_call (ea_cons (ev_var rfl) (ea_cons ev_c (ea_cons (ev_var rfl) ea_nil))) fun H3 e3 Q' q' E' => ⟨a, st, 1, _, rfl, hS.ex (e1.trans e3), by decide, p12, q'⟩) fun p1 H2 n1 e2 h1 => ?_
    refine q_asgL (xs := (Wp01.ofKind st 2).map nI) (el_call (ea_cons (ev_var rfl) (ea_cons ev_c (ea_cons (ev_var rfl) ea_nil))) fun H3 e3 Q' q' E' => ⟨a, st, 2, _, rfl, hS.ex ((e1.trans e2).trans e3), by decide, p12, q'⟩) fun p2 H3 n2 e3 h2 => ?_
    refine q_asgL (xs := (Wp01.ofKind st 3).map nI) (el_call (ea_cons (ev_var rfl) (ea_cons ev_c (ea_cons (ev_var rfl) ea_nil))) fun H4 e4 Q' q' E' => ⟨a, st, 3, _, rfl, hS.ex (((e1.trans e2).trans e3).trans e4), by decide, p12, q'⟩) fun p3 H4 n3 e4 h3 => ?_
    have g1 : SqL K H4 p1 ((Wp01.ofKind st 1).map nI) := sq_of (e4 _ _ (e3 _ _ h1))
    have g2 : SqL K H4 p2 ((Wp01.ofKind st 2).map nI) := sq_of (e4 _ _ h2)
    have g3 : SqL K H4 p3 ((Wp01.ofKind st 3).map nI) := sq_of h3
    have e14 := ((e1.trans e2).trans e3).trans e4
    have fin : ∀ (σ : L2.St) (H5 : Hp) (ta tb : TE) (x y : Nat), Ex H4 H5 → σ[3]? = some (some (.ref p2)) → (∀ H', Ev ta σ H' (nI x)) → (∀ H', Ev tb σ H' (nI y)) → Ev (tIf (tTest (tOp (rIn K false) (tC (.int 0)) (tVar 3))) ta tb) σ H5 (nI (if 0 ∈ Wp01.ofKind st 2 then x else y)) := by
      intro σ H5 ta tb x y e5 hσ ha hb
      refine ev_if (b := decide (0 ∈ Wp01.ofKind st 2)) (et_test (ev_is (ev_op (z := .bl (inV (.int 0) ((Wp01.ofKind st 2).map nI))) ev_c (ev_var hσ) (rv_isL (ex_l e5 g2) rfl (flat_nI _))) (by rw [inV_nI]))) (fun hc => ?_) (fun hc => ?_)
      · rw [if_pos (of_decide_eq_true hc)]
        exact ha _
      · rw [if_neg (of_decide_eq_false hc)]
        exact hb _
    unfold BM.sortOf at q
    refine q_when (b := decide (Wp01.ofKind st 1 ≠ []) && decide (Wp01.ofKind st 3 ≠ [])) (et_and (et_is (et_truL (ev_var rfl) g1) (empty_nI _)) (fun _ => et_is (et_truL (ev_var rfl) g3) (empty_nI _))) (fun hb H5 e5 => ?_) (fun hb H5 e5 => ?_)
    · rw [Bool.and_eq_true, decide_eq_true_eq, decide_eq_true_eq] at hb
      rw [if_pos hb] at q
      exact s_ret (fin _ H5 _ _ 6 4 e5 rfl (fun _ => ev_c) (fun _ => ev_c)) fun H6 e6 => q H6 ((e14.trans e5).trans e6)
    · have hb' : ¬ (Wp01.ofKind st 1 ≠ [] ∧ Wp01.ofKind st 3 ≠ []) := fun z => by
        rw [decide_eq_true z.1, decide_eq_true z.2] at hb
        cases hb
      rw [if_neg hb'] at q
      refine q_when (et_is (et_truL (ev_var rfl) (ex_l e5 g2)) (empty_nI _)) (fun hc H6 e6 => ?_) (fun hc H6 e6 => ?_)
      · rw [if_pos (of_decide_eq_true hc)] at q
        exact s_ret (fin _ H6 _ _ 5 1 (e5.trans e6) rfl (fun _ => ev_c) (fun _ => ev_c)) fun H7 e7 => q H7 (((e14.trans e5).trans e6).trans e7)
      · rw [if_neg (of_decide_eq_false hc)] at q
        refine q_when (et_is (et_truL (ev_var rfl) (ex_l (e5.trans e6) g3)) (empty_nI _)) (fun hd H7 e7 => ?_) (fun hd H7 e7 => ?_)
        · rw [if_pos (of_decide_eq_true hd)] at q
          exact s_ret (ev_c (v := nI 3)) fun H8 e8 => q H8 ((((e14.trans e5).trans e6).trans e7).trans e8)
        · rw [if_neg (of_decide_eq_false hd)] at q
          refine s_ret (v := nI (if Wp01.ofKind st 1 ≠ [] then 2 else 0)) (ev_if (et_is (et_truL (ev_var rfl) (ex_l ((e5.trans e6).trans e7) g1)) (empty_nI _)) (fun hf => ?_) (fun hf => ?_)) fun H8 e8 => q H8 ((((e14.trans e5).trans e6).trans e7).trans e8)
          · rw [if_pos (of_decide_eq_true hf)]
            exact ev_c
          · rw [if_neg (of_decide_eq_false hf)]
            exact ev_c
end
end B

end

section
set_option Elab.async false
set_option linter.all false
set_option maxRecDepth 100000
set_option maxHeartbeats 2000000
namespace B
open PySem L2 Evl
/-- a dict whose keys are these numbers -/
def kvsOf (ns : List Nat) : List (Key × V) := ns.map fun (n : Nat) => ((Sum.inl (n : Int) : Key), V.bl true)
theorem kvs_any (ns : List Nat) (n : Nat) : ((kvsOf ns).any fun kv => decide (kv.1 = (Sum.inl (n : Int) : Key))) = decide (n ∈ ns) := by
  induction ns with
  | nil => rfl
  | cons a r ih =>
    show (decide ((Sum.inl (a : Int) : Key) = Sum.inl (n : Int)) || (kvsOf r).any _) = decide (n ∈ a :: r)
    rw [ih, key_ll]
    by_cases c : a = n
    · subst c
      simp
    · have c' : ¬ (a : Int) = (n : Int) := by omega
      have c2 : ¬ n = a := fun z => c z.symm
      simp [c', c2]
theorem kvs_put (ns : List Nat) (n : Nat) : putK (kvsOf ns) (Sum.inl (n : Int)) (V.bl true) = kvsOf (if n ∈ ns then ns else ns ++ [n]) := by
  unfold putK
  rw [kvs_any]
  by_cases c : n ∈ ns
  · rw [if_pos (decide_eq_true c), if_pos c]
    unfold kvsOf
    rw [List.map_map]
    apply List.map_congr_left
    intro a _
    show (if (Sum.inl (a : Int) : Key) = Sum.inl (n : Int) then ((Sum.inl (a : Int) : Key), V.bl true) else (Sum.inl (a : Int), V.bl true)) = _
    split <;> rfl
  · rw [if_neg (by rw [decide_eq_false c]; decide), if_neg c]
    unfold kvsOf
    rw [List.map_append]
    rfl
/-- rising numbers, from what sorted gives -/
theorem sorted_nats {ns : List Nat} {ys : List Int} (hp : ys.Perm (ns.map fun (n : Nat) => (n : Int))) (hs : ys.Pairwise (· ≤ ·)) (hn : ns.Nodup) : ∃ zs : List Nat, ys.map V.int = zs.map nI ∧ zs.Pairwise (· < ·) ∧ (∀ n, n ∈ zs ↔ n ∈ ns) := by
  have h0 : ∀ y ∈ ys, 0 ≤ y := fun y hy => by
    obtain ⟨n, _, rfl⟩ := List.mem_map.1 (hp.mem_iff.1 hy)
    omega
  have e : (ys.map Int.toNat).map (fun (n : Nat) => (n : Int)) = ys := by
    rw [List.map_map]
    conv => rhs; rw [← List.map_id ys]
    apply List.map_congr_left
    intro y hy
    exact Int.toNat_of_nonneg (h0 y hy)
  have hp2 : (ys.map Int.toNat).Perm ns := by
    have := hp.map Int.toNat
    rw [List.map_map] at this
    have e2 : ns.map (Int.toNat ∘ fun (n : Nat) => (n : Int)) = ns := by
      conv => rhs; rw [← List.map_id ns]
      apply List.map_congr_left
      intro n _
      rfl
    rw [e2] at this
    exact this
  have hn2 : (ys.map Int.toNat).Nodup := hp2.nodup_iff.2 hn
  refine ⟨ys.map Int.toNat, ?_, ?_, fun n => hp2.mem_iff⟩
  · rw [List.map_map]
    apply List.map_congr_left
    intro y hy
    show V.int y = V.int ((y.toNat : Nat) : Int)
    rw [Int.toNat_of_nonneg (h0 y hy)]
  · have hs2 : (ys.map Int.toNat).Pairwise (· ≤ ·) := by
      rw [List.pairwise_map]
      exact hs.imp fun h => Int.toNat_le_toNat h
    have := List.Pairwise.and hs2 hn2
    exact this.imp fun ⟨h1, h2⟩ => Nat.lt_of_le_of_ne h1 h2
/-- where a motion takes a cell, among u columns -/
def img (h u : Nat) (x : Int) (y : Nat) (m : Nat × Int) : Nat := Wp01.cellAt u (BM.mx (BM.kf m.1) (m.2 : Int) x) (BM.my (BM.kv m.1) h y)
section
variable {P : Program} {w : World} {K : PySem.W.Frag} {mg : Str → Option Value} {base : Heap} {C CL kA : Addr}

/-! ### numbers_along -/
abbrev s_numbers_along : Stmt := top 23
abbrev N_numbers_along : List Str := ["strip", "motions", "cell", "width", "found", "kind", "k"]
theorem sc_numbers_along : FnScope N_numbers_along ["strip", "motions", "cell", "width"] (defScope s_numbers_along) := ⟨rfl, rfl, rfl, by decide +kernel, rfl, by decide +kernel, by decide +kernel⟩
def spAlong (K : PySem.W.Frag) (C : Addr) : Sp := fun vs H Q _ => ∃ (a pm : Addr) (v : V) (st : Wp01.Strip) (u : Nat) (ms : List V) (L : List (Nat × Int)) (x : Int) (y : Nat), vs = [.ref a, .ref pm, v, .int (u : Int)] ∧ StripA K C H a st ∧ SqL K H pm ms ∧ PairsAre K H ms L ∧
  L.length < 64 ∧ (∀ m ∈ L, m.1 < 4) ∧ PairV K H v x (y : Int) ∧ y < st.h ∧ 0 < u ∧ u ≤ 12 ∧
  ∀ p H' (ns : List Nat), H p = none → Ex H H' → H' p = some (.lst (ns.map nI)) → ns.Pairwise (· < ·) → (∀ n, n ∈ ns ↔ ∃ m ∈ L, n = img st.h u x y m) → Q (.ref p) H'
theorem ok_numbers_along {f : Addr} {fd : FuncData} (F : Fun K "numbers_along" "numbers_along" s_numbers_along f fd) (T : Txt K mg C CL kA) (G_number_of : Has P w K mg base "number_of" ["cell", "width"] 1 (spNum K))
    (G_moved : Has P w K mg base "moved" ["kind", "k", "cell", "h"] 1 (spMoved K)) : FnOk P w K mg base CX0 2 f fd ["strip", "motions", "cell", "width"] (spAlong K C) := by
  refine F.ok sc_numbers_along (fun vs H Q E h => ?_) (fun cdv A outer s H vs Q E hr h => ?_)
  · obtain ⟨a, pm, v, st, u, ms, L, x, y, rfl, _⟩ := h
    rfl
  · obtain ⟨a, pm, v, st, u, ms, L, x, y, rfl, hS, hM, hL, h64, hk4, hv, hy, u0, u1, q⟩ := h
    refine ⟨_, (pss_cons (ps_set (i := 4) sc_numbers_along.nd rfl (Or.inl rfl) pe_dnewK)
      (pss_cons (ps_for PassesOwn.never rfl (pi_list (pv 1)) (pg_tup rfl (pgs_cons (pg_name (i := 5) sc_numbers_along.nd rfl (Or.inl rfl)) (pgs_cons (pg_name (i := 6) sc_numbers_along.nd rfl (Or.inl rfl)) pgs_nil))) (pss_one (ps_dput (hu_of hr) (pv 4) (pcall G_number_of (hr.mono (by decide)) (by rfl) (pa_cons (pcall G_moved (hr.mono (by decide)) (by rfl) (pa_cons (pv 5) (pa_cons (pv 6) (pa_cons (pv 2) (pa_cons (pe_fld (pv 0) rfl) pa_nil))))) (pa_cons (pv 3) pa_nil))) pe_bl rfl)))
      (pss_one (ps_ret (pe_callB (call_sortedDI rfl) (by rfl) T.b_sorted (by decide +kernel) (pa_cons (pv 4) pa_nil)))))), ?_⟩
    obtain ⟨_, _, _, _, g⟩ := id hS
    have g6 := g.h1
    intro d hd
    refine q_forL (a := pm) (xs := ms) (ev_var rfl) (ex_l (Ex.new hd) hM) (fun i σ H' => (∃ v1 v2 : Option V, σ = [some (.ref a), some (.ref pm), some v, some (.int (u : Int)), some (.ref d), v1, v2]) ∧ Ex H H' ∧ ∃ ns : List Nat, H' d = some (.dK (kvsOf ns)) ∧ ns.Nodup ∧ ns.length ≤ i ∧ ∀ n, n ∈ ns ↔ ∃ m ∈ L.take i, n = img st.h u x y m)
      (fun H1 e1 => ⟨⟨none, none, rfl⟩, (Ex.new hd).trans e1, [], e1 _ _ upd_same, List.nodup_nil, Nat.le_refl _, fun n => by simp⟩) (fun i σ' H' _ z => ex_l z.2.1 hM) ?_ ?_
    · rintro i z σ' H' hi ⟨⟨v1, v2, rfl⟩, e2, ns, h1, hn, hl, hmem⟩
      have hiL : i < L.length := by
        have := (List.getElem?_eq_some_iff.mp hi).1
        rw [hL.1] at this
        exact this
      obtain ⟨m, hm⟩ : ∃ m, L[i]? = some m := ⟨L[i], List.getElem?_eq_getElem hiL⟩
      obtain ⟨z', hz', pz⟩ := hL.2 i m hm
      rw [hi] at hz'
      cases hz'
      obtain ⟨tz, rfl, hT⟩ := pz.ex e2
      have hm4 := hk4 m (List.mem_of_getElem? hm)
      have hS2 := hS.ex e2
      obtain ⟨dx2, l2, g1, _⟩ := id hS2
      refine ⟨tz, _, rfl, hT, rfl, _, _, rfl, _, _, rfl, rfl, ?_⟩
      refine ⟨_, rfl, _, rfl, _, rfl, _, rfl, _, rfl, a, C, dx2, _, _, rfl, g1, T.cs.cl, T.cs.nh, sF_h, m.1, (m.2 : Int), v, x, st.h, y, rfl, hm4, hv.ex e2, hy, fun c H3 e3 pc => ?_⟩
      have hyl := BM.my_lt (v := BM.kv m.1) hy
      refine ⟨_, rfl, c, _, _, (u : Int), rfl, pc, by omega, by omega, d, upd H3 d (.dK (putK (kvsOf ns) (Sum.inl ((img st.h u x y m : Nat) : Int)) (V.bl true))), rfl, ?_, ?_⟩
      · rw [num_cast u0]
        exact DPut.k (k := Sum.inl _) (e3 _ _ h1) (sz_lt (by unfold kvsOf; rw [List.length_map]; omega))
      refine ⟨⟨_, _, rfl⟩, Ex.mut (e2.trans e3) hd, (if img st.h u x y m ∈ ns then ns else ns ++ [img st.h u x y m]), ?_, ?_, ?_, ?_⟩
      · rw [upd_same]
        exact congrArg (fun z => some (HO.dK z)) (kvs_put ns (img st.h u x y m))
      · split
        · exact hn
        · next c => exact nd_snoc hn c
      · split
        · omega
        · rw [List.length_append, List.length_singleton]
          omega
      · intro n
        rw [List.take_add_one, hm]
        simp only [Option.toList_some, List.mem_append, List.mem_singleton, or_and_right, exists_or, exists_eq_left]
        rw [← hmem]
        split
        · next c =>
          constructor
          · exact fun z => .inl z
          · rintro (z | z)
            · exact z
            · rw [z]; exact c
        · rw [List.mem_append, List.mem_singleton]
    · rintro σ' H' ⟨⟨v1, v2, rfl⟩, e2, ns, h1, hn, hl, hmem⟩
      rw [hL.1] at hl hmem
      rw [List.take_length] at hmem
      refine ⟨_, rfl, d, kvsOf ns, ns.map (fun (n : Nat) => (n : Int)), rfl, Rd.of h1, ?_, ?_, fun ys p hp hs np => ?_⟩
      · unfold kvsOf
        rw [List.map_map, List.map_map]
        rfl
      · rw [List.length_map]
        omega
      · obtain ⟨zs, ez, z1, z2⟩ := sorted_nats hp hs hn
        refine q p _ zs (fresh_back e2 np) (e2.trans (Ex.new np)) ?_ z1 fun n => (z2 n).trans (hmem n)
        rw [upd_same, ez]
end
end B

end

section
set_option Elab.async false
set_option linter.all false
set_option maxRecDepth 100000
set_option maxHeartbeats 2000000
namespace B
open PySem L2 Evl
theorem mots_mem {st : Wp01.Strip} {u n : Nat} {m : Nat × Int} : m ∈ motsN st u n ↔ m.1 < n ∧ ∃ k : Nat, m.2 = (k : Int) ∧ k < u ∧ Wp01.keeps st ⟨m.1, (k : Int)⟩ = true := by
  unfold motsN keepL
  simp only [List.mem_flatMap, List.mem_range, List.mem_map, List.mem_filter]
  constructor
  · rintro ⟨kind, h1, k, ⟨h2, h3⟩, rfl⟩
    exact ⟨h1, k, rfl, h2, h3⟩
  · rintro ⟨h1, k, h2, h3, h4⟩
    refine ⟨m.1, h1, k, ⟨h3, h4⟩, ?_⟩
    rw [← h2]
/-- the strip's motions below u reach what all its motions reach, among u columns -/
theorem mots_img {st : Wp01.Strip} (hw : 0 < st.w) {u : Nat} (hu : 0 < u) (hd : ((Wp01.period st : Nat) : Int) ∣ (u : Int)) (c d : Nat) : (∃ m ∈ motsN st u 4, d = img st.h u ((c % u : Nat) : Int) (c / u) m) ↔ BM.Orb st u c d := by
  have Pp := BM.period_per hw
  constructor
  · rintro ⟨m, hm, rfl⟩
    obtain ⟨h1, k, h2, _, h3⟩ := mots_mem.1 hm
    refine ⟨_, _, _, (BM.keepsK hw h1 _).1 h3, ?_⟩
    unfold img
    rw [h2]
  · rintro ⟨f, v, k, hk, rfl⟩
    obtain ⟨kind, h4, rfl, rfl⟩ := BM.kind_of f v
    have h0 : 0 ≤ k % (u : Int) := Int.emod_nonneg _ (by omega)
    have h1 : k % (u : Int) < (u : Int) := Int.emod_lt_of_pos _ (by omega)
    have hku : BM.K st false false (u : Int) := by
      obtain ⟨z, hz⟩ := hd
      rw [hz]
      exact BM.K_mulI Pp.keeps z
    have e : k % (u : Int) = k + (u : Int) * (-(k / (u : Int))) := by
      rw [Int.mul_neg, Int.emod_def]; omega
    have hk2 : BM.K st (BM.kf kind) (BM.kv kind) (k % (u : Int)) := by
      rw [e]; exact BM.K_add (BM.K_mulI hku _) hk
    refine ⟨(kind, k % (u : Int)), mots_mem.2 ⟨h4, (k % (u : Int)).toNat, (Int.toNat_of_nonneg h0).symm, by omega, (BM.keepsK hw h4 _).2 (by rw [Int.toNat_of_nonneg h0]; exact hk2)⟩, ?_⟩
    unfold img
    exact BM.cellAt_congr (BM.mx_modk _ _ _ _).symm
/-- the least of rising numbers stands first -/
theorem least_head {ns : List Nat} {c : Nat} (hs : ns.Pairwise (· < ·)) (hc : c ∈ ns) : ∃ a, ns[0]? = some a ∧ (a = c ↔ ∀ d ∈ ns, c ≤ d) := by
  cases ns with
  | nil => cases hc
  | cons a r =>
    rw [List.pairwise_cons] at hs
    refine ⟨a, rfl, ?_⟩
    constructor
    · rintro rfl d hd
      rcases List.mem_cons.1 hd with h | h
      · omega
      · exact Nat.le_of_lt (hs.1 d h)
    · intro h
      have h1 := h a List.mem_cons_self
      rcases List.mem_cons.1 hc with h2 | h2
      · exact h2.symm
      · have := hs.1 c h2
        omega
/-- whether a cell of the period's columns is a least one -/
def isLeast (st : Wp01.Strip) (c : Nat) : Bool := (Wp01.along (Wp01.period st) st.h (Wp01.all st) c).all fun (d : Nat) => decide (c ≤ d)
def leastN (st : Wp01.Strip) (n : Nat) : List Nat := (List.range n).filter (isLeast st)
theorem least_eq (st : Wp01.Strip) : Wp01.least st = leastN st (st.h * Wp01.period st) := by
  rw [Nat.mul_comm]; rfl
theorem leastN_succ (st : Wp01.Strip) (n : Nat) : leastN st (n + 1) = if isLeast st n = true then leastN st n ++ [n] else leastN st n := by
  unfold leastN
  rw [List.range_succ, List.filter_append, List.filter_cons]
  split
  · rfl
  · show _ ++ [] = _
    rw [List.append_nil]
theorem leastN_le (st : Wp01.Strip) (n : Nat) : (leastN st n).length ≤ n := by
  have := List.length_filter_le (isLeast st) (List.range n)
  rw [List.length_range] at this
  exact this
theorem sq_updL {K : PySem.W.Frag} {H : Hp} {a D : Addr} {xs : List V} {o : HO} (h : SqL K H a xs) (n : a ≠ D) : SqL K (upd H D o) a xs := by
  rcases h with (h | ⟨z, h⟩) | h
  · exact .inl (.inl (by rw [upd_ne n]; exact h))
  · exact .inl (.inr ⟨z, by rw [upd_ne n]; exact h⟩)
  · exact .inr h
theorem CellsAre.upd {K : PySem.W.Frag} {H : Hp} {D : Addr} {cs xs xs' : List V} {n u : Nat} (h : CellsAre K H cs n u) (hD : H D = some (.lst xs)) : CellsAre K (L2.upd H D (.lst xs')) cs n u :=
  ⟨h.1, fun i hi => let ⟨v, h1, h2⟩ := h.2 i hi; ⟨v, h1, h2.upd hD⟩⟩
theorem PairsAre.upd {K : PySem.W.Frag} {H : Hp} {D : Addr} {vs xs xs' : List V} {L : List (Nat × Int)} (h : PairsAre K H vs L) (hD : H D = some (.lst xs)) : PairsAre K (L2.upd H D (.lst xs')) vs L :=
  ⟨h.1, fun i p hi => let ⟨v, h1, h2⟩ := h.2 i p hi; ⟨v, h1, h2.upd hD⟩⟩
section
variable {P : Program} {w : World} {K : PySem.W.Frag} {mg : Str → Option Value} {base : Heap} {C CL kA : Addr}

/-! ### least_numbers -/
abbrev s_least_numbers : Stmt := top 24
abbrev N_least_numbers : List Str := ["strip", "t", "motions", "found", "number", "cell"]
theorem sc_least_numbers : FnScope N_least_numbers ["strip"] (defScope s_least_numbers) := ⟨rfl, rfl, rfl, by decide +kernel, rfl, by decide +kernel, by decide +kernel⟩
def spLeast (K : PySem.W.Frag) (C : Addr) : Sp := fun vs H Q _ => ∃ (a : Addr) (st : Wp01.Strip), vs = [.ref a] ∧ StripA K C H a st ∧ ∀ p H', H p = none → Ex H H' → H' p = some (.lst ((Wp01.least st).map nI)) → Q (.ref p) H'
theorem ok_least_numbers {f : Addr} {fd : FuncData} (F : Fun K "least_numbers" "least_numbers" s_least_numbers f fd) (T : Txt K mg C CL kA) (G_period : Has P w K mg base "period" ["strip"] 5 (spPeriod K C))
    (G_motions_within : Has P w K mg base "motions_within" ["strip", "width"] 6 (spMotions K C)) (G_cells_within : Has P w K mg base "cells_within" ["h", "width"] 1 (spCells K))
    (G_numbers_along : Has P w K mg base "numbers_along" ["strip", "motions", "cell", "width"] 2 (spAlong K C)) : FnOk P w K mg base CX0 7 f fd ["strip"] (spLeast K C) := by
  refine F.ok sc_least_numbers (fun vs H Q E h => ?_) (fun cdv A outer s H vs Q E hr h => ?_)
  · obtain ⟨a, st, rfl, _⟩ := h
    rfl
  · obtain ⟨a, st, rfl, hS, q⟩ := h
    obtain ⟨_, _, _, _, g⟩ := id hS
    have Pp := BM.period_per g.w0
    have p12 : Wp01.period st ≤ 12 := Nat.le_trans Pp.le g.w1
    have g6 := g.h1
    have hle : st.h * Wp01.period st ≤ 6 * 12 := Nat.mul_le_mul g.h1 p12
    refine ⟨_, (pss_cons (ps_set (i := 1) sc_least_numbers.nd rfl (Or.inl rfl) (pcall G_period (hr.mono (by decide)) (by rfl) (pa_cons (pv 0) pa_nil)))
      (pss_cons (ps_set (i := 2) sc_least_numbers.nd rfl (Or.inl rfl) (pcall G_motions_within (hr.mono (by decide)) (by rfl) (pa_cons (pv 0) (pa_cons (pv 1) pa_nil))))
      (pss_cons (ps_set (i := 3) sc_least_numbers.nd rfl (Or.inl rfl) (pe_lst pa_nil))
      (pss_cons (ps_for PassesOwn.never rfl (pi_enum (by rfl) T.b_enumerate (pa_cons (pcall G_cells_within (hr.mono (by decide)) (by rfl) (pa_cons (pe_fld (pv 0) rfl) (pa_cons (pv 1) pa_nil))) pa_nil)) (pg_tup rfl (pgs_cons (pg_name (i := 4) sc_least_numbers.nd rfl (Or.inl rfl)) (pgs_cons (pg_name (i := 5) sc_least_numbers.nd rfl (Or.inl rfl)) pgs_nil))) (pss_one (ps_if (pt_cmpR op_eq (pe_ix ix_list (pcall G_numbers_along (hr.mono (by decide)) (by rfl) (pa_cons (pv 0) (pa_cons (pv 2) (pa_cons (pv 5) (pa_cons (pv 1) pa_nil))))) pe_int (fun _ _ => rfl)) (pv 4) (nomark _)) (pss_one (ps_expr (pe_bm PySem.F.plainAttrs_list PySem.F.slot_list_append PySem.F.type_list_append mt_append (pv 3) (pa_cons (pv 4) pa_nil)))) pss_nil)))
      (pss_one (ps_ret (pv 3))))))), ?_⟩
    refine q_asg (v := nI (Wp01.period st)) (ev_call (ea_cons (ev_var rfl) ea_nil) fun H3 e3 Q' q' E' => ⟨a, st, rfl, hS.ex e3, q'⟩) fun H1 e1 => ?_
    refine ⟨_, rfl, _, rfl, a, st, _, rfl, hS.ex e1, p12, fun pm H2 ms nm e2 h2 h3 => ?_⟩
    refine q_asgL (xs := []) (el_lst ea_nil (by decide)) fun D H3 hD e3 h4 => ?_
    have e13 := (e1.trans e2).trans e3
    have hS3 := hS.ex e13
    obtain ⟨dx, l, g1, _⟩ := id hS3
    refine ⟨_, rfl, a, C, dx, _, _, rfl, g1, T.cs.cl, T.cs.nh, sF_h, _, rfl, st.h, Wp01.period st, rfl, g.h1, Pp.pos, p12, fun pc H4 cs nc e4 h5 hc => ?_⟩
    have nD : H D = none := fresh_back (e1.trans e2) hD
    have ncD : pc ≠ D := fun z => by rw [z, h4] at nc; cases nc
    have nmD : pm ≠ D := fun z => by rw [z] at h2; rw [h2] at hD; cases hD
    refine ⟨pc, cs, rfl, SqL.of h5, for_it walk_enum (fun i σ H' => (∃ v1 v2 : Option V, σ = [some (.ref a), some (nI (Wp01.period st)), some (.ref pm), some (.ref D), v1, v2]) ∧ Ex H H' ∧ SqL K H' pc cs ∧ CellsAre K H' cs (st.h * Wp01.period st) (Wp01.period st) ∧ SqL K H' pm ms ∧ PairsAre K H' ms (motsN st (Wp01.period st) 4) ∧ H' D = some (.lst ((leastN st i).map nI)))
      ⟨⟨none, none, rfl⟩, e13.trans e4, SqL.of h5, hc, SqL.of (e4 _ _ (e3 _ _ h2)), (h3.ex e3).ex e4, e4 _ _ h4⟩ (fun i σ' H' _ z => z.2.2.1) ?_ ?_⟩
    · rintro i x σ' H5 H6 hi ⟨⟨v1, v2, rfl⟩, eH, hC, hCs, hM, hMs, hD'⟩ ⟨tt, ci, c, rfl, ntt, rfl, hi0, hci⟩
      obtain rfl : V.int ((i : Nat) : Int) = ci := Option.some.inj hi0
      have e6 : Ex H5 (upd H5 tt (.tup [.int (i : Nat), c])) := Ex.new ntt
      rw [hc.1] at hi
      obtain ⟨c', hc1, hc2⟩ := (hCs.ex e6).2 i hi
      rw [show cs[i]? = some c from hci] at hc1
      cases hc1
      have hy : i / Wp01.period st < st.h := by rw [Nat.div_lt_iff_lt_mul Pp.pos]; exact hi
      have lm := motsN_le st (Wp01.period st) 4
      refine ⟨tt, _, rfl, st_of upd_same, rfl, _, _, rfl, _, _, rfl, rfl, ?_⟩
      refine ⟨_, rfl, _, rfl, _, rfl, _, rfl, a, pm, c, st, Wp01.period st, ms, _, _, _, rfl, (hS.ex eH).ex e6, ex_l e6 hM, hMs.ex e6, by omega, fun m hm => (mots_mem.1 hm).1, hc2, hy, Pp.pos, p12, fun p H7 ns np e7 hp hs hm => ?_⟩
      have hm' : ∀ n, n ∈ ns ↔ BM.Orb st (Wp01.period st) i n := fun n => (hm n).trans (mots_img g.w0 Pp.pos (Int.dvd_refl _) i n)
      obtain ⟨b, hb, hbi⟩ := least_head hs ((hm' i).2 (BM.Orb.refl st _ i))
      have hl : isLeast st i = decide (b = i) := by
        unfold isLeast
        rw [Bool.eq_iff_iff, List.all_eq_true, decide_eq_true_eq, hbi]
        constructor
        · intro z d hd
          exact of_decide_eq_true (z d ((BM.along_period g.w0 hi d).2 ((hm' d).1 hd)))
        · intro z d hd
          exact decide_eq_true (z d ((hm' d).2 ((BM.along_period g.w0 hi d).1 hd)))
      refine ⟨p, _, 0, nI b, rfl, rfl, SqL.of hp, atI_nat (j := 0) (by rw [List.getElem?_map, hb]; rfl), _, rfl, rfl, _, rfl, ?_⟩
      have eq : decide (nI b = V.int ((i : Nat) : Int)) = isLeast st i := by
        rw [hl]
        by_cases z : b = i
        · rw [z]; simp [nI]
        · rw [decide_eq_false z, decide_eq_false]
          intro y
          unfold nI at y
          injection y with y
          exact z (by omega)
      rw [eq]
      have eN : Ex H5 H7 := e6.trans e7
      have hll := leastN_le st i
      cases hz : isLeast st i with
      | true =>
        refine iteT ?_
        refine s_app (l := D) (xs := (leastN st i).map nI) (v := nI i) (eN _ _ hD') (ev_var rfl) (ev_var rfl) (by rw [List.length_map]; omega) fun H8 e8 => ?_
        have eM := eN.trans e8
        have hD8 := eM _ _ hD'
        refine ⟨⟨_, _, rfl⟩, Ex.mut (eH.trans eM) nD, ?_, ?_, ?_, ?_, ?_⟩
        · exact sq_updL (ex_l eM hC) ncD
        · exact (hCs.ex eM).upd hD8
        · exact sq_updL (ex_l eM hM) nmD
        · exact (hMs.ex eM).upd hD8
        · rw [upd_same, leastN_succ, if_pos hz, List.map_append]
          rfl
      | false =>
        refine iteF ?_
        refine ⟨⟨_, _, rfl⟩, eH.trans eN, ex_l eN hC, hCs.ex eN, ex_l eN hM, hMs.ex eN, ?_⟩
        rw [leastN_succ, hz]
        exact eN _ _ hD'
    · rintro σ' H' ⟨⟨v1, v2, rfl⟩, eH, _, _, _, _, hD'⟩
      rw [hc.1, ← least_eq] at hD'
      exact ⟨_, rfl, q D H' nD eH hD'⟩
end
end B

end

section
set_option Elab.async false
set_option linter.all false
set_option maxRecDepth 100000
set_option maxHeartbeats 2000000
namespace B
open PySem L2 Evl
theorem put_here {f : Str} {v x : V} {r : List (Str × V)} : putF f v ((f, x) :: r) = (f, v) :: r := if_pos rfl
theorem put_past {f g : Str} {v x : V} {r : List (Str × V)} (h : ¬ g = f) : putF f v ((g, x) :: r) = (g, x) :: putF f v r := if_neg h
theorem sF_new {h w : Int} {l : Addr} : putF "colours" (.ref l) (putF "w" (.int w) (putF "h" (.int h) [])) = sF h w l := by
  have e1 : putF "h" (.int h) [] = [(("h" : Str), V.int h)] := rfl
  rw [e1, put_past (by decide +kernel)]
  have e2 : putF "w" (.int w) [] = [(("w" : Str), V.int w)] := rfl
  rw [e2, put_past (by decide +kernel), put_past (by decide +kernel)]
  rfl
/-! ### A heap without what another knows -/
def off (H0 H : Hp) : Hp := fun a => match H0 a with
  | none => H a
  | some _ => none
theorem off_ne {H0 H : Hp} {a : Addr} (h : H0 a = none) : off H0 H a = H a := by
  unfold off
  rw [h]
theorem off_some {H0 H : Hp} {a : Addr} {o : HO} (h : off H0 H a = some o) : H0 a = none ∧ H a = some o := by
  unfold off at h
  cases e : H0 a with
  | none => rw [e] at h; exact ⟨rfl, h⟩
  | some z => rw [e] at h; cases h
theorem off_ex {H0 H : Hp} : Ex (off H0 H) H := fun a o h => (off_some h).2
theorem Ex.off {H0 H H' : Hp} (e : Ex H H') : Ex (B.off H0 H) (B.off H0 H') := fun a o h => by
  obtain ⟨h1, h2⟩ := off_some h
  rw [off_ne h1]
  exact e a o h2
section
variable {P : Program} {w : World} {K : PySem.W.Frag} {mg : Str → Option Value} {base : Heap} {C CL kA : Addr}

/-! ### Strip.__init__ -/
abbrev s_Strip__init__ : Stmt := inClass (top 11) 0
abbrev N_Strip__init__ : List Str := ["self", "h", "w", "colours"]
theorem sc_Strip__init__ : FnScope N_Strip__init__ ["self", "h", "w", "colours"] (defScope s_Strip__init__) := ⟨rfl, rfl, rfl, by decide +kernel, rfl, by decide +kernel, by decide +kernel⟩
def spStrip (C : Addr) : Sp := fun vs H Q _ => ∃ (p dx l : Addr) (h w : Int), vs = [.ref p, .int h, .int w, .ref l] ∧ H p = some (.ins C dx []) ∧ Q .non (upd H p (.ins C dx (sF h w l)))
theorem ok_Strip {f : Addr} {fd : FuncData} (F : Fun K "__init__" "Strip.__init__" s_Strip__init__ f fd) (T : Txt K mg C CL kA) : FnOk P w K mg base CX0 1 f fd ["self", "h", "w", "colours"] (spStrip C) := by
  refine F.ok sc_Strip__init__ (fun vs H Q E h => ?_) (fun cdv A outer s H vs Q E hr h => ?_)
  · obtain ⟨p, dx, l, h, w, rfl, _⟩ := h
    rfl
  · obtain ⟨p, dx, l, h, w, rfl, hp, q⟩ := h
    refine ⟨_, (pss_cons (ps_fld (pv 0) (pv 1) rfl)
      (pss_cons (ps_fld (pv 0) (pv 2) rfl)
      (pss_one (ps_fld (pv 0) (pv 3) rfl)))), ?_⟩
    refine ⟨_, rfl, _, rfl, p, C, dx, [], rfl, hp, T.cs.cl, T.cs.nh, (by show 0 < 1000; decide), ?_⟩
    refine ⟨_, rfl, _, rfl, p, C, dx, _, rfl, upd_same, T.cs.cl, T.cs.nw, (by show 1 < 1000; decide), ?_⟩
    refine ⟨_, rfl, _, rfl, p, C, dx, _, rfl, upd_same, T.cs.cl, T.cs.nc, (by show 2 < 1000; decide), ?_⟩
    rw [upd_upd, upd_upd, sF_new]
    exact q
/-- a new strip -/
theorem mk_rawI {H : Hp} {l : Addr} {h w : Int} {R : Addr → Hp → Prop} (k : ∀ x dx H', H x = none → Ex H H' → H' x = some (.ins C dx (sF h w l)) → R x H') :
    ∀ x dx, H x = none → H dx = none → dx ≠ x → spStrip C [.ref x, .int h, .int w, .ref l] (upd (upd H dx (.own x)) x (.ins C dx [])) (fun v H2 => v = .non ∧ R x H2) E0 := by
  intro x dx nx nd ne
  have e : Ex H (upd (upd (upd H dx (.own x)) x (.ins C dx [])) x (.ins C dx (sF h w l))) := by
    rw [upd_upd]
    intro b o hb
    rw [upd_ne (ne_of_none hb nx), upd_ne (ne_of_none hb nd)]
    exact hb
  exact ⟨x, dx, l, h, w, rfl, upd_same, rfl, k x dx _ nx e upd_same⟩
theorem mk_raw {H : Hp} {l : Addr} {st : Wp01.Strip} {R : Addr → Hp → Prop} (k : ∀ x dx H', H x = none → Ex H H' → H' x = some (.ins C dx (sF st.h st.w l)) → R x H') :
    ∀ x dx, H x = none → H dx = none → dx ≠ x → spStrip C [.ref x, nI st.h, nI st.w, .ref l] (upd (upd H dx (.own x)) x (.ins C dx [])) (fun v H2 => v = .non ∧ R x H2) E0 := mk_rawI k
/-- its parts all new, or not of H0 -/
theorem mk_strip {H0 H : Hp} {l : Addr} {st : Wp01.Strip} (g : Good st) (e0 : Ex H0 H) (hl : off H0 H l = some (.lst (st.cells.map nI))) {R : Addr → Hp → Prop} (k : ∀ x H', H x = none → Ex H H' → StripA K C (off H0 H') x st → R x H') :
    ∀ x dx, H x = none → H dx = none → dx ≠ x → spStrip C [.ref x, nI st.h, nI st.w, .ref l] (upd (upd H dx (.own x)) x (.ins C dx [])) (fun v H2 => v = .non ∧ R x H2) E0 :=
  mk_raw fun x dx H' nx e hx => k x H' nx e ⟨dx, l, (off_ne (fresh_back e0 nx)).trans hx, Ex.off e _ _ hl, g⟩

/-! ### is_near -/
abbrev s_is_near : Stmt := top 33
abbrev N_is_near : List Str := ["number"]
theorem sc_is_near : FnScope N_is_near ["number"] (defScope s_is_near) := ⟨rfl, rfl, rfl, by decide +kernel, rfl, by decide +kernel, by decide +kernel⟩
def spIsNear : Sp := fun vs H Q _ => ∃ (z : Int), vs = [.int z] ∧ Q (.bl (Wp01.far z)) H
theorem far_eq (x : Int) : Wp01.far x = (decide (-1000 ≤ x) && decide (x ≤ 1000)) := by
  unfold Wp01.far
  by_cases h : -1000 ≤ x
  · rw [decide_eq_true h, Bool.true_and, decide_eq_decide]
    omega
  · rw [decide_eq_false h, Bool.false_and]
    exact decide_eq_false (by omega)
theorem ok_is_near {f : Addr} {fd : FuncData} (F : Fun K "is_near" "is_near" s_is_near f fd) (T : Txt K mg C CL kA) : FnOk P w K mg base CX0 1 f fd ["number"] spIsNear := by
  refine F.ok sc_is_near (fun vs H Q E h => ?_) (fun cdv A outer s H vs Q E hr h => ?_)
  · obtain ⟨z, rfl, _⟩ := h
    rfl
  · obtain ⟨z, rfl, q⟩ := h
    refine ⟨_, (pss_one (ps_ret (pe_and (pe_cmpR op_ge (pv 0) (pe_un un_neg (pglob (by rfl) T.c_FARTHEST)) (nomark _)) (pe_one (pe_cmpR op_le (pv 0) (pglob (by rfl) T.c_FARTHEST) (nomark _)))))), ?_⟩
    refine ⟨_, rfl, _, rfl, _, _, rfl, rfl, _, rfl, ?_⟩
    rw [far_eq] at q
    refine ite2 (fun c => ?_) (fun c => ?_)
    · rw [show decide (-1000 ≤ z) = true from c, Bool.true_and] at q
      exact ⟨_, rfl, _, _, rfl, rfl, q⟩
    · rw [show decide (-1000 ≤ z) = false from Bool.eq_false_iff.2 c, Bool.false_and] at q
      exact q

/-! ### is_colour -/
abbrev s_is_colour : Stmt := top 31
abbrev N_is_colour : List Str := ["number"]
theorem sc_is_colour : FnScope N_is_colour ["number"] (defScope s_is_colour) := ⟨rfl, rfl, rfl, by decide +kernel, rfl, by decide +kernel, by decide +kernel⟩
def spIsColour : Sp := fun vs H Q _ => ∃ (z : Int), vs = [.int z] ∧ Q (.bl (Wp01.colour z)) H
theorem ok_is_colour {f : Addr} {fd : FuncData} (F : Fun K "is_colour" "is_colour" s_is_colour f fd) (T : Txt K mg C CL kA) : FnOk P w K mg base CX0 1 f fd ["number"] spIsColour := by
  refine F.ok sc_is_colour (fun vs H Q E h => ?_) (fun cdv A outer s H vs Q E hr h => ?_)
  · obtain ⟨z, rfl, _⟩ := h
    rfl
  · obtain ⟨z, rfl, q⟩ := h
    refine ⟨_, (pss_one (ps_ret (pe_and (pe_cmpR op_ge (pv 0) pe_int (nomark _)) (pe_one (pe_cmpR op_le (pv 0) (pglob (by rfl) T.c_MOST_COLOUR) (nomark _)))))), ?_⟩
    refine ⟨_, rfl, _, _, rfl, rfl, _, rfl, ?_⟩
    unfold Wp01.colour at q
    refine ite2 (fun c => ?_) (fun c => ?_)
    · rw [show decide (0 ≤ z) = true from c, Bool.true_and] at q
      exact ⟨_, rfl, _, _, rfl, rfl, q⟩
    · rw [show decide (0 ≤ z) = false from Bool.eq_false_iff.2 c, Bool.false_and] at q
      exact q

/-! ### how_it_is -/
abbrev s_how_it_is : Stmt := top 29
abbrev N_how_it_is : List Str := ["strip"]
theorem sc_how_it_is : FnScope N_how_it_is ["strip"] (defScope s_how_it_is) := ⟨rfl, rfl, rfl, by decide +kernel, rfl, by decide +kernel, by decide +kernel⟩
def howL (st : Wp01.Strip) : List V := [nI (Wp01.period st), nI (Wp01.type st)]
def spHow (K : PySem.W.Frag) (C : Addr) : Sp := fun vs H Q _ => ∃ (a : Addr) (st : Wp01.Strip), vs = [.ref a] ∧ StripA K C H a st ∧ ∀ p H', H p = none → Ex H H' → H' p = some (.lst (howL st)) → Q (.ref p) H'
theorem ok_how_it_is {f : Addr} {fd : FuncData} (F : Fun K "how_it_is" "how_it_is" s_how_it_is f fd) (T : Txt K mg C CL kA) (G_period : Has P w K mg base "period" ["strip"] 5 (spPeriod K C)) (G_sort_of : Has P w K mg base "sort_of" ["strip"] 6 (spSort K C)) : FnOk P w K mg base CX0 7 f fd ["strip"] (spHow K C) := by
  refine F.ok sc_how_it_is (fun vs H Q E h => ?_) (fun cdv A outer s H vs Q E hr h => ?_)
  · obtain ⟨a, st, rfl, _⟩ := h
    rfl
  · obtain ⟨a, st, rfl, hS, q⟩ := h
    refine ⟨_, (pss_one (ps_ret (pe_lst (pa_cons (pcall G_period (hr.mono (by decide)) (by rfl) (pa_cons (pv 0) pa_nil)) (pa_cons (pcall G_sort_of (hr.mono (by decide)) (by rfl) (pa_cons (pv 0) pa_nil)) pa_nil))))), ?_⟩
    exact s_retL (xs := howL st) (el_lst (ea_cons (ev_call (ea_cons (ev_var rfl) ea_nil) fun H3 e3 Q' q' E' => ⟨a, st, rfl, hS.ex e3, q'⟩) (ea_cons (ev_call (ea_cons (ev_var rfl) ea_nil) fun H3 e3 Q' q' E' => ⟨a, st, rfl, hS.ex e3, q'⟩) ea_nil)) (by show 2 ≤ 100000; decide)) fun p H1 hp e1 h1 => q p H1 hp e1 h1
end
end B

end

section
set_option Elab.async false
set_option linter.all false
set_option maxRecDepth 100000
set_option maxHeartbeats 2000000
namespace B
open PySem L2 Evl
/-- these cells coloured -/
def setAll (c : Nat) (ns : List Nat) (l : List Nat) : List Nat := ns.foldl (fun l n => l.set n c) l
theorem setAll_len (c : Nat) : ∀ (ns l : List Nat), (setAll c ns l).length = l.length
  | [], l => rfl
  | n :: r, l => by
    show (setAll c r (l.set n c)).length = l.length
    rw [setAll_len c r, List.length_set]
theorem setAll_col {c : Nat} (hc : c ≤ 9) : ∀ (ns l : List Nat), (∀ x ∈ l, x ≤ 9) → ∀ x ∈ setAll c ns l, x ≤ 9
  | [], l, h => h
  | n :: r, l, h => setAll_col hc r (l.set n c) fun x hx => by
    rcases List.mem_or_eq_of_mem_set hx with z | z
    · exact h x z
    · omega
theorem setAll_get (c : Nat) : ∀ (ns l : List Nat) (i : Nat), (setAll c ns l)[i]? = if i ∈ ns ∧ i < l.length then some c else l[i]?
  | [], l, i => by simp [setAll]
  | n :: r, l, i => by
    show (setAll c r (l.set n c))[i]? = _
    rw [setAll_get c r (l.set n c) i, List.length_set]
    by_cases h1 : i ∈ r
    · by_cases h2 : i < l.length
      · rw [if_pos ⟨h1, h2⟩, if_pos ⟨List.mem_cons_of_mem _ h1, h2⟩]
      · rw [if_neg (fun z => h2 z.2), if_neg (fun z => h2 z.2), List.getElem?_eq_none (by rw [List.length_set]; omega), List.getElem?_eq_none (by omega)]
    · rw [if_neg (fun z => h1 z.1), List.getElem?_set]
      by_cases h3 : n = i
      · subst h3
        by_cases h2 : n < l.length
        · rw [if_pos rfl, if_pos h2, if_pos ⟨List.mem_cons_self, h2⟩]
        · rw [if_pos rfl, if_neg h2, if_neg (fun z => h2 z.2), List.getElem?_eq_none (by omega)]
      · rw [if_neg h3, if_neg]
        rintro ⟨z, _⟩
        rcases List.mem_cons.1 z with y | y
        · exact h3 y.symm
        · exact h1 y
theorem setAll_take {c : Nat} {ns : List Nat} {i n : Nat} (l : List Nat) (h : ns[i]? = some n) : setAll c (ns.take (i + 1)) l = (setAll c (ns.take i) l).set n c := by
  unfold setAll
  rw [List.take_add_one, h, List.foldl_append]
  rfl
def colouredS (st : Wp01.Strip) (ns : List Nat) (c : Nat) : Wp01.Strip := { st with cells := setAll c ns st.cells }
theorem Good.coloured {st : Wp01.Strip} (g : Good st) (ns : List Nat) {c : Nat} (hc : c ≤ 9) : Good (colouredS st ns c) :=
  ⟨g.w0, g.w1, g.h0, g.h1, (setAll_len c ns st.cells).trans g.len, setAll_col hc ns st.cells g.col⟩
section
variable {P : Program} {w : World} {K : PySem.W.Frag} {mg : Str → Option Value} {base : Heap} {C CL kA : Addr}

/-! ### coloured -/
abbrev s_coloured : Stmt := top 28
abbrev N_coloured : List Str := ["strip", "numbers", "colour", "colours", "number"]
theorem sc_coloured : FnScope N_coloured ["strip", "numbers", "colour"] (defScope s_coloured) := ⟨rfl, rfl, rfl, by decide +kernel, rfl, by decide +kernel, by decide +kernel⟩
def spColoured (K : PySem.W.Frag) (C : Addr) : Sp := fun vs H Q _ => ∃ (a pn : Addr) (st : Wp01.Strip) (ns : List Nat) (c : Nat), vs = [.ref a, .ref pn, nI c] ∧ StripA K C H a st ∧ SqL K H pn (ns.map nI) ∧ (∀ n ∈ ns, n < st.h * st.w) ∧ c ≤ 9 ∧
  ∀ p H', H p = none → Ex H H' → StripA K C (off H H') p (colouredS st ns c) → Q (.ref p) H'
theorem ok_coloured {f : Addr} {fd : FuncData} (F : Fun K "coloured" "coloured" s_coloured f fd) (T : Txt K mg C CL kA) (G_Strip : HasC P w K mg base "Strip" C ["self", "h", "w", "colours"] 1 (spStrip C)) : FnOk P w K mg base CX0 3 f fd ["strip", "numbers", "colour"] (spColoured K C) := by
  refine F.ok sc_coloured (fun vs H Q E h => ?_) (fun cdv A outer s H vs Q E hr h => ?_)
  · obtain ⟨a, pn, st, ns, c, rfl, _⟩ := h
    rfl
  · obtain ⟨a, pn, st, ns, c, rfl, hS, hN, hb, hc, q⟩ := h
    refine ⟨_, (pss_cons (ps_set (i := 3) sc_coloured.nd rfl (Or.inl rfl) (pe_callTy call_list_of (by rfl) T.b_list (by decide +kernel) (pa_cons (pe_fld (pv 0) rfl) pa_nil)))
      (pss_cons (ps_for PassesOwn.never rfl (pi_list (pv 1)) (pg_name (i := 4) sc_coloured.nd rfl (Or.inl rfl)) (pss_one (ps_asg (pv 2) (pg_sub (pv 3) (pv 4) set_list))))
      (pss_one (ps_ret (pmake G_Strip (hr.mono (by decide)) (by rfl) (pa_cons (pe_fld (pv 0) rfl) (pa_cons (pe_fld (pv 0) rfl) (pa_cons (pv 3) pa_nil)))))))), ?_⟩
    obtain ⟨dx, l, h1, h2, g⟩ := id hS
    refine ⟨_, rfl, a, C, dx, _, _, rfl, h1, T.cs.cl, T.cs.nc, sF_c, l, _, rfl, .inl (SqL.of h2), fun D hD => ?_⟩
    refine q_forLn (a := pn) (xs := ns.map nI) (ev_var rfl) (ex_l (Ex.new hD) hN) (fun i σ H' => (∃ v : Option V, σ = [some (.ref a), some (.ref pn), some (nI c), some (.ref D), v]) ∧ Ex H H' ∧ H' D = some (.lst ((setAll c (ns.take i) st.cells).map nI)))
      (fun H1 e1 => ⟨⟨none, rfl⟩, (Ex.new hD).trans e1, e1 _ _ upd_same⟩) (fun i σ' H' _ z => ex_l z.2.1 hN) ?_ ?_
    · rintro i x σ' H' hi ⟨⟨v, rfl⟩, e2, hD2⟩
      rw [List.getElem?_map] at hi
      cases hn : ns[i]? with
      | none => rw [hn] at hi; cases hi
      | some n =>
        rw [hn] at hi
        cases hi
        refine s_setL (l := D) (j := n) hD2 (ev_var rfl) (ev_var rfl) (ev_var rfl) (by rw [List.length_map, setAll_len, g.len]; exact hb n (List.mem_of_getElem? hn)) fun H3 e3 => ?_
        refine ⟨⟨_, rfl⟩, Ex.mut (e2.trans e3) hD, ?_⟩
        rw [upd_same, setAll_take _ hn, List.map_set]
    · rintro σ' H' ⟨⟨v, rfl⟩, e2, hD2⟩
      rw [List.length_map, List.take_length] at hD2
      obtain ⟨dx2, l2, g1, _⟩ := hS.ex e2
      refine ⟨_, rfl, a, C, dx2, _, _, rfl, g1, T.cs.cl, T.cs.nh, sF_h, _, rfl, a, C, dx2, _, _, rfl, g1, T.cs.cl, T.cs.nw, sF_w, _, rfl, ?_⟩
      exact mk_strip (H0 := H) (st := colouredS st ns c) (g.coloured ns hc) e2 ((off_ne hD).trans hD2) fun x H3 nx e3 h3 => q x H3 (fresh_back e2 nx) (e2.trans e3) h3

/-! ### colouring_fits -/
abbrev s_colouring_fits : Stmt := top 35
abbrev N_colouring_fits : List Str := ["strip", "x", "y", "colour"]
theorem sc_colouring_fits : FnScope N_colouring_fits ["strip", "x", "y", "colour"] (defScope s_colouring_fits) := ⟨rfl, rfl, rfl, by decide +kernel, rfl, by decide +kernel, by decide +kernel⟩
def fitsC (st : Wp01.Strip) (x y c : Int) : Bool := !decide (Wp01.far x = false ∨ y < 0 ∨ Wp01.nat st.h ≤ y ∨ Wp01.colour c = false)
def spFitsC (K : PySem.W.Frag) (C : Addr) : Sp := fun vs H Q _ => ∃ (a : Addr) (st : Wp01.Strip) (x y c : Int), vs = [.ref a, .int x, .int y, .int c] ∧ StripA K C H a st ∧ ∀ H', Ex H H' → Q (.bl (fitsC st x y c)) H'
theorem fitsC_eq (st : Wp01.Strip) (x y c : Int) : fitsC st x y c = (Wp01.far x && (decide (0 ≤ y) && (decide (y < (st.h : Int)) && Wp01.colour c))) := by
  unfold fitsC Wp01.nat
  cases Wp01.far x with
  | false => simp
  | true =>
    cases Wp01.colour c with
    | false => simp
    | true =>
      by_cases h1 : 0 ≤ y
      · by_cases h2 : y < (st.h : Int)
        · rw [decide_eq_true h1, decide_eq_true h2, decide_eq_false (fun z => z.elim (fun z => by cases z) fun z => z.elim (fun z => by omega) fun z => z.elim (fun z => by omega) fun z => by cases z)]; rfl
        · rw [decide_eq_true h1, decide_eq_false h2, decide_eq_true (.inr (.inr (.inl (by omega))))]; rfl
      · rw [decide_eq_false h1, decide_eq_true (.inr (.inl (by omega)))]; rfl
theorem ok_colouring_fits {f : Addr} {fd : FuncData} (F : Fun K "colouring_fits" "colouring_fits" s_colouring_fits f fd) (T : Txt K mg C CL kA) (G_is_near : Has P w K mg base "is_near" ["number"] 1 spIsNear) (G_is_colour : Has P w K mg base "is_colour" ["number"] 1 spIsColour) : FnOk P w K mg base CX0 2 f fd ["strip", "x", "y", "colour"] (spFitsC K C) := by
  refine F.ok sc_colouring_fits (fun vs H Q E h => ?_) (fun cdv A outer s H vs Q E hr h => ?_)
  · obtain ⟨a, st, x, y, c, rfl, _⟩ := h
    rfl
  · obtain ⟨a, st, x, y, c, rfl, hS, q⟩ := h
    refine ⟨_, (pss_one (ps_ret (pe_and (pcall G_is_near (hr.mono (by decide)) (by rfl) (pa_cons (pv 1) pa_nil)) (pe_and (pe_cmpR op_ge (pv 2) pe_int (nomark _)) (pe_and (pe_cmpR op_lt (pv 2) (pe_fld (pv 0) rfl) (nomark _)) (pe_one (pcall G_is_colour (hr.mono (by decide)) (by rfl) (pa_cons (pv 3) pa_nil)))))))), ?_⟩
    rw [fitsC_eq] at q
    refine s_ret (ev_andV (ev_call (ea_cons (ev_var rfl) ea_nil) fun H3 e3 Q' q' E' => ⟨x, rfl, q' H3 (Ex.refl H3)⟩) fun _ => ev_andV (ev_op (ev_var rfl) ev_c rv_I0) fun _ => ev_andV (ev_op (ev_var rfl) (ev_h T.cs hS (ev_var rfl)) rv_I0) fun _ => ev_call (ea_cons (ev_var rfl) ea_nil) fun H3 e3 Q' q' E' => ⟨c, rfl, q' H3 (Ex.refl H3)⟩) fun H1 e1 => q H1 e1
end
end B

end

section
set_option Elab.async false
set_option linter.all false
set_option maxRecDepth 100000
set_option maxHeartbeats 2000000
namespace B
open PySem L2 Evl
theorem et_yes {σ : L2.St} {H : Hp} : EvT tYes σ H true := fun H1 _ _ q => q H1 (Ex.refl H1)
theorem given_all {n : Nat} {v : Nat → V} : given n (fun _ => true) v = (List.range n).map v := by
  unfold given
  rw [List.filter_eq_self.2 (fun _ _ => rfl)]
theorem range_get {α : Type} (r : List Int) (f : Int → α) : (List.range r.length).map (fun i => f (r.getD i 0)) = r.map f := by
  apply List.ext_getElem?
  intro i
  rw [List.getElem?_map, List.getElem?_map]
  by_cases h : i < r.length
  · rw [List.getElem?_range h, List.getElem?_eq_getElem h]
    simp [List.getD_eq_getElem?_getD, List.getElem?_eq_getElem h]
  · rw [List.getElem?_eq_none (by rw [List.length_range]; omega), List.getElem?_eq_none (by omega)]
    rfl
def fitsS (h : Int) (r : List Int) : Bool := !decide (h < 1 ∨ (Wp01.HIGH : Int) < h ∨ r = [] ∨ r.length % h.toNat ≠ 0 ∨ Wp01.WIDE * h.toNat < r.length ∨ r.all Wp01.colour = false)
section
variable {P : Program} {w : World} {K : PySem.W.Frag} {mg : Str → Option Value} {base : Heap} {C CL kA : Addr}

/-! ### are_colours -/
abbrev s_are_colours : Stmt := top 32
abbrev N_are_colours : List Str := ["numbers", "number"]
theorem sc_are_colours : FnScope N_are_colours ["numbers"] (defScope s_are_colours) := ⟨rfl, rfl, rfl, by decide +kernel, rfl, by decide +kernel, by decide +kernel⟩
def spAre (K : PySem.W.Frag) : Sp := fun vs H Q _ => ∃ (l : Addr) (r : List Int), vs = [.ref l] ∧ SqL K H l (r.map V.int) ∧ r.length ≤ 5000 ∧ ∀ H', Ex H H' → Q (.bl (r.all Wp01.colour)) H'
theorem ok_are_colours {f : Addr} {fd : FuncData} (F : Fun K "are_colours" "are_colours" s_are_colours f fd) (T : Txt K mg C CL kA) (G_is_colour : Has P w K mg base "is_colour" ["number"] 1 spIsColour) : FnOk P w K mg base CX0 2 f fd ["numbers"] (spAre K) := by
  refine F.ok sc_are_colours (fun vs H Q E h => ?_) (fun cdv A outer s H vs Q E hr h => ?_)
  · obtain ⟨l, r, rfl, _⟩ := h
    rfl
  · obtain ⟨l, r, rfl, hL, hlen, q⟩ := h
    refine ⟨_, (pss_one (ps_ret (pe_callB (cr_all rfl) (by rfl) T.b_all (by decide +kernel) (pa_cons (pe_lc (own := [("number", 1)]) (g := gName 1) (by rfl) sc_are_colours.nd (pi_list (pv 0)) (blkOk_by (own := [("number", 1)]) (N := N_are_colours) (sc := defScope s_are_colours) (by decide +kernel)) (fun _ _ _ _ _ => (pg_name (i := 1) sc_are_colours.nd rfl (Or.inl rfl))) (fun _ _ _ _ _ => pts_nil) (fun _ _ _ _ _ => (pcall G_is_colour (hr.mono (by decide)) (by rfl) (pa_cons (pv 1) pa_nil)))) pa_nil)))), ?_⟩
    refine s_ret (v := .bl (r.all Wp01.colour)) ?_ fun H2 e2 => q H2 e2
    intro H1 e1 Q' q'
    have lc := el_lcL (K := K) (a := l) (σ := [some (.ref l), none]) (H := H) (xs := r.map V.int) (tl := tVar 0) (j := 1) (vs := [1]) (t := tYes) (te := tCall spIsColour [] E0 (tCons (tVar 1) tNil)) (fun _ => true) (fun i => .bl (Wp01.colour (r.getD i 0))) (ev_var rfl) hL (by rw [List.length_map]; omega) (fun x => rfl) (fun i x H1 e1 hx => et_yes) (fun i x H1 e1 hx _ => by
      rw [List.getElem?_map] at hx
      cases hr : r[i]? with
      | none => rw [hr] at hx; cases hx
      | some z =>
        rw [hr] at hx
        cases hx
        have e : r.getD i 0 = z := by rw [List.getD_eq_getElem?_getD, hr]; rfl
        rw [e]
        exact ev_call (ea_cons (ev_var rfl) ea_nil) fun H3 e3 Q' q' E' => ⟨z, rfl, q' H3 (Ex.refl H3)⟩)
    refine lc H1 e1 (fun x H' => rAll K [x] H' Q') fun p H2 np e2 hp2 => ?_
    rw [given_all, List.length_map, range_get r (fun z => V.bl (Wp01.colour z))] at hp2
    have e3 : r.map (fun z => V.bl (Wp01.colour z)) = (r.map Wp01.colour).map V.bl := by rw [List.map_map]; rfl
    rw [e3] at hp2
    refine ⟨p, r.map Wp01.colour, rfl, SqL.of hp2, ?_⟩
    have e4 : (r.map Wp01.colour).all id = r.all Wp01.colour := by rw [List.all_map]; rfl
    rw [e4]
    exact q' H2 e2

/-! ### strip_fits -/
abbrev s_strip_fits : Stmt := top 34
abbrev N_strip_fits : List Str := ["h", "colours"]
theorem sc_strip_fits : FnScope N_strip_fits ["h", "colours"] (defScope s_strip_fits) := ⟨rfl, rfl, rfl, by decide +kernel, rfl, by decide +kernel, by decide +kernel⟩
def spFitsS (K : PySem.W.Frag) : Sp := fun vs H Q _ => ∃ (h : Int) (l : Addr) (r : List Int), vs = [.int h, .ref l] ∧ SqL K H l (r.map V.int) ∧ r.length ≤ 5000 ∧ ∀ H', Ex H H' → Q (.bl (fitsS h r)) H'
theorem ok_strip_fits {f : Addr} {fd : FuncData} (F : Fun K "strip_fits" "strip_fits" s_strip_fits f fd) (T : Txt K mg C CL kA) (G_are_colours : Has P w K mg base "are_colours" ["numbers"] 2 (spAre K)) : FnOk P w K mg base CX0 3 f fd ["h", "colours"] (spFitsS K) := by
  refine F.ok sc_strip_fits (fun vs H Q E h => ?_) (fun cdv A outer s H vs Q E hr h => ?_)
  · obtain ⟨h, l, r, rfl, _⟩ := h
    rfl
  · obtain ⟨h, l, r, rfl, hL, hlen, q⟩ := h
    refine ⟨_, (pss_cons (ps_if (PW.pt (pw_or (pt_cmpR op_lt (pv 0) pe_int (nomark _)) (pw_or1 (pt_cmpR op_gt (pv 0) (pglob (by rfl) T.c_MOST_ROWS) (nomark _))))) (pss_one (ps_ret pe_bl)) pss_nil)
      (pss_cons (ps_if (PW.pt (pw_or (pt_cmpR op_eq (pe_callB call_len_seq (by rfl) T.b_len PySem.boot_len (pa_cons (pv 1) pa_nil)) pe_int (nomark _)) (pw_or (pt_cmpR op_ne (pe_op op_mod (pe_callB call_len_seq (by rfl) T.b_len PySem.boot_len (pa_cons (pv 1) pa_nil)) (pv 0)) pe_int (nomark _)) (pw_or1 (pt_cmpR op_gt (pe_op op_fdiv (pe_callB call_len_seq (by rfl) T.b_len PySem.boot_len (pa_cons (pv 1) pa_nil)) (pv 0)) (pglob (by rfl) T.c_MOST_COLUMNS) (nomark _)))))) (pss_one (ps_ret pe_bl)) pss_nil)
      (pss_one (ps_ret (pcall G_are_colours (hr.mono (by decide)) (by rfl) (pa_cons (pv 1) pa_nil)))))), ?_⟩
    have no : ∀ H', Ex H H' → (h < 1 ∨ (Wp01.HIGH : Int) < h ∨ r = [] ∨ r.length % h.toNat ≠ 0 ∨ Wp01.WIDE * h.toNat < r.length ∨ r.all Wp01.colour = false) → Q (.bl false) H' := by
      intro H' e z
      have q := q H' e
      unfold fitsS at q
      rw [decide_eq_true z] at q
      exact q
    have hh : (Wp01.HIGH : Int) = 6 := rfl
    refine ⟨_, rfl, _, _, rfl, rfl, _, rfl, ?_⟩
    refine ite2 (fun z => iteT ?_) (fun z => ?_)
    · exact no H (Ex.refl H) (.inl (of_decide_eq_true z))
    have z1 : ¬ h < 1 := fun y => z (decide_eq_true y)
    refine ⟨_, rfl, _, _, rfl, rfl, _, rfl, ?_⟩
    refine ite2 (fun z => ?_) (fun z => ?_)
    · exact no H (Ex.refl H) (.inr (.inl (by rw [hh]; exact of_decide_eq_true z)))
    have z2 : ¬ 6 < h := fun y => z (decide_eq_true y)
    have hn : h = ((h.toNat : Nat) : Int) := by omega
    have hp : 0 < h.toNat := by omega
    have hmod : ∀ (n : Nat), (n : Int) % h = ((n % h.toNat : Nat) : Int) := fun n => by
      rw [hn]; simp
    have hdiv : ∀ (n : Nat), (n : Int) / h = ((n / h.toNat : Nat) : Int) := fun n => by
      rw [hn]; simp
    have hw : Wp01.WIDE = 12 := rfl
    have vi : ∀ i j : Int, decide (V.int i = V.int j) = decide (i = j) := fun i j => by
      by_cases c : i = j
      · rw [c]; simp
      · rw [decide_eq_false c, decide_eq_false]
        intro z
        injection z with z
        exact c z
    refine q_when (b := decide (r.length = 0) || (decide (r.length % h.toNat ≠ 0) || decide (12 < r.length / h.toNat)))
      (et_or (et_is (et_test (ev_op (ev_len (ev_var rfl) hL) ev_c (rv_eq rfl))) (by rw [vi, List.length_map, decide_eq_decide]; omega)) (fun _ => et_or
        (et_is (et_test (ev_op (ev_op (ev_len (ev_var rfl) hL) (ev_var rfl) (rv_I (show (0 : Int) < h by omega))) ev_c (rv_ne rfl))) (by rw [vi, List.length_map, hmod, ← decide_not, decide_eq_decide]; omega))
        (fun _ => et_is (et_test (ev_op (ev_op (ev_len (ev_var rfl) hL) (ev_var rfl) (rv_I (show CDiv _ h from ⟨by omega, by omega⟩))) ev_c rv_I0)) (by rw [List.length_map, hdiv, decide_eq_decide]; omega))))
      (fun hb H1 e1 => ?_) (fun hb H1 e1 => ?_)
    · refine s_ret (ev_c (v := .bl false)) fun H2 e2 => no H2 (e1.trans e2) ?_
      rw [Bool.or_eq_true, Bool.or_eq_true, decide_eq_true_eq, decide_eq_true_eq, decide_eq_true_eq] at hb
      rcases hb with y | y | y
      · exact .inr (.inr (.inl (List.length_eq_zero_iff.1 y)))
      · exact .inr (.inr (.inr (.inl y)))
      · refine .inr (.inr (.inr (.inr (.inl ?_))))
        rw [hw]
        have y2 : 13 ≤ r.length / h.toNat := by omega
        rw [Nat.le_div_iff_mul_le hp] at y2
        omega
    rw [Bool.or_eq_false_iff, Bool.or_eq_false_iff, decide_eq_false_iff_not, decide_eq_false_iff_not, decide_eq_false_iff_not] at hb
    obtain ⟨b1, b2, b3⟩ := hb
    have z3 : ¬ r = [] := fun y => b1 (by rw [y]; rfl)
    have z4 : r.length % h.toNat = 0 := by omega
    have z5 : ¬ 12 * h.toNat < r.length := by
      intro y
      have e := Nat.div_add_mod r.length h.toNat
      rw [z4] at e
      have : h.toNat * (r.length / h.toNat) ≤ h.toNat * 12 := Nat.mul_le_mul_left _ (by omega)
      omega
    have e01 := e1
    clear e1
    refine s_ret (v := .bl (r.all Wp01.colour)) ?_ fun H2 e2 => ?_
    · exact ev_call (ea_cons (ev_var rfl) ea_nil) fun H3 e3 Q' q' E' => ⟨l, r, rfl, ex_l (e01.trans e3) hL, by omega, q'⟩
    · have q1 := q H2 (e01.trans e2)
      have e : fitsS h r = r.all Wp01.colour := by
        unfold fitsS
        rw [hh, hw]
        cases hc : r.all Wp01.colour with
        | true =>
          rw [decide_eq_false]
          · rfl
          · rintro (y | y | y | y | y | y)
            · exact z1 y
            · exact z2 y
            · exact z3 y
            · exact y z4
            · exact z5 y
            · cases y
        | false =>
          rw [decide_eq_true]
          · rfl
          · exact .inr (.inr (.inr (.inr (.inr rfl))))
      rw [e] at q1
      exact q1
end
end B

end

section
set_option Elab.async false
set_option linter.all false
set_option maxRecDepth 100000
set_option maxHeartbeats 2000000
namespace B
open PySem L2 Evl
/-! ### A heap without one object: what stands there does not hang on it -/
def hide (D : Addr) (H : Hp) : Hp := fun a => if a = D then none else H a
theorem hide_ne {D a : Addr} {H : Hp} (h : a ≠ D) : hide D H a = H a := if_neg h
theorem hide_upd {D : Addr} {H : Hp} {o : HO} : hide D (upd H D o) = hide D H := by
  funext a
  unfold hide
  by_cases h : a = D
  · rw [if_pos h, if_pos h]
  · rw [if_neg h, if_neg h, upd_ne h]
theorem hide_ex {D : Addr} {H : Hp} : Ex (hide D H) H := fun a o h => by
  unfold hide at h
  by_cases c : a = D
  · rw [if_pos c] at h; cases h
  · rw [if_neg c] at h; exact h
theorem Ex.hide {D : Addr} {H H' : Hp} (e : Ex H H') : Ex (B.hide D H) (B.hide D H') := fun a o h => by
  unfold B.hide at h ⊢
  by_cases c : a = D
  · rw [if_pos c] at h; cases h
  · rw [if_neg c] at h ⊢; exact e a o h
/-! ### Calls in the heap -/
section
variable (K : PySem.W.Frag)
def IntsA (_ : PySem.W.Frag) (H : Hp) (v : V) (ns : List Int) : Prop := ∃ l, v = .ref l ∧ H l = some (.lst (ns.map V.int))
def RowsL (H : Hp) (rs : List V) (xs : List (List Int)) : Prop := rs.length = xs.length ∧ ∀ (i : Nat) (x : List Int), xs[i]? = some x → ∃ r, rs[i]? = some r ∧ IntsA K H r x
def RowsA (H : Hp) (v : V) (xs : List (List Int)) : Prop := ∃ l rs, v = .ref l ∧ SqL K H l rs ∧ RowsL K H rs xs
def CallA (H : Hp) (v : V) (c : List (List Int)) : Prop := ∃ (t : Addr) (p : Int) (ns : List Int) (xs : List (List Int)) (a b : V), v = .ref t ∧ c = (p :: ns) :: xs ∧ SqT K H t [.int p, a, b] ∧ IntsA K H a ns ∧ RowsA K H b xs
def CallsL (H : Hp) (vs : List V) (cs : List (List (List Int))) : Prop := vs.length = cs.length ∧ ∀ (i : Nat) (c : List (List Int)), cs[i]? = some c → ∃ v, vs[i]? = some v ∧ CallA K H v c
end
section
variable {K : PySem.W.Frag} {H H' : Hp}
theorem IntsA.ex {v : V} {ns : List Int} (e : Ex H H') (h : IntsA K H v ns) : IntsA K H' v ns := let ⟨l, h1, h2⟩ := h; ⟨l, h1, e _ _ h2⟩
theorem RowsL.ex {rs : List V} {xs : List (List Int)} (e : Ex H H') (h : RowsL K H rs xs) : RowsL K H' rs xs := ⟨h.1, fun i x hx => let ⟨r, h1, h2⟩ := h.2 i x hx; ⟨r, h1, h2.ex e⟩⟩
theorem RowsA.ex {v : V} {xs : List (List Int)} (e : Ex H H') (h : RowsA K H v xs) : RowsA K H' v xs := let ⟨l, rs, h1, h2, h3⟩ := h; ⟨l, rs, h1, ex_l e h2, h3.ex e⟩
theorem CallA.ex {v : V} {c : List (List Int)} (e : Ex H H') (h : CallA K H v c) : CallA K H' v c := let ⟨t, p, ns, xs, a, b, h1, h2, h3, h4, h5⟩ := h; ⟨t, p, ns, xs, a, b, h1, h2, ex_t e h3, h4.ex e, h5.ex e⟩
theorem CallsL.ex {vs : List V} {cs : List (List (List Int))} (e : Ex H H') (h : CallsL K H vs cs) : CallsL K H' vs cs := ⟨h.1, fun i x hx => let ⟨r, h1, h2⟩ := h.2 i x hx; ⟨r, h1, h2.ex e⟩⟩
theorem snoc_get {α β : Type} {P : α → β → Prop} {vs : List α} {cs : List β} {v : α} {c : β} (h : vs.length = cs.length ∧ ∀ (i : Nat) (c : β), cs[i]? = some c → ∃ v, vs[i]? = some v ∧ P v c) (hv : P v c) :
    (vs ++ [v]).length = (cs ++ [c]).length ∧ ∀ (i : Nat) (z : β), (cs ++ [c])[i]? = some z → ∃ u, (vs ++ [v])[i]? = some u ∧ P u z := by
  refine ⟨by rw [List.length_append, List.length_append, h.1]; rfl, fun i z hi => ?_⟩
  by_cases k : i < cs.length
  · rw [List.getElem?_append_left k] at hi
    obtain ⟨u, h1, h2⟩ := h.2 i z hi
    exact ⟨u, by rw [List.getElem?_append_left (by rw [h.1]; exact k)]; exact h1, h2⟩
  · have l1 := (List.getElem?_eq_some_iff.mp hi).1
    rw [List.length_append, List.length_singleton] at l1
    have e : i = cs.length := by omega
    subst e
    rw [List.getElem?_append_right (Nat.le_refl _), Nat.sub_self] at hi
    cases hi
    exact ⟨v, by rw [List.getElem?_append_right (by rw [h.1]; exact Nat.le_refl _), h.1, Nat.sub_self]; rfl, hv⟩
end
/-! ### The flat list -/
open PyFlat (putRow putRows)
open PyWide (put put1)
theorem put_app : ∀ (a b : List (List (List Int))), put (a ++ b) = put a ++ put b
  | [], b => rfl
  | c :: a, b => by
    show put1 c ++ put (a ++ b) = (put1 c ++ put a) ++ put b
    rw [put_app a b, List.append_assoc]
theorem rows_app : ∀ (a b : List (List Int)), putRows (a ++ b) = putRows a ++ putRows b
  | [], b => rfl
  | c :: a, b => by
    show putRow c ++ putRows (a ++ b) = (putRow c ++ putRows a) ++ putRows b
    rw [rows_app a b, List.append_assoc]
theorem rows_len : ∀ (a : List (List Int)), a.length ≤ (putRows a).length
  | [] => Nat.le_refl _
  | c :: a => by
    have := rows_len a
    show a.length + 1 ≤ (putRow c ++ putRows a).length
    rw [List.length_append]
    show _ ≤ (c.length + 1) + _
    omega
theorem put_len : ∀ (a : List (List (List Int))), (∀ c ∈ a, PyWide.okCall c) → a.length ≤ (put a).length
  | [], _ => Nat.le_refl _
  | c :: a, h => by
    have := put_len a fun d hd => h d (List.mem_cons_of_mem _ hd)
    obtain ⟨p, ns, xs, rfl⟩ := h c List.mem_cons_self
    show a.length + 1 ≤ (put1 ((p :: ns) :: xs) ++ put a).length
    rw [List.length_append]
    show _ ≤ (_ + 1) + _
    omega
theorem get_at {l a b : List Int} {i : Nat} {z : Int} (e : l = a ++ z :: b) (hi : a.length = i) : (l.map V.int)[i]? = some (.int z) := by
  subst e hi
  rw [List.getElem?_map, List.getElem?_append_right (Nat.le_refl _), Nat.sub_self]
  rfl
theorem sIx_nat {n d i : Nat} (h : i ≤ n) : HT.sIx n d (some (i : Int)) = i := by
  rw [HT.sIx_nat]; omega
theorem cut_at {l a m b : List Int} {i j : Nat} (e : l = a ++ (m ++ b)) (hi : a.length = i) (hj : i + m.length = j) : cutV (l.map V.int) (some (i : Int)) (some (j : Int)) = m.map V.int := by
  subst e hi hj
  unfold cutV
  have h1 : a.length ≤ ((a ++ (m ++ b)).map V.int).length := by simp
  have h2 : a.length + m.length ≤ ((a ++ (m ++ b)).map V.int).length := by simp
  rw [sIx_nat h1, sIx_nat h2, ← List.map_drop, ← List.map_take]
  congr 1
  rw [List.drop_append_of_le_length (Nat.le_refl _), List.drop_length, List.nil_append, Nat.add_sub_cancel_left, List.take_append_of_le_length (Nat.le_refl _), List.take_length]
theorem ev_add {σ : L2.St} {H : Hp} {ta tb : TE} {i j : Nat} (ha : Ev ta σ H (nI i)) (hb : Ev tb σ H (nI j)) : Ev (tOp (rI0 fun i j => .int (i + j)) ta tb) σ H (nI (i + j)) := ev_is (ev_op ha hb rv_I0) (by unfold nI; congr 1)
theorem ev_ixN {K : PySem.W.Frag} {σ : L2.St} {H : Hp} {ta tb : TE} {l : Addr} {xs : List V} {i : Nat} {v : V} (ha : Ev ta σ H (.ref l)) (hb : Ev tb σ H (nI i)) (h : SqL K H l xs) (g : xs[i]? = some v) : Ev (tOp (rIxL K) ta tb) σ H v := ev_op ha hb (rv_ixL h (atI_nat g))
section
variable {P : Program} {w : World} {K : PySem.W.Frag} {mg : Str → Option Value} {base : Heap} {C CL kA : Addr}

/-! ### calls_apart -/
abbrev s_calls_apart : Stmt := top 50
abbrev N_calls_apart : List Str := ["calls", "found", "at", "call", "begin", "end", "numbers", "how_many_lists", "lists"]
theorem sc_calls_apart : FnScope N_calls_apart ["calls"] (defScope s_calls_apart) := ⟨rfl, rfl, rfl, by decide +kernel, rfl, by decide +kernel, by decide +kernel⟩
def spApart (K : PySem.W.Frag) : Sp := fun vs H Q _ => ∃ (l : Addr) (cs : List (List (List Int))), vs = [.ref l] ∧ SqL K H l ((put cs).map V.int) ∧ (put cs).length ≤ 5000 ∧ (∀ c ∈ cs, PyWide.okCall c) ∧
  ∀ p H' vs, H p = none → Ex H H' → H' p = some (.lst vs) → CallsL K (hide p (off H H')) vs cs → Q (.ref p) H'
theorem ok_calls_apart {f : Addr} {fd : FuncData} (F : Fun K "calls_apart" "calls_apart" s_calls_apart f fd) (T : Txt K mg C CL kA) : FnOk P w K mg base CX0 1 f fd ["calls"] (spApart K) := by
  refine F.ok sc_calls_apart (fun vs H Q E h => ?_) (fun cdv A outer s H vs Q E hr h => ?_)
  · obtain ⟨l, cs, rfl, _⟩ := h
    rfl
  · obtain ⟨l, cs, rfl, hL, hlen, hok, q⟩ := h
    have pl := put_len cs hok
    refine ⟨_, (pss_cons (ps_set (i := 1) sc_calls_apart.nd rfl (Or.inl rfl) (pe_lst pa_nil))
      (pss_cons (ps_set (i := 2) sc_calls_apart.nd rfl (Or.inl rfl) pe_int)
      (pss_cons (ps_while PassesOwn.never (pt_cmpR op_lt (pv 2) (pe_callB call_len_seq (by rfl) T.b_len PySem.boot_len (pa_cons (pv 0) pa_nil)) (nomark _)) (pss_cons (ps_set (i := 3) sc_calls_apart.nd rfl (Or.inl rfl) (pe_ix ix_list (pv 0) (pv 2) (fun _ _ => rfl)))
      (pss_cons (ps_set (i := 4) sc_calls_apart.nd rfl (Or.inl rfl) (pe_op op_add (pv 2) pe_int))
      (pss_cons (ps_set (i := 5) sc_calls_apart.nd rfl (Or.inl rfl) (pe_op op_add (pv 4) (pe_ix ix_list (pv 0) (pe_op op_add (pv 2) pe_int) (fun _ _ => rfl))))
      (pss_cons (ps_set (i := 6) sc_calls_apart.nd rfl (Or.inl rfl) (pe_slice sl_list (pv 0) (po_some (pv 4)) (po_some (pv 5))))
      (pss_cons (ps_set (i := 7) sc_calls_apart.nd rfl (Or.inl rfl) (pe_ix ix_list (pv 0) (pv 5) (fun _ _ => rfl)))
      (pss_cons (ps_set (i := 2) sc_calls_apart.nd rfl (Or.inl rfl) (pe_op op_add (pv 5) pe_int))
      (pss_cons (ps_set (i := 8) sc_calls_apart.nd rfl (Or.inl rfl) (pe_lst pa_nil))
      (pss_cons (ps_while PassesOwn.never (pt_cmpR op_lt (pe_callB call_len_seq (by rfl) T.b_len PySem.boot_len (pa_cons (pv 8) pa_nil)) (pv 7) (nomark _)) (pss_cons (ps_set (i := 5) sc_calls_apart.nd rfl (Or.inl rfl) (pe_op op_add (pe_op op_add (pv 2) pe_int) (pe_ix ix_list (pv 0) (pv 2) (fun _ _ => rfl))))
      (pss_cons (ps_expr (pe_bm PySem.F.plainAttrs_list PySem.F.slot_list_append PySem.F.type_list_append mt_append (pv 8) (pa_cons (pe_slice sl_list (pv 0) (po_some (pe_op op_add (pv 2) pe_int)) (po_some (pv 5))) pa_nil)))
      (pss_one (ps_set (i := 2) sc_calls_apart.nd rfl (Or.inl rfl) (pv 5))))))
      (pss_one (ps_expr (pe_bm PySem.F.plainAttrs_list PySem.F.slot_list_append PySem.F.type_list_append mt_append (pv 1) (pa_cons (pe_tup (pa_cons (pv 3) (pa_cons (pv 6) (pa_cons (pv 8) pa_nil)))) pa_nil)))))))))))))
      (pss_one (ps_ret (pv 1)))))), ?_⟩
    refine q_asgL (xs := []) (el_lst ea_nil (by decide)) fun D H1 hD e1 h1 => ?_
    refine q_asg (v := nI 0) ev_c fun H2 e2 => ?_
    refine q_while (fun m σ H' => ∃ (done rest : List (List (List Int))), cs = done ++ rest ∧ m = rest.length ∧ (∃ v3 v4 v5 v6 v7 v8 : Option V, σ = [some (.ref l), some (.ref D), some (nI (put done).length), v3, v4, v5, v6, v7, v8]) ∧ Ex H H' ∧ ∃ vs, H' D = some (.lst vs) ∧ CallsL K (hide D (off H H')) vs done) cs.length
      ⟨[], cs, rfl, rfl, ⟨_, _, _, _, _, _, rfl⟩, e1.trans e2, [], e2 _ _ h1, rfl, fun i c h => by simp at h⟩ ?_
    rintro m σ' H' ⟨done, rest, hcs, rfl, ⟨v3, v4, v5, v6, v7, v8, rfl⟩, eH, vs, hDv, hC⟩
    have hL' : SqL K H' l ((put cs).map V.int) := ex_l eH hL
    refine ⟨decide ((put done).length < (put cs).length), et_is (et_test (ev_op (ev_var rfl) (ev_len (ev_var rfl) hL') rv_I0)) (by rw [List.length_map, decide_eq_decide]; omega), fun hb H3 e3 => ?_, fun hb H3 e3 => ?_⟩
    · have hb := of_decide_eq_true hb
      cases rest with
      | nil =>
        rw [List.append_nil] at hcs
        rw [hcs] at hb
        exact absurd hb (Nat.lt_irrefl _)
      | cons c rest =>
        obtain ⟨p, ns, xs, rfl⟩ := hok c (by rw [hcs]; exact List.mem_append_right _ List.mem_cons_self)
        have hput : put cs = put done ++ p :: ((ns.length : Int) :: (ns ++ ((xs.length : Int) :: (putRows xs ++ put rest)))) := by
          rw [hcs, put_app]
          show put done ++ (put1 ((p :: ns) :: xs) ++ put rest) = _
          rw [PyWide.put1_append]
          rfl
        have hput1 : put cs = (put done ++ [p]) ++ (ns.length : Int) :: (ns ++ ((xs.length : Int) :: (putRows xs ++ put rest))) := by
          rw [hput]; simp
        have hput2 : put cs = (put done ++ [p, (ns.length : Int)]) ++ (ns ++ ((xs.length : Int) :: (putRows xs ++ put rest))) := by
          rw [hput]; simp
        have hput3 : put cs = (put done ++ [p, (ns.length : Int)] ++ ns) ++ (xs.length : Int) :: (putRows xs ++ put rest) := by
          rw [hput]; simp
        have hput4 : put cs = (put done ++ [p, (ns.length : Int)] ++ ns ++ [(xs.length : Int)]) ++ (putRows xs ++ put rest) := by
          rw [hput]; simp
        have lall := congrArg List.length hput4
        simp only [List.length_append, List.length_cons, List.length_nil] at lall
        have rl := rows_len xs
        refine ⟨fun σ2 H2 => ∃ (done' : List (List (List Int))), cs = done' ++ rest ∧ (∃ v3 v4 v5 v6 v7 v8 : Option V, σ2 = [some (.ref l), some (.ref D), some (nI (put done').length), v3, v4, v5, v6, v7, v8]) ∧ Ex H H2 ∧ ∃ vs, H2 D = some (.lst vs) ∧ CallsL K (hide D (off H H2)) vs done', fun σ2 H2 ⟨done', z1, z2, z3, z4⟩ => ⟨rest.length, by simp, done', rest, z1, rfl, z2, z3, z4⟩, ?_⟩
        have L3 := ex_l e3 hL'
        refine q_asg (v := .int p) (ev_ixN (ev_var rfl) (ev_var rfl) L3 (get_at hput rfl)) fun H4 e4 => ?_
        refine q_asg (v := nI ((put done).length + 2)) (ev_add (ev_var rfl) (ev_c (v := nI 2))) fun H5 e5' => ?_
        have L5 := ex_l (e4.trans e5') L3
        refine q_asg (v := nI ((put done).length + 2 + ns.length)) (ev_add (ev_var rfl) (ev_ixN (ev_var rfl) (ev_add (ev_var rfl) (ev_c (v := nI 1))) L5 (get_at hput1 (by simp)))) fun H6 e6 => ?_
        have L6 := ex_l e6 L5
        refine q_asgL (xs := ns.map V.int) ?_ fun pn H7 npn e7 h7 => ?_
        · have := el_sl (K := K) (σ := [some (.ref l), some (.ref D), some (nI (put done).length), some (.int p), some (nI ((put done).length + 2)), some (nI ((put done).length + 2 + ns.length)), v6, v7, v8]) (te := tVar 0) (tl := tPart (tVar 4)) (th := tPart (tVar 5)) (ev_var rfl) (eo_some (ev_var rfl)) (eo_some (ev_var rfl)) L6
          rw [cut_at hput2 (by simp) rfl] at this
          exact this
        have L7 := ex_l e7 L6
        refine q_asg (v := nI xs.length) (ev_ixN (ev_var rfl) (ev_var rfl) L7 (get_at hput3 (by simp; omega))) fun H8 e8 => ?_
        refine q_asg (v := nI ((put done).length + 2 + ns.length + 1)) (ev_add (ev_var rfl) (ev_c (v := nI 1))) fun H9 e9 => ?_
        refine q_asgL (xs := []) (el_lst ea_nil (by decide)) fun E H10 hE e10 h10 => ?_
        have e39 := ((((e4.trans e5').trans e6).trans e7).trans e8).trans e9
        have L9 : SqL K H9 l ((put cs).map V.int) := ex_l (e8.trans e9) L7
        have D9 : H9 D = some (.lst vs) := e39 _ _ (e3 _ _ hDv)
        have C9 : CallsL K (hide D (off H H9)) vs done := hC.ex (Ex.hide (Ex.off (e3.trans e39)))
        have N9 : H9 pn = some (.lst (ns.map V.int)) := e9 _ _ (e8 _ _ h7)
        have nED : E ≠ D := fun z => by rw [z, D9] at hE; cases hE
        have npD : pn ≠ D := fun z => by
          have y := e6 _ _ (e5' _ _ (e4 _ _ (e3 _ _ hDv)))
          rw [z, y] at npn; cases npn
        have E9 : Ex H H9 := (eH.trans e3).trans e39
        refine q_while (fun m σ2 G => ∃ (j : Nat), j ≤ xs.length ∧ m = xs.length - j ∧ (∃ v5 : Option V, σ2 = [some (.ref l), some (.ref D), some (nI ((put done).length + 2 + ns.length + 1 + (putRows (xs.take j)).length)), some (.int p), some (nI ((put done).length + 2)), v5, some (.ref pn), some (nI xs.length), some (.ref E)]) ∧ Ex H9 G ∧ ∃ rs, G E = some (.lst rs) ∧ RowsL K (hide E (hide D (off H G))) rs (xs.take j)) xs.length
          ⟨0, Nat.zero_le _, rfl, ⟨_, rfl⟩, e10, [], h10, rfl, fun i c h => by simp at h⟩ ?_
        rintro m σ2 G ⟨j, hj, rfl, ⟨v5, rfl⟩, eG, rs, hEr, hR⟩
        have rsl : rs.length = j := by rw [hR.1, List.length_take]; omega
        refine ⟨decide (j < xs.length), et_is (et_test (ev_op (ev_len (ev_var rfl) (sq_of (K := K) hEr)) (ev_var rfl) rv_I0)) (by rw [rsl, decide_eq_decide]; omega), fun hb2 G1 d1 => ?_, fun hb2 G1 d1 => ?_⟩
        · have hj2 := of_decide_eq_true hb2
          obtain ⟨x, hx⟩ : ∃ x, xs[j]? = some x := ⟨xs[j], List.getElem?_eq_getElem hj2⟩
          have hxs : xs = xs.take j ++ x :: xs.drop (j + 1) := by
            have := List.getElem?_eq_some_iff.mp hx
            obtain ⟨_, rfl⟩ := this
            rw [← List.drop_eq_getElem_cons hj2, List.take_append_drop]
          have hrows : putRows xs = putRows (xs.take j) ++ ((x.length : Int) :: (x ++ putRows (xs.drop (j + 1)))) := by
            conv => lhs; rw [hxs]
            rw [rows_app]
            rfl
          have q1 : put cs = (put done ++ [p, (ns.length : Int)] ++ ns ++ [(xs.length : Int)] ++ putRows (xs.take j)) ++ (x.length : Int) :: (x ++ (putRows (xs.drop (j + 1)) ++ put rest)) := by
            rw [hput4, hrows]; simp
          have q2 : put cs = (put done ++ [p, (ns.length : Int)] ++ ns ++ [(xs.length : Int)] ++ putRows (xs.take j) ++ [(x.length : Int)]) ++ (x ++ (putRows (xs.drop (j + 1)) ++ put rest)) := by
            rw [hput4, hrows]; simp
          have tk : xs.take (j + 1) = xs.take j ++ [x] := by rw [List.take_add_one, hx]; rfl
          have LG := ex_l (eG.trans d1) L9
          refine ⟨fun σ3 G' => (∃ v5 : Option V, σ3 = [some (.ref l), some (.ref D), some (nI ((put done).length + 2 + ns.length + 1 + (putRows (xs.take (j + 1))).length)), some (.int p), some (nI ((put done).length + 2)), v5, some (.ref pn), some (nI xs.length), some (.ref E)]) ∧ Ex H9 G' ∧ ∃ rs, G' E = some (.lst rs) ∧ RowsL K (hide E (hide D (off H G'))) rs (xs.take (j + 1)), fun σ3 G' ⟨z1, z2, z3⟩ => ⟨xs.length - (j + 1), by omega, j + 1, by omega, rfl, z1, z2, z3⟩, ?_⟩
          refine q_asg (v := nI ((put done).length + 2 + ns.length + 1 + (putRows (xs.take j)).length + 1 + x.length)) (ev_add (ev_add (ev_var rfl) (ev_c (v := nI 1))) (ev_ixN (ev_var rfl) (ev_var rfl) LG (get_at q1 (by simp; omega)))) fun G2 d2 => ?_
          have LG2 := ex_l d2 LG
          have hE2 := d2 _ _ (d1 _ _ hEr)
          refine q_appL (l := E) (xs := rs) (ys := x.map V.int) hE2 (ev_var rfl) ?_ (by omega) fun px G3 npx d3 h3 => ?_
          · have := el_sl (K := K) (σ := [some (.ref l), some (.ref D), some (nI ((put done).length + 2 + ns.length + 1 + (putRows (xs.take j)).length)), some (.int p), some (nI ((put done).length + 2)), some (nI ((put done).length + 2 + ns.length + 1 + (putRows (xs.take j)).length + 1 + x.length)), some (.ref pn), some (nI xs.length), some (.ref E)]) (te := tVar 0) (tl := tPart (tOp (rI0 fun i j => .int (i + j)) (tVar 2) (tC (.int 1)))) (th := tPart (tVar 5)) (ev_var rfl) (eo_some (ev_add (i := (put done).length + 2 + ns.length + 1 + (putRows (xs.take j)).length) (j := 1) (ev_var rfl) ev_c)) (eo_some (ev_var rfl)) LG2
            rw [cut_at q2 (by simp; omega) rfl] at this
            exact this
          have d13 := (d1.trans d2).trans d3
          have nxE : px ≠ E := fun z => by rw [z, hE2] at npx; cases npx
          have D2 := (d1.trans d2) _ _ (eG _ _ D9)
          have nxD : px ≠ D := fun z => by rw [z, D2] at npx; cases npx
          refine s_asg (ev_var rfl) fun G4 d4 => ?_
          refine ⟨⟨some (nI ((put done).length + 2 + ns.length + 1 + (putRows (xs.take j)).length + 1 + x.length)), ?_⟩, (Ex.mut (eG.trans d13) hE).trans d4, _, d4 _ _ upd_same, ?_⟩
          · rw [tk, rows_app, List.length_append]
            have e1 : (putRows [x]).length = x.length + 1 := by
              show (((x.length : Int) :: x) ++ []).length = _
              rw [List.append_nil]
              rfl
            have e : (put done).length + 2 + ns.length + 1 + ((putRows (xs.take j)).length + (putRows [x]).length) = (put done).length + 2 + ns.length + 1 + (putRows (xs.take j)).length + 1 + x.length := by omega
            rw [e]
            rfl
          · rw [tk]
            have b1 : RowsL K (hide E (hide D (off H (upd G3 E (.lst (rs ++ [.ref px])))))) (rs ++ [.ref px]) (xs.take j ++ [x]) := by
              have e5 : hide E (hide D (off H (upd G3 E (.lst (rs ++ [.ref px]))))) = hide E (hide D (off H G3)) := by
                funext a
                unfold hide off
                by_cases c : a = E
                · rw [if_pos c, if_pos c]
                · rw [if_neg c, if_neg c, upd_ne c]
              rw [e5]
              exact snoc_get (hR.ex (Ex.hide (Ex.hide (Ex.off d13)))) ⟨px, rfl, by rw [hide_ne nxE, hide_ne nxD, off_ne (fresh_back ((E9.trans eG).trans (d1.trans d2)) npx)]; exact h3⟩
            exact b1.ex (Ex.hide (Ex.hide (Ex.off d4)))
        · have hj2 := of_decide_eq_false hb2
          have hjl : j = xs.length := by omega
          subst hjl
          rw [List.take_length] at hR
          have D1 := d1 _ _ (eG _ _ D9)
          have dl : vs.length ≤ 5000 := by
            rw [hC.1]
            have : done.length ≤ cs.length := by rw [hcs, List.length_append]; omega
            omega
          refine s_appU (l := D) (xs := vs) (ys := [.int p, .ref pn, .ref E]) D1 (ev_var rfl) (eu_tup (ea_cons (ev_var rfl) (ea_cons (ev_var rfl) (ea_cons (ev_var rfl) ea_nil))) (by show 3 ≤ 100000; decide)) (by omega) fun t G2 nt d2 h2 => ?_
          have ntD : t ≠ D := fun z => by rw [z, D1] at nt; cases nt
          refine ⟨done ++ [(p :: ns) :: xs], ?_, ⟨some (.int p), some (nI ((put done).length + 2)), v5, some (.ref pn), some (nI xs.length), some (.ref E), ?_⟩, Ex.mut (((E9.trans eG).trans d1).trans d2) hD, _, upd_same, ?_⟩
          · rw [hcs]; simp
          · rw [put_app, List.length_append, List.take_length]
            have e : (put [(p :: ns) :: xs]).length = 2 + ns.length + 1 + (putRows xs).length := by
              show (p :: (putRow ns ++ ((xs.length : Int) :: putRows xs)) ++ []).length = _
              rw [List.append_nil]
              show ((ns.length : Int) :: ns ++ ((xs.length : Int) :: putRows xs)).length + 1 = _
              rw [List.length_append]
              show (ns.length + 1) + ((putRows xs).length + 1) + 1 = _
              omega
            rw [e]
            have e2 : (put done).length + (2 + ns.length + 1 + (putRows xs).length) = (put done).length + 2 + ns.length + 1 + (putRows xs).length := by omega
            rw [e2]
          · have e5 : hide D (off H (upd G2 D (.lst (vs ++ [.ref t])))) = hide D (off H G2) := by
              funext a
              unfold hide off
              by_cases c : a = D
              · rw [if_pos c, if_pos c]
              · rw [if_neg c, if_neg c, upd_ne c]
            rw [e5]
            have x1 : Ex (hide D (off H H9)) (hide D (off H G2)) := Ex.hide (Ex.off ((eG.trans d1).trans d2))
            have npH : H pn = none := fresh_back ((eH.trans e3).trans ((e4.trans e5').trans e6)) npn
            have nEH : H E = none := fresh_back E9 hE
            have ntH : H t = none := fresh_back ((E9.trans eG).trans d1) nt
            refine snoc_get (C9.ex x1) ⟨t, p, ns, xs, .ref pn, .ref E, rfl, rfl, st_of (by rw [hide_ne ntD, off_ne ntH]; exact h2), ⟨pn, rfl, x1 _ _ (by rw [hide_ne npD, off_ne npH]; exact N9)⟩, E, rs, rfl, SqL.of (by rw [hide_ne nED, off_ne nEH]; exact d2 _ _ (d1 _ _ hEr)), (hR.ex hide_ex).ex (Ex.hide (Ex.off (d1.trans d2)))⟩
    · have hb := of_decide_eq_false hb
      have : rest = [] := by
        cases rest with
        | nil => rfl
        | cons c rest =>
          exfalso
          obtain ⟨p, ns, xs, rfl⟩ := hok c (by rw [hcs]; exact List.mem_append_right _ List.mem_cons_self)
          apply hb
          rw [hcs, put_app, List.length_append]
          show _ < _ + (_ + 1)
          omega
      subst this
      rw [List.append_nil] at hcs
      subst hcs
      exact ⟨_, rfl, q D H3 vs hD (eH.trans e3) (e3 _ _ hDv) (hC.ex (Ex.hide (Ex.off e3)))⟩
end
end B

end

section
set_option Elab.async false
set_option linter.all false
set_option maxRecDepth 100000
set_option maxHeartbeats 2000000
/-! Two rules that the layer lacks: d[k] of a dict of the module's top whose keys are whole numbers; a call of what such an item is. -/
namespace B
open PySem PySem.Spec PyProof.Rows L2 Evl
/-- every key a whole number, under its hash -/
def keysInt (es : List DictEntry) : Bool := es.all fun e => match e.key with
  | .int k _ => e.hash == hashInt k
  | _ => false
theorem keysInt_of {l : List DictEntry} (h : keysInt l = true) : ∀ e ∈ l, ∃ k, Value.isInt k e.key = true ∧ e.hash = hashInt k := by
  intro e he
  have q := List.all_eq_true.1 h e he
  cases hk : e.key with
  | int k t =>
    rw [hk] at q
    exact ⟨k, by simp [Value.isInt], by simpa using q⟩
  | _ => rw [hk] at q; cases q
def KDI (K : PySem.W.Frag) (a : Addr) (z : Int) (v : V) : Prop := ∃ es n u, K.lookup a = some ⟨.type "dict", none, .dict es n, #[]⟩ ∧ keysInt es.toList = true ∧ findBy Value.isInt es z = some u ∧ RelV v u
def rIxDI (K : PySem.W.Frag) : R2 := fun x y H Q => ∃ p z v, x = .ref p ∧ y = .int z ∧ KDI K p z v ∧ Q v H
section
variable {X : Cx}
theorem ix_kdictI : IxR X (rIxDI X.K) := by
  intro value slice pins s σ H x y v u Q I rx ry h hs
  obtain ⟨p, z, r, rfl, rfl, ⟨es, n, u0, hl, hk, e, ru⟩, q⟩ := h
  obtain rfl : v = Value.ref p := rx
  obtain ⟨t, rfl⟩ := ry
  have hm : s.heap.MapOf (intKind X.prog X.w) p (fun k => findBy Value.isInt es k) :=
    ⟨_, es, n, I.kIn _ _ hl, ⟨rfl, rfl, rfl⟩, rfl, fun e he => keysInt_of hk e (Array.mem_toList_iff.mpr he), fun _ => rfl⟩
  exact tail_any hm.typeIs slot_dict_getitem.lookup (wpAny_getItem_of (intKind_is X.prog X.w z t) hm e ⟨r, H, I.tok _, ru, q⟩) hs
/-- func(e, ..), func any expression that gives a def of the module -/
def tCallX (tf : TE) (S : Addr → Sp → Prop) (t : TA) : TE := fun σ H Q => tf σ H fun v H0 => ∃ f sp, v = .ref f ∧ S f sp ∧ t σ H0 fun vs H1 => sp vs H1 Q E0
theorem pe_callX {S : Addr → Sp → Prop} {func e : Expr} {es : List Expr} {tf : TE} {t : TA} {k : Nat} {pos : Pos} (hf : PE X func tf) (A : ∀ f sp, S f sp → Held X.prog X.w X.K X.mg X.base k f sp) (hr : Room k X.A) (ha : PA X (e :: es) t)
    (hev : eval (.Call func (e :: es) [] pos) X.env = (do callWith pos (← eval func X.env) [] (backTo pos (starEach (e :: es) X.env)) (backToKw pos (keywordEach [] X.env))) := by rfl)
    (he : starEach (e :: es) X.env = (false, eval e X.env) :: starEach es X.env := by rfl) (hpl : (backTo pos (starEach es X.env)).any (·.1) = false := by rfl) : PE X (.Call func (e :: es) [] pos) (tCallX tf S t) := by
  refine ⟨fun pins s σ H Q I h => ?_⟩
  refine Call_ (thn (hf.run pins s σ H _ I h) fun u s1 ⟨v, H0, I0, r0, f, sp, e1, e2, ht⟩ => ?_) hev
  subst e1
  cases r0
  obtain ⟨fd, ps, F, hk, hb⟩ := (A f sp e2).ex
  refine PySem.W.callWith_K (h₀ := X.base) I.ok.mod.kin hk (thn (ha.run pos pins s1 σ H0 _ I0 ht) fun us s2 ⟨vs, H2, I2, r, q⟩ => ⟨I2.kIn, ?_⟩) he hpl
  exact run_fn F hr hb .nil pass0 I2 r (by rw [List.append_nil]; exact q)
end
end B

end

section
set_option Elab.async false
set_option linter.all false
set_option maxRecDepth 100000
set_option maxHeartbeats 2000000
namespace B
open PySem L2 Evl
/-! ### The search, as sets of numbers -/
structure RI (R : Nat → List Nat) (n N : Nat) (fs ws : List Nat) : Prop where
  nd : fs.Nodup
  start : n ∈ fs
  sub : ∀ c ∈ ws, c ∈ fs
  reach : ∀ c ∈ fs, BM.Reach R n c
  lt : ∀ c ∈ fs, c < N
  closed : ∀ c ∈ fs, c ∉ ws → ∀ e ∈ R c, e ∈ fs
def newOf (fs ns : List Nat) : List Nat := ns.filter fun x => decide (x ∉ fs)
theorem mem_newOf {fs ns : List Nat} {x : Nat} : x ∈ newOf fs ns ↔ x ∈ ns ∧ x ∉ fs := by
  unfold newOf
  rw [List.mem_filter, decide_eq_true_eq]
theorem RI.next {R : Nat → List Nat} {n N : Nat} {fs ws ns : List Nat} {c : Nat} (h : RI R n N fs (ws ++ [c])) (hn : ns.Nodup) (hm : ∀ y, y ∈ ns ↔ y ∈ R c) (hN : ∀ y ∈ ns, y < N) : RI R n N (fs ++ newOf fs ns) (ws ++ newOf fs ns) := by
  have hc : c ∈ fs := h.sub c (List.mem_append_right _ (List.mem_singleton.2 rfl))
  refine ⟨?_, List.mem_append_left _ h.start, ?_, ?_, ?_, ?_⟩
  · rw [List.nodup_append]
    refine ⟨h.nd, hn.filter _, fun a ha b hb e => ?_⟩
    subst e
    exact (mem_newOf.1 hb).2 ha
  · intro x hx
    rcases List.mem_append.1 hx with hx | hx
    · exact List.mem_append_left _ (h.sub x (List.mem_append_left _ hx))
    · exact List.mem_append_right _ hx
  · intro x hx
    rcases List.mem_append.1 hx with hx | hx
    · exact h.reach x hx
    · exact .step (h.reach c hc) ((hm x).1 (mem_newOf.1 hx).1)
  · intro x hx
    rcases List.mem_append.1 hx with hx | hx
    · exact h.lt x hx
    · exact hN x (mem_newOf.1 hx).1
  · intro x hx hw e he
    rw [List.mem_append] at hw ⊢
    have hx' : x ∈ fs := by
      rcases List.mem_append.1 hx with hx | hx
      · exact hx
      · exact absurd (.inr hx) hw
    by_cases z : x = c
    · subst z
      by_cases y : e ∈ fs
      · exact .inl y
      · exact .inr (mem_newOf.2 ⟨(hm e).2 he, y⟩)
    · refine .inl (h.closed x hx' (fun y => ?_) e he)
      rcases List.mem_append.1 y with y | y
      · exact hw (.inl y)
      · exact z (List.mem_singleton.1 y)
theorem RI.len {R : Nat → List Nat} {n N : Nat} {fs ws : List Nat} (h : RI R n N fs ws) : fs.length ≤ N := BM.length_le_of_lt h.nd h.lt
theorem RI.done {R : Nat → List Nat} {n N : Nat} {fs : List Nat} (h : RI R n N fs []) (d : Nat) : d ∈ fs ↔ BM.Reach R n d := by
  constructor
  · exact h.reach d
  · intro r
    induction r with
    | refl => exact h.start
    | step _ m ih => exact h.closed _ ih (by simp) _ m
theorem newOf_more {fs ns : List Nat} {j g : Nat} (h : ns[j]? = some g) : newOf fs (ns.take (j + 1)) = if g ∈ fs then newOf fs (ns.take j) else newOf fs (ns.take j) ++ [g] := by
  unfold newOf
  rw [List.take_add_one, h, List.filter_append]
  by_cases c : g ∈ fs
  · rw [if_pos c]
    simp [c]
  · rw [if_neg c]
    simp [c]
theorem kvs_val (ns : List Nat) (n : Nat) : (valV (kvsOf ns) (Sum.inl (n : Int) : Key)).isSome = decide (n ∈ ns) := by
  rw [← valV_any, kvs_any]
def mo (m : Nat × Int) : Wp01.Motion := ⟨m.1, m.2⟩
theorem step_img {w h c d : Nat} {L : List (Nat × Int)} (h4 : ∀ m ∈ L, m.1 < 4) : d ∈ BM.stepS w h (L.map mo) c ↔ ∃ m ∈ L, d = img h w ((c % w : Nat) : Int) (c / w) m := by
  unfold BM.stepS
  rw [List.map_map, List.mem_map]
  constructor
  · rintro ⟨m, hm, rfl⟩
    refine ⟨m, hm, ?_⟩
    unfold img
    show Wp01.cellAt w ((⟨m.1, m.2⟩ : Wp01.Motion).x _) ((⟨m.1, m.2⟩ : Wp01.Motion).y h _) = _
    rw [BM.kind_x (h4 m hm), BM.kind_y (h4 m hm)]
  · rintro ⟨m, hm, rfl⟩
    refine ⟨m, hm, ?_⟩
    unfold img
    show Wp01.cellAt w ((⟨m.1, m.2⟩ : Wp01.Motion).x _) ((⟨m.1, m.2⟩ : Wp01.Motion).y h _) = _
    rw [BM.kind_x (h4 m hm), BM.kind_y (h4 m hm)]
theorem nodup_of_lt {ns : List Nat} (h : ns.Pairwise (· < ·)) : ns.Nodup := h.imp fun a => Nat.ne_of_lt a
theorem not_mem_take {ns : List Nat} {j g : Nat} (h : ns.Nodup) (hj : ns[j]? = some g) : g ∉ ns.take j := by
  intro hm
  obtain ⟨i, hi⟩ := List.mem_iff_getElem?.1 hm
  have hij : i < j := by
    have := (List.getElem?_eq_some_iff.mp hi).1
    rw [List.length_take] at this
    omega
  rw [List.getElem?_take_of_lt hij] at hi
  have l1 := (List.getElem?_eq_some_iff.mp hi).1
  have := (List.getElem?_inj l1 h).1 (hi.trans hj.symm)
  omega
theorem ev_fld {K : PySem.W.Frag} {σ : L2.St} {H : Hp} {ta : TE} {a C dx : Addr} {fs : List (Str × V)} {f : Str} {v : V} (h : Ev ta σ H (.ref a)) (ha : H a = some (.ins C dx fs)) (c : Cls K C) (n : NoAttr K C f) (l : fs.lookup f = some v) : Ev (tFld K ta f) σ H v := fun H1 e Q q =>
  h H1 e _ fun H2 e2 => ⟨a, C, dx, fs, v, rfl, e2 _ _ (e _ _ ha), c, n, l, q H2 e2⟩
/-- x not in d -/
theorem ev_dnin {σ : L2.St} {H : Hp} {ty td : TE} {d : Addr} {kvs : List (Key × V)} {z : Int} (hy : Ev ty σ H (.int z)) (hd : Ev td σ H (.ref d)) (h : H d = some (.dK kvs)) : Ev (tDNotIn ty td) σ H (.bl (!(valV kvs (Sum.inl z : Key)).isSome)) := fun H1 e Q q =>
  hy H1 e _ fun H2 e2 => hd H2 (e.trans e2) _ fun H3 e3 => ⟨d, _, rfl, DGet.k (k := Sum.inl z) (((e.trans e2).trans e3) _ _ h), q H3 (e2.trans e3)⟩
theorem ev_dget {σ : L2.St} {H : Hp} {ty td : TE} {d : Addr} {kvs : List (Key × V)} {z : Int} {v : V} (hd : Ev td σ H (.ref d)) (hy : Ev ty σ H (.int z)) (h : H d = some (.dK kvs)) (g : valV kvs (Sum.inl z : Key) = some v) : Ev (tDGet td ty) σ H v := fun H1 e Q q =>
  hd H1 e _ fun H2 e2 => hy H2 (e.trans e2) _ fun H3 e3 => ⟨d, v, rfl, g ▸ DGet.k (k := Sum.inl z) (((e.trans e2).trans e3) _ _ h), q H3 (e2.trans e3)⟩
section
variable {P : Program} {w : World} {K : PySem.W.Frag} {mg : Str → Option Value} {base : Heap} {C CL kA : Addr}

/-! ### numbers_reached -/
abbrev s_numbers_reached : Stmt := top 25
abbrev N_numbers_reached : List Str := ["strip", "motions", "number", "cells", "found", "waiting", "cell", "goal"]
theorem sc_numbers_reached : FnScope N_numbers_reached ["strip", "motions", "number"] (defScope s_numbers_reached) := ⟨rfl, rfl, rfl, by decide +kernel, rfl, by decide +kernel, by decide +kernel⟩
def spReached (K : PySem.W.Frag) (C : Addr) : Sp := fun vs H Q _ => ∃ (a pm : Addr) (st : Wp01.Strip) (ms : List V) (L : List (Nat × Int)) (n : Nat), vs = [.ref a, .ref pm, nI n] ∧ StripA K C H a st ∧ SqL K H pm ms ∧ PairsAre K H ms L ∧
  L.length < 64 ∧ (∀ m ∈ L, m.1 < 4) ∧ n < st.h * st.w ∧
  ∀ p H' (ns : List Nat), H p = none → Ex H H' → H' p = some (.lst (ns.map nI)) → ns.Nodup → ns.length < 64 → (∀ d, d ∈ ns ↔ BM.Reach (BM.stepS st.w st.h (L.map mo)) n d) → Q (.ref p) H'
theorem ok_numbers_reached {f : Addr} {fd : FuncData} (F : Fun K "numbers_reached" "numbers_reached" s_numbers_reached f fd) (T : Txt K mg C CL kA) (G_cells_within : Has P w K mg base "cells_within" ["h", "width"] 1 (spCells K))
    (G_numbers_along : Has P w K mg base "numbers_along" ["strip", "motions", "cell", "width"] 2 (spAlong K C)) : FnOk P w K mg base CX0 3 f fd ["strip", "motions", "number"] (spReached K C) := by
  refine F.ok sc_numbers_reached (fun vs H Q E h => ?_) (fun cdv A outer s H vs Q E hr h => ?_)
  · obtain ⟨a, pm, st, ms, L, n, rfl, _⟩ := h
    rfl
  · obtain ⟨a, pm, st, ms, L, n, rfl, hS, hM, hL, h64, hk4, hn, q⟩ := h
    obtain ⟨dx, l, h1, h2, g⟩ := id hS
    have g12 := g.w1
    have hle : st.h * st.w ≤ 6 * 12 := Nat.mul_le_mul g.h1 g.w1
    refine ⟨_, (pss_cons (ps_set (i := 3) sc_numbers_reached.nd rfl (Or.inl rfl) (pcall G_cells_within (hr.mono (by decide)) (by rfl) (pa_cons (pe_fld (pv 0) rfl) (pa_cons (pe_fld (pv 0) rfl) pa_nil))))
      (pss_cons (ps_set (i := 4) sc_numbers_reached.nd rfl (Or.inl rfl) (pe_disp (pps_cons (pv 2) pe_bl pps_nil) rfl rfl (by intro z; cases z) (by decide)))
      (pss_cons (ps_set (i := 5) sc_numbers_reached.nd rfl (Or.inl rfl) (pe_lst (pa_cons (pv 2) pa_nil)))
      (pss_cons (ps_while PassesOwn.never (pt_truth (pv 5) (by intro _; rfl)) (pss_cons (ps_set (i := 6) sc_numbers_reached.nd rfl (Or.inl rfl) (pe_ix ix_list (pv 3) (pe_bm0 PySem.F.plainAttrs_list PySem.F.slot_list_pop PySem.F.type_list_pop mt_pop (pv 5)) (fun _ _ => rfl)))
      (pss_one (ps_for PassesOwn.never rfl (pi_list (pcall G_numbers_along (hr.mono (by decide)) (by rfl) (pa_cons (pv 0) (pa_cons (pv 1) (pa_cons (pv 6) (pa_cons (pe_fld (pv 0) rfl) pa_nil)))))) (pg_name (i := 7) sc_numbers_reached.nd rfl (Or.inl rfl)) (pss_one (ps_if (pt_cmp (pc_dnotin (hu_of hr) (pv 7) (pv 4))) (pss_cons (ps_dput (hu_of hr) (pv 4) (pv 7) pe_bl rfl)
      (pss_one (ps_expr (pe_bm PySem.F.plainAttrs_list PySem.F.slot_list_append PySem.F.type_list_append mt_append (pv 5) (pa_cons (pv 7) pa_nil))))) pss_nil))))))
      (pss_one (ps_ret (pe_callB (call_sortedDI rfl) (by rfl) T.b_sorted (by decide +kernel) (pa_cons (pv 4) pa_nil)))))))), ?_⟩
    refine ⟨_, rfl, a, C, dx, _, _, rfl, h1, T.cs.cl, T.cs.nh, sF_h, _, rfl, a, C, dx, _, _, rfl, h1, T.cs.cl, T.cs.nw, sF_w, st.h, st.w, rfl, g.h1, g.w0, g.w1, fun pc H1 cs nc e1 hpc hc => ?_⟩
    intro d nd
    refine ⟨_, rfl, upd_same, [((Sum.inl (n : Int) : Key), V.bl true)], rfl, by show 1 ≤ 15; decide, ?_⟩
    rw [upd_upd]
    have ed : Ex H1 (upd H1 d (.dK (kvsOf [n]))) := Ex.new nd
    have hd0 : (upd H1 d (.dK (mergeK [] [((Sum.inl (n : Int) : Key), V.bl true)]))) d = some (.dK (kvsOf [n])) := upd_same
    refine q_asgL (xs := [nI n]) (el_lst (ea_cons (ev_var rfl) ea_nil) (by show 1 ≤ 100000; decide)) fun D H3 nD e3 h3 => ?_
    have nD1 : H1 D = none := fresh_back (Ex.new nd) nD
    have ndD : d ≠ D := fun z => by rw [← z, hd0] at nD; cases nD
    refine q_while (fun m σ H' => ∃ fs ws : List Nat, (∃ v6 v7 : Option V, σ = [some (.ref a), some (.ref pm), some (nI n), some (.ref pc), some (.ref d), some (.ref D), v6, v7]) ∧ Ex H1 H' ∧ H' d = some (.dK (kvsOf fs)) ∧ H' D = some (.lst (ws.map nI)) ∧ RI (BM.stepS st.w st.h (L.map mo)) n (st.h * st.w) fs ws ∧ m = 2 * (st.h * st.w - fs.length) + ws.length ∧ m ≤ 200) (2 * (st.h * st.w - 1) + 1)
      ⟨[n], [n], ⟨none, none, rfl⟩, (Ex.new nd).trans e3, e3 _ _ hd0, h3, ⟨by simp, by simp, fun c hc => hc, fun c hc => by rw [List.mem_singleton.1 hc]; exact .refl _, fun c hc => by rw [List.mem_singleton.1 hc]; exact hn, fun c h1 h2 => absurd h1 h2⟩, rfl, by omega⟩ ?_
    rintro m σ' H' ⟨fs, ws, ⟨v6, v7, rfl⟩, eH, hd, hD, ri, rfl, m200⟩
    refine ⟨_, et_truL (K := K) (ev_var rfl) (sq_of hD), fun hb H4 e4 => ?_, fun hb H4 e4 => ?_⟩
    · rcases List.eq_nil_or_concat ws with rfl | ⟨ws0, c, hws⟩
      · cases hb
      rw [List.concat_eq_append] at hws
      subst hws
      have cf : c ∈ fs := ri.sub c (List.mem_append_right _ (List.mem_singleton.2 rfl))
      have cN := ri.lt c cf
      have eH4 := eH.trans e4
      have hd4 := e4 _ _ hd
      have hD4 := e4 _ _ hD
      refine ⟨fun σ2 H2 => ∃ fs' : List Nat, ∃ ws' : List Nat, (∃ v6 v7 : Option V, σ2 = [some (.ref a), some (.ref pm), some (nI n), some (.ref pc), some (.ref d), some (.ref D), v6, v7]) ∧ Ex H1 H2 ∧ H2 d = some (.dK (kvsOf fs')) ∧ H2 D = some (.lst (ws'.map nI)) ∧ RI (BM.stepS st.w st.h (L.map mo)) n (st.h * st.w) fs' ws' ∧ fs.length ≤ fs'.length ∧ ws'.length = ws0.length + (fs'.length - fs.length), fun σ2 H2 ⟨fs', ws', z1, z2, z3, z4, z5, z6, z7⟩ => ⟨_, by
          have l5 := z5.len
          rw [List.length_append, List.length_singleton, z7]
          omega, fs', ws', z1, z2, z3, z4, z5, rfl, by
          have l5 := z5.len
          rw [List.length_append, List.length_singleton] at m200
          omega⟩, ?_⟩
      obtain ⟨cv, hcv, pcv⟩ := hc.2 c cN
      have hmap : (ws0 ++ [c]).map nI = ws0.map nI ++ [nI c] := by rw [List.map_append]; rfl
      refine ⟨_, rfl, _, rfl, .inl ⟨rfl, _, sq_of hD4⟩, D, _, nI c, rfl, rfl, hD4, ?_, ?_⟩
      · rw [hmap, List.length_append, List.length_singleton, Nat.add_sub_cancel, List.getElem?_append_right (Nat.le_refl _), Nat.sub_self]
        rfl
      rw [hmap, List.dropLast_concat]
      have eP : Ex H1 (upd H4 D (.lst (ws0.map nI))) := Ex.mut eH4 nD1
      refine ⟨pc, cs, (c : Int), cv, rfl, rfl, SqL.of (eP _ _ hpc), atI_nat hcv, ?_⟩
      have hS5 := hS.ex (e1.trans eP)
      obtain ⟨dx5, l5, g5, _⟩ := id hS5
      have hy : c / st.w < st.h := by rw [Nat.div_lt_iff_lt_mul g.w0]; exact cN
      refine ⟨_, rfl, _, rfl, _, rfl, _, rfl, a, C, dx5, _, _, rfl, g5, T.cs.cl, T.cs.nw, sF_w, a, pm, cv, st, st.w, ms, L, _, _, rfl, hS5, ex_l (e1.trans eP) hM, hL.ex (e1.trans eP), h64, hk4, pcv.ex eP, hy, g.w0, g.w1, fun pg H6 ns npg e6 hpg hs hm => ?_⟩
      have hnd := nodup_of_lt hs
      have hm' : ∀ y, y ∈ ns ↔ y ∈ BM.stepS st.w st.h (L.map mo) c := fun y => (hm y).trans (step_img hk4).symm
      have hN : ∀ y ∈ ns, y < st.h * st.w := fun y hy => BM.stepS_lt g.w0 _ c cN y ((hm' y).1 hy)
      have hdP : (upd H4 D (.lst (ws0.map nI))) d = some (.dK (kvsOf fs)) := by rw [upd_ne ndD]; exact hd4
      have npd : pg ≠ d := fun z => by rw [z, hdP] at npg; cases npg
      have npD : pg ≠ D := fun z => by rw [z, upd_same] at npg; cases npg
      have nl : ns.length ≤ 72 := by
        have := BM.length_le_of_lt hnd hN
        omega
      refine ⟨pg, rfl, ⟨_, SqL.of hpg⟩, for_list (K := K) (a := pg) (xs := ns.map nI) (fun j σ2 H2 => (∃ v7 : Option V, σ2 = [some (.ref a), some (.ref pm), some (nI n), some (.ref pc), some (.ref d), some (.ref D), some cv, v7]) ∧ Ex H1 H2 ∧ H2 pg = some (.lst (ns.map nI)) ∧ H2 d = some (.dK (kvsOf (fs ++ newOf fs (ns.take j)))) ∧ H2 D = some (.lst ((ws0 ++ newOf fs (ns.take j)).map nI)))
        ⟨⟨_, rfl⟩, eP.trans e6, hpg, by rw [List.take_zero]; show _ = some (HO.dK (kvsOf (fs ++ []))); rw [List.append_nil]; exact e6 _ _ hdP, by rw [List.take_zero]; show _ = some (HO.lst ((ws0 ++ []).map nI)); rw [List.append_nil]; exact e6 _ _ upd_same⟩ (fun j σ2 H2 _ z => SqL.of z.2.2.1) ?_ ?_⟩
      · rintro j x σ2 H7 hj ⟨⟨v7, rfl⟩, e7, hp7, hd7, hD7⟩
        rw [List.getElem?_map] at hj
        cases hgj : ns[j]? with
        | none => rw [hgj] at hj; cases hj
        | some gl =>
          rw [hgj] at hj
          cases hj
          have gN := hN gl (List.mem_of_getElem? hgj)
          have gnt := not_mem_take hnd hgj
          have hiff : gl ∈ fs ++ newOf fs (ns.take j) ↔ gl ∈ fs := by
            rw [List.mem_append, mem_newOf]
            constructor
            · rintro (z | z)
              · exact z
              · exact absurd z.1 gnt
            · exact .inl
          have lk : (newOf fs (ns.take j)).length ≤ 72 := by
            have a1 := List.length_filter_le (fun x => decide (x ∉ fs)) (ns.take j)
            have a2 : (ns.take j).length ≤ ns.length := List.length_take_le' _ _
            unfold newOf
            omega
          have lf := ri.len
          refine s_when (et_test (ev_dnin (z := (gl : Int)) (ev_var rfl) (ev_var rfl) hd7)) (fun hb2 H8 e8 => ?_) (fun hb2 H8 e8 => ?_)
          · rw [kvs_val, Bool.not_eq_true', decide_eq_false_iff_not, hiff] at hb2
            have hd8 := e8 _ _ hd7
            have hD8 := e8 _ _ hD7
            refine ⟨_, rfl, _, rfl, d, _, rfl, DPut.k (k := Sum.inl (gl : Int)) hd8 (sz_lt (by unfold kvsOf; rw [List.length_map, List.length_append]; omega)), ?_⟩
            have hD9 : (upd H8 d (.dK (putK (kvsOf (fs ++ newOf fs (ns.take j))) (Sum.inl (gl : Int)) (V.bl true)))) D = some (.lst ((ws0 ++ newOf fs (ns.take j)).map nI)) := by
              rw [upd_ne ndD.symm]; exact hD8
            have lws : (ws0 ++ newOf fs (ns.take j)).length < 100000 := by
              rw [List.length_append] at m200 ⊢
              omega
            refine s_app (l := D) (v := nI gl) hD9 (ev_var rfl) (ev_var rfl) (by rw [List.length_map]; exact lws) fun H9 e9 => ?_
            have e19 : Ex H1 H9 := (Ex.mut (e7.trans e8) nd).trans e9
            refine ⟨⟨_, rfl⟩, Ex.mut e19 nD1, ?_, ?_, ?_⟩
            · rw [upd_ne npD]
              refine e9 _ _ ?_
              rw [upd_ne npd]
              exact e8 _ _ hp7
            · rw [upd_ne ndD]
              refine e9 _ _ ?_
              rw [upd_same, kvs_put, if_neg (fun z => hb2 (hiff.1 z)), newOf_more hgj, if_neg hb2, List.append_assoc]
            · rw [upd_same, newOf_more hgj, if_neg hb2, ← List.append_assoc]
              simp only [List.map_append, List.map_cons, List.map_nil]
          · rw [kvs_val, Bool.not_eq_false', decide_eq_true_eq, hiff] at hb2
            rw [newOf_more hgj, if_pos hb2]
            exact ⟨⟨_, rfl⟩, e7.trans e8, e8 _ _ hp7, e8 _ _ hd7, e8 _ _ hD7⟩
      · rintro σ2 H7 ⟨⟨v7, rfl⟩, e7, hp7, hd7, hD7⟩
        rw [List.length_map, List.take_length] at hd7 hD7
        refine ⟨_, _, ⟨_, _, rfl⟩, e7, hd7, hD7, ri.next hnd hm' hN, by rw [List.length_append]; omega, by rw [List.length_append, List.length_append]; omega⟩
    · have hw : ws = [] := by
        cases ws with
        | nil => rfl
        | cons z r => cases hb
      subst hw
      have few := BM.reach_few g.w0 hn ri.nd ri.reach
      refine ⟨_, rfl, d, kvsOf fs, fs.map (fun (n : Nat) => (n : Int)), rfl, Rd.of (e4 _ _ hd), ?_, ?_, fun ys p hp hs np => ?_⟩
      · unfold kvsOf
        rw [List.map_map, List.map_map]
        rfl
      · rw [List.length_map]
        omega
      · obtain ⟨zs, ez, z1, z2⟩ := sorted_nats hp hs ri.nd
        have e14 := eH.trans e4
        have zl : zs.length = fs.length := BM.length_eq_of_mem (nodup_of_lt z1) ri.nd z2
        refine q p _ zs (fresh_back (e1.trans e14) np) ((e1.trans e14).trans (Ex.new np)) ?_ (nodup_of_lt z1) (by omega) fun n => (z2 n).trans (ri.done n)
        rw [upd_same, ez]
end
end B

end

section
set_option Elab.async false
set_option linter.all false
set_option maxRecDepth 100000
set_option maxHeartbeats 2000000
namespace B
open PySem L2 Evl
/-! ### What make is told by -/
def mkMs (st : Wp01.Strip) (kind : Nat) (k : Int) : List Wp01.Motion := Wp01.all st ++ [⟨0, Wp01.nat (Wp01.period st)⟩, ⟨kind, k⟩]
def madeS (st : Wp01.Strip) (kind : Nat) (k : Int) : Wp01.Strip := { st with cells := (List.range st.cells.length).map fun (c : Nat) => st.cells.getD (BM.leastOf st.w st.h (mkMs st kind k) c) 0 }
theorem mkMs_kind {st : Wp01.Strip} (hw : 0 < st.w) {kind : Nat} (h4 : kind < 4) (k : Int) : ∀ m ∈ mkMs st kind k, m.kind < 4 := by
  intro m hm
  rcases List.mem_append.1 hm with h | h
  · obtain ⟨f, v, j, rfl, _⟩ := (BM.mem_all hw).1 h
    cases f <;> cases v <;> simp [BM.mot]
  · rcases List.mem_cons.1 h with h | h
    · rw [h]; show 0 < 4; decide
    · rw [List.mem_singleton.1 h]; exact h4
theorem least_lt {st : Wp01.Strip} (g : Good st) {ms : List Wp01.Motion} {n : Nat} (hn : n < st.h * st.w) : BM.leastOf st.w st.h ms n ≤ n := (BM.leastOf_reach g.w0 hn).2 n (.refl _)
theorem Good.made {st : Wp01.Strip} (g : Good st) (kind : Nat) (k : Int) : Good (madeS st kind k) := by
  refine ⟨g.w0, g.w1, g.h0, g.h1, ?_, fun c hc => ?_⟩
  · show ((List.range st.cells.length).map _).length = _
    rw [List.length_map, List.length_range]
    exact g.len
  · obtain ⟨n, hn, rfl⟩ := List.mem_map.1 hc
    have hn := List.mem_range.1 hn
    have hl := least_lt g (ms := mkMs st kind k) (by rw [← g.len]; exact hn)
    have hl2 : BM.leastOf st.w st.h (mkMs st kind k) n < st.cells.length := by omega
    show st.cells.getD _ 0 ≤ 9
    rw [List.getD_eq_getElem?_getD, List.getElem?_eq_getElem hl2]
    exact g.col _ (List.getElem_mem hl2)
def GI (st : Wp01.Strip) (ms : List Wp01.Motion) (i : Nat) (kvs : List (Key × V)) : Prop := ∀ n : Nat, n < st.h * st.w → valV kvs (Sum.inl (n : Int) : Key) = if BM.leastOf st.w st.h ms n < i then some (nI (st.cells.getD (BM.leastOf st.w st.h ms n) 0)) else none
theorem GI.new {st : Wp01.Strip} (g : Good st) {ms : List Wp01.Motion} (hk : ∀ m ∈ ms, m.kind < 4) {i : Nat} {kvs kvs' : List (Key × V)} {ns : List Nat} (hi : i < st.h * st.w) (h : GI st ms i kvs) (hl : ¬ BM.leastOf st.w st.h ms i < i) (hns : ∀ d, d ∈ ns ↔ BM.Reach (BM.stepS st.w st.h ms) i d)
    (hK : ∀ n : Nat, valV kvs' (Sum.inl (n : Int) : Key) = if n ∈ ns then some (nI (st.cells.getD i 0)) else valV kvs (Sum.inl (n : Int) : Key)) : GI st ms (i + 1) kvs' := by
  intro n hn
  have hii : BM.leastOf st.w st.h ms i = i := by have := least_lt g (ms := ms) hi; omega
  rw [hK]
  by_cases c : n ∈ ns
  · have e := BM.leastOf_same g.w0 hk hi ((hns n).1 c)
    rw [if_pos c, e, hii, if_pos (Nat.lt_succ_self i)]
  · rw [if_neg c, h n hn]
    by_cases z : BM.leastOf st.w st.h ms n < i
    · rw [if_pos z, if_pos (by omega)]
    · have y : ¬ BM.leastOf st.w st.h ms n = i := fun y => c ((hns n).2 (BM.reach_symm g.w0 hk hn (by
        have := (BM.leastOf_reach g.w0 (ms := ms) hn).1
        rw [y] at this
        exact this)))
      rw [if_neg z, if_neg (by omega)]
theorem GI.old {st : Wp01.Strip} (g : Good st) {ms : List Wp01.Motion} (hk : ∀ m ∈ ms, m.kind < 4) {i : Nat} {kvs : List (Key × V)} (h : GI st ms i kvs) (hl : BM.leastOf st.w st.h ms i < i) : GI st ms (i + 1) kvs := by
  intro n hn
  rw [h n hn]
  by_cases z : BM.leastOf st.w st.h ms n < i
  · rw [if_pos z, if_pos (by omega)]
  · have y : ¬ BM.leastOf st.w st.h ms n = i := fun y => by
      have r := (BM.leastOf_reach g.w0 (ms := ms) hn).1
      have e := BM.leastOf_same g.w0 hk hn r
      rw [y] at e
      omega
    rw [if_neg z, if_neg (by omega)]
section
variable {P : Program} {w : World} {K : PySem.W.Frag} {mg : Str → Option Value} {base : Heap} {C CL kA : Addr}

/-! ### with_motion -/
abbrev s_with_motion : Stmt := top 26
abbrev N_with_motion : List Str := ["strip", "kind", "k", "motions", "given", "number", "colour", "goal"]
theorem sc_with_motion : FnScope N_with_motion ["strip", "kind", "k"] (defScope s_with_motion) := ⟨rfl, rfl, rfl, by decide +kernel, rfl, by decide +kernel, by decide +kernel⟩
def spWith (K : PySem.W.Frag) (C : Addr) : Sp := fun vs H Q _ => ∃ (a : Addr) (st : Wp01.Strip) (kind : Nat) (k : Int), vs = [.ref a, .int (kind : Int), .int k] ∧ StripA K C H a st ∧ kind < 4 ∧ ∀ p H', H p = none → Ex H H' → StripA K C (off H H') p (madeS st kind k) → Q (.ref p) H'
theorem ok_with_motion {f : Addr} {fd : FuncData} (F : Fun K "with_motion" "with_motion" s_with_motion f fd) (T : Txt K mg C CL kA) (G_motions_within : Has P w K mg base "motions_within" ["strip", "width"] 6 (spMotions K C))
    (G_numbers_reached : Has P w K mg base "numbers_reached" ["strip", "motions", "number"] 3 (spReached K C)) (G_Strip : HasC P w K mg base "Strip" C ["self", "h", "w", "colours"] 1 (spStrip C)) : FnOk P w K mg base CX0 7 f fd ["strip", "kind", "k"] (spWith K C) := by
  refine F.ok sc_with_motion (fun vs H Q E h => ?_) (fun cdv A outer s H vs Q E hr h => ?_)
  · obtain ⟨a, st, kind, k, rfl, _⟩ := h
    rfl
  · obtain ⟨a, st, kind, k, rfl, hS, h4, q⟩ := h
    obtain ⟨dx, l, h1, h2, g⟩ := id hS
    have g12 := g.w1
    have Pp := BM.period_per g.w0
    have hle : st.h * st.w ≤ 6 * 12 := Nat.mul_le_mul g.h1 g.w1
    have hkM := mkMs_kind (st := st) g.w0 h4 k
    refine ⟨_, (pss_cons (ps_set (i := 3) sc_with_motion.nd rfl (Or.inl rfl) (pe_op op_cat (pcall G_motions_within (hr.mono (by decide)) (by rfl) (pa_cons (pv 0) (pa_cons (pe_fld (pv 0) rfl) pa_nil))) (pe_lst (pa_cons (pe_tup (pa_cons (pv 1) (pa_cons (pv 2) pa_nil))) pa_nil))))
      (pss_cons (ps_set (i := 4) sc_with_motion.nd rfl (Or.inr rfl) pe_dnewK)
      (pss_cons (ps_for PassesOwn.never rfl (pi_enum (by rfl) T.b_enumerate (pa_cons (pe_fld (pv 0) rfl) pa_nil)) (pg_tup rfl (pgs_cons (pg_name (i := 5) sc_with_motion.nd rfl (Or.inl rfl)) (pgs_cons (pg_name (i := 6) sc_with_motion.nd rfl (Or.inl rfl)) pgs_nil))) (pss_one (ps_if (pt_cmp (pc_dnotin (hu_of hr) (pv 5) (pv 4))) (pss_one (ps_for PassesOwn.never rfl (pi_list (pcall G_numbers_reached (hr.mono (by decide)) (by rfl) (pa_cons (pv 0) (pa_cons (pv 3) (pa_cons (pv 5) pa_nil))))) (pg_name (i := 7) sc_with_motion.nd rfl (Or.inl rfl)) (pss_one (ps_dput (hu_of hr) (pv 4) (pv 7) (pv 6) rfl)))) pss_nil)))
      (pss_one (ps_ret (pmake G_Strip (hr.mono (by decide)) (by rfl) (pa_cons (pe_fld (pv 0) rfl) (pa_cons (pe_fld (pv 0) rfl) (pa_cons (pe_lc (own := [("number", 5)]) (g := gName 5) (by rfl) sc_with_motion.nd (pi_range1 (by rfl) T.b_range (pa_cons (pe_callB call_len_seq (by rfl) T.b_len PySem.boot_len (pa_cons (pe_fld (pv 0) rfl) pa_nil)) pa_nil)) (blkOk_by (own := [("number", 5)]) (N := N_with_motion) (sc := defScope s_with_motion) (by decide +kernel)) (fun _ _ _ _ _ => (pg_name (i := 5) sc_with_motion.nd rfl (Or.inl rfl))) (fun _ _ _ _ _ => pts_nil) (fun _ _ _ _ _ => (pe_dget (hu_of hr) (pv 4) (pv 5) (fun _ _ => rfl)))) pa_nil))))))))), ?_⟩
    refine ⟨_, rfl, _, rfl, a, C, dx, _, _, rfl, h1, T.cs.cl, T.cs.nw, sF_w, a, st, st.w, rfl, hS, g.w1, fun pm H1 ms nm e1 hm hp => ?_⟩
    have lm := motsN_le st st.w 4
    have lms := hp.1
    refine ⟨_, rfl, _, rfl, (by show 2 ≤ sizeLine; decide), fun t nt => ⟨(by show 1 ≤ sizeLine; decide), fun pl npl => ⟨pm, pl, ms, [.ref t], rfl, rfl, Ex.new npl _ _ (Ex.new nt _ _ hm), upd_same, sz_of (by show ms.length + 1 ≤ 100000; omega), fun pM npM => ?_⟩⟩⟩
    have e14 := ((Ex.new (o := .tup [.int (kind : Int), .int k]) nt).trans (Ex.new (o := .lst [.ref t]) npl)).trans (Ex.new (o := .lst (ms ++ [.ref t])) npM)
    have hp4 : PairsAre K _ (ms ++ [.ref t]) (motsN st st.w 4 ++ [(kind, k)]) := snoc_get (P := fun v (c : Nat × Int) => PairV K _ v (c.1 : Int) c.2) (hp.ex e14) ⟨t, rfl, st_of (Ex.new npM _ _ (Ex.new npl _ _ upd_same))⟩
    have hm4 := upd_same (H := upd (upd H1 t (.tup [.int (kind : Int), .int k])) pl (.lst [.ref t])) (a := pM) (o := HO.lst (ms ++ [.ref t]))
    generalize upd (upd (upd H1 t (.tup [.int (kind : Int), .int k])) pl (.lst [.ref t])) pM (.lst (ms ++ [.ref t])) = H4 at *
    have e4 : Ex H H4 := e1.trans e14
    have hL4 : ∀ m ∈ motsN st st.w 4 ++ [(kind, k)], m.1 < 4 := fun m hm => by
      rcases List.mem_append.1 hm with z | z
      · exact (mots_mem.1 z).1
      · rw [List.mem_singleton.1 z]; exact h4
    have hps : ∀ c d, d ∈ BM.stepS st.w st.h ((motsN st st.w 4).map mo) c ↔ BM.Orb st st.w c d := fun c d => (step_img fun m hm => (mots_mem.1 hm).1).trans (mots_img g.w0 g.w0 Pp.dvd_w c d)
    intro dg ndg
    have hS4 := hS.ex e4
    have hl5 : upd H4 dg (.dK []) l = some (.lst (st.cells.map nI)) := Ex.new ndg _ _ (e4 _ _ h2)
    refine ⟨_, rfl, a, C, dx, _, _, rfl, Ex.new ndg _ _ (e4 _ _ h1), T.cs.cl, T.cs.nc, sF_c, l, _, rfl, SqL.of hl5, for_it walk_enum (fun i σ H' => (∃ v5 v6 v7 : Option V, σ = [some (.ref a), some (.int (kind : Int)), some (.int k), some (.ref pM), some (.ref dg), v5, v6, v7]) ∧ Ex H4 H' ∧ ∃ kvs, H' dg = some (.dK kvs) ∧ kvs.length ≤ 72 * i ∧ GI st (mkMs st kind k) i kvs)
      ⟨⟨none, none, none, rfl⟩, Ex.new ndg, [], upd_same, by simp, fun n hn => by rw [if_neg (Nat.not_lt_zero _)]; rfl⟩ (fun i σ' H' _ z => SqL.of (z.2.1 _ _ (e4 _ _ h2))) ?_ ?_⟩
    · rintro i x σ' H5 H6 hi ⟨⟨v5, v6, v7, rfl⟩, eH, kvs, hdg, hlen, hG⟩ ⟨tt, ci, c, rfl, ntt, rfl, hi0, hci⟩
      obtain rfl : V.int ((i : Nat) : Int) = ci := Option.some.inj hi0
      rw [List.length_map] at hi
      have hiN : i < st.h * st.w := by rw [← g.len]; exact hi
      have hc : c = nI (st.cells.getD i 0) := by
        have z : (st.cells.map nI)[i]? = some c := hci
        rw [List.getElem?_map, List.getElem?_eq_getElem hi] at z
        rw [List.getD_eq_getElem?_getD, List.getElem?_eq_getElem hi]
        exact (Option.some.inj z).symm
      subst hc
      have e6 : Ex H5 (upd H5 tt (.tup [.int (i : Nat), nI (st.cells.getD i 0)])) := Ex.new ntt
      refine ⟨tt, _, rfl, st_of upd_same, rfl, _, _, rfl, _, _, rfl, rfl, ?_⟩
      refine s_when (et_test (ev_dnin (z := (i : Int)) (ev_var rfl) (ev_var rfl) (e6 _ _ hdg))) (fun hb H7 e7 => ?_) (fun hb H7 e7 => ?_)
      · have hl : ¬ BM.leastOf st.w st.h (mkMs st kind k) i < i := fun z => by
          rw [hG i hiN, if_pos z] at hb
          cases hb
        have e47 : Ex H4 H7 := eH.trans (e6.trans e7)
        refine ⟨_, rfl, _, rfl, _, rfl, a, pM, st, _, _, i, rfl, hS4.ex e47, SqL.of (e47 _ _ hm4), hp4.ex e47, (by rw [List.length_append, List.length_singleton]; omega), hL4, hiN, fun pg H8 ns npg e8 hpg hnd n64 hmem => ?_⟩
        have hmem' : ∀ d, d ∈ ns ↔ BM.Reach (BM.stepS st.w st.h (mkMs st kind k)) i d := fun d => by
          rw [hmem d, List.map_append]
          exact BM.make_reach g.w0 hps _ hiN
        have hd7 := e7 _ _ (e6 _ _ hdg)
        have npd : pg ≠ dg := fun z => by rw [z, hd7] at npg; cases npg
        refine ⟨pg, rfl, ⟨_, SqL.of hpg⟩, for_list (K := K) (a := pg) (xs := ns.map nI) (fun j σ2 H' => (∃ v7 : Option V, σ2 = [some (.ref a), some (.int (kind : Int)), some (.int k), some (.ref pM), some (.ref dg), some (.int (i : Int)), some (nI (st.cells.getD i 0)), v7]) ∧ Ex H4 H' ∧ H' pg = some (.lst (ns.map nI)) ∧ ∃ kvs', H' dg = some (.dK kvs') ∧ kvs'.length ≤ 72 * i + j ∧ ∀ n : Nat, valV kvs' (Sum.inl (n : Int) : Key) = if n ∈ ns.take j then some (nI (st.cells.getD i 0)) else valV kvs (Sum.inl (n : Int) : Key))
          ⟨⟨_, rfl⟩, e47.trans e8, hpg, kvs, e8 _ _ hd7, hlen, fun n => by rw [List.take_zero, if_neg (by simp)]⟩ (fun j σ2 H' _ z => SqL.of z.2.2.1) ?_ ?_⟩
        · rintro j x σ2 H9 hj ⟨⟨v8, rfl⟩, e9, hp9, kvs', hd9, l9, hv9⟩
          rw [List.getElem?_map] at hj
          cases hgj : ns[j]? with
          | none => rw [hgj] at hj; cases hj
          | some gl =>
            rw [hgj] at hj
            cases hj
            have hjl := (List.getElem?_eq_some_iff.mp hgj).1
            refine ⟨_, rfl, _, rfl, _, rfl, dg, _, rfl, DPut.k (k := Sum.inl (gl : Int)) hd9 (sz_lt (by omega)), ?_⟩
            refine ⟨⟨_, rfl⟩, Ex.mut e9 ndg, by rw [upd_ne npd]; exact hp9, _, upd_same, ?_, fun n => ?_⟩
            · have := length_putK kvs' (Sum.inl (gl : Int) : Key) (nI (st.cells.getD i 0))
              omega
            · rw [valV_put, List.take_add_one, hgj, hv9]
              by_cases z : n = gl
              · subst z
                rw [if_pos rfl, if_pos (by simp)]
              · rw [if_neg (fun y => z (by injection y with y; omega))]
                by_cases y : n ∈ ns.take j
                · rw [if_pos y, if_pos (List.mem_append_left _ y)]
                · rw [if_neg y, if_neg]
                  intro y2
                  rcases List.mem_append.1 y2 with y2 | y2
                  · exact y y2
                  · simp at y2
                    exact z y2
        · rintro σ2 H9 ⟨⟨v8, rfl⟩, e9, hp9, kvs', hd9, l9, hv9⟩
          rw [List.length_map] at l9 hv9
          rw [List.take_length] at hv9
          exact ⟨⟨_, _, _, rfl⟩, e9, kvs', hd9, by omega, hG.new g hkM hiN hl hmem' hv9⟩
      · have hl : BM.leastOf st.w st.h (mkMs st kind k) i < i := by
          by_cases z : BM.leastOf st.w st.h (mkMs st kind k) i < i
          · exact z
          · rw [hG i hiN, if_neg z] at hb
            cases hb
        exact ⟨⟨_, _, _, rfl⟩, eH.trans (e6.trans e7), kvs, e7 _ _ (e6 _ _ hdg), by omega, hG.old g hkM hl⟩
    · rintro σ' H' ⟨⟨v5, v6, v7, rfl⟩, eH, kvs, hdg, hlen, hG⟩
      have eA : Ex H H' := e4.trans eH
      obtain ⟨dx2, l2, g1, g2, _⟩ := hS.ex eA
      refine ⟨_, rfl, a, C, dx2, _, _, rfl, g1, T.cs.cl, T.cs.nh, sF_h, _, rfl, a, C, dx2, _, _, rfl, g1, T.cs.cl, T.cs.nw, sF_w, ?_⟩
      have ln : (st.cells.map nI).length = st.h * st.w := by rw [List.length_map]; exact g.len
      rw [ln] at hG
      refine el_lcR1 (n := (((st.cells.map nI).length : Nat) : Int)) (fun _ => true) (fun i => nI (st.cells.getD (BM.leastOf st.w st.h (mkMs st kind k) i) 0)) (ea_cons (ev_len (K := K) (ev_fld (ev_var rfl) g1 T.cs.cl T.cs.nc sF_c) (sq_of g2)) ea_nil) (by omega) (fun x => rfl) (fun i H1 e1 hi => et_yes) (fun i H1 e1 hi _ => ?_) H' (Ex.refl H') _ fun pl H8 nl e8 hl => ?_
      · have hiN : i < st.h * st.w := by omega
        have hll := least_lt g (ms := mkMs st kind k) hiN
        exact ev_dget (z := (i : Int)) (ev_var rfl) (ev_var rfl) (e1 _ _ hdg) ((hG i hiN).trans (if_pos (by omega)))
      · have e8' := eA.trans e8
        have hcells : given ((((st.cells.map nI).length : Nat) : Int)).toNat (fun _ => true) (fun i => nI (st.cells.getD (BM.leastOf st.w st.h (mkMs st kind k) i) 0)) = (madeS st kind k).cells.map nI := by
          rw [given_all]
          show _ = ((List.range st.cells.length).map _).map nI
          rw [List.map_map, List.length_map]
          rfl
        rw [hcells] at hl
        exact mk_strip (H0 := H) (st := madeS st kind k) (g.made kind k) e8' ((off_ne (fresh_back eA nl)).trans hl) fun x H9 nx e9 h9 => q x H9 (fresh_back e8' nx) (e8'.trans e9) h9
end
end B

end

section
set_option Elab.async false
set_option linter.all false
set_option maxRecDepth 100000
set_option maxHeartbeats 2000000
namespace B
open PySem L2 Evl
theorem vI_dec (i j : Int) : decide (V.int i = V.int j) = decide (i = j) := by
  by_cases c : i = j
  · rw [c]; simp
  · rw [decide_eq_false c, decide_eq_false]
    intro z
    injection z with z
    exact c z
theorem vN_dec (i j : Nat) : decide (V.int (i : Int) = V.int (j : Int)) = decide (i = j) := by
  rw [vI_dec, decide_eq_decide]
  omega
/-- the first motion that takes a strip to another -/
def firstM (st ot : Wp01.Strip) : Option Wp01.Motion := if st.h ≠ ot.h ∨ Wp01.period st ≠ Wp01.period ot then none else (BM.pairsL (Wp01.period st)).find? fun m => BM.takesB st ot m (Wp01.period st)
section
variable {P : Program} {w : World} {K : PySem.W.Frag} {mg : Str → Option Value} {base : Heap} {C CL kA : Addr}

/-! ### first_motion -/
abbrev s_first_motion : Stmt := top 27
abbrev N_first_motion : List Str := ["strip", "other", "t", "kind", "k"]
theorem sc_first_motion : FnScope N_first_motion ["strip", "other"] (defScope s_first_motion) := ⟨rfl, rfl, rfl, by decide +kernel, rfl, by decide +kernel, by decide +kernel⟩
def spFirst (K : PySem.W.Frag) (C : Addr) : Sp := fun vs H Q _ => ∃ (a b : Addr) (st ot : Wp01.Strip), vs = [.ref a, .ref b] ∧ StripA K C H a st ∧ StripA K C H b ot ∧
  (∀ H', Ex H H' → firstM st ot = none → Q .non H') ∧ ∀ p H' m, H p = none → Ex H H' → firstM st ot = some m → H' p = some (.tup [nI m.kind, .int m.k]) → Q (.ref p) H'
theorem ok_first_motion {f : Addr} {fd : FuncData} (F : Fun K "first_motion" "first_motion" s_first_motion f fd) (T : Txt K mg C CL kA) (G_period : Has P w K mg base "period" ["strip"] 5 (spPeriod K C))
    (G_takes : Has P w K mg base "takes" ["strip", "other", "kind", "k", "width"] 3 (spTakes K C)) : FnOk P w K mg base CX0 6 f fd ["strip", "other"] (spFirst K C) := by
  refine F.ok sc_first_motion (fun vs H Q E h => ?_) (fun cdv A outer s H vs Q E hr h => ?_)
  · obtain ⟨a, b, st, ot, rfl, _⟩ := h
    rfl
  · obtain ⟨a, b, st, ot, rfl, hS, hO, q0, q1⟩ := h
    obtain ⟨_, _, _, _, g⟩ := id hS
    obtain ⟨_, _, _, _, go⟩ := id hO
    have Pp := BM.period_per g.w0
    have p12 : Wp01.period st ≤ 12 := Nat.le_trans Pp.le g.w1
    refine ⟨_, (pss_cons (ps_set (i := 2) sc_first_motion.nd rfl (Or.inl rfl) (pcall G_period (hr.mono (by decide)) (by rfl) (pa_cons (pv 0) pa_nil)))
      (pss_cons (ps_if (PW.pt (pw_or (pt_cmpR op_ne (pe_fld (pv 1) rfl) (pe_fld (pv 0) rfl) (nomark _)) (pw_or1 (pt_cmpR op_ne (pcall G_period (hr.mono (by decide)) (by rfl) (pa_cons (pv 1) pa_nil)) (pv 2) (nomark _))))) (pss_one (ps_ret pe_non)) pss_nil)
      (pss_cons (ps_for PassesOwn.never rfl (pi_tup (pglob (by rfl) T.c_KINDS)) (pg_name (i := 3) sc_first_motion.nd rfl (Or.inl rfl)) (pss_one (ps_for PassesOwn.never rfl (pi_range1 (by rfl) T.b_range (pa_cons (pv 2) pa_nil)) (pg_name (i := 4) sc_first_motion.nd rfl (Or.inl rfl)) (pss_one (ps_if (pt_val (pcall G_takes (hr.mono (by decide)) (by rfl) (pa_cons (pv 0) (pa_cons (pv 1) (pa_cons (pv 3) (pa_cons (pv 4) (pa_cons (pv 2) pa_nil))))))) (pss_one (ps_ret (pe_tup (pa_cons (pv 3) (pa_cons (pv 4) pa_nil))))) pss_nil)))))
      (pss_one (ps_ret pe_non))))), ?_⟩
    refine q_asg (v := nI (Wp01.period st)) (ev_call (ea_cons (ev_var rfl) ea_nil) fun H3 e3 Q' q' E' => ⟨a, st, rfl, hS.ex e3, q'⟩) fun H1 e1 => ?_
    have hS1 := hS.ex e1
    have hO1 := hO.ex e1
    refine q_when (b := !decide (ot.h = st.h) || !decide (Wp01.period ot = Wp01.period st))
      (et_or (et_is (et_test (ev_op (ev_h T.cs hO1 (ev_var rfl)) (ev_h T.cs hS1 (ev_var rfl)) (rv_ne rfl))) (by rw [vN_dec])) (fun _ => et_is (et_test (ev_op (x := nI (Wp01.period ot)) (ev_call (ea_cons (ev_var rfl) ea_nil) fun H3 e3 Q' q' E' => ⟨b, ot, rfl, hO1.ex e3, q'⟩) (ev_var rfl) (rv_ne rfl))) (by unfold nI; rw [vN_dec])))
      (fun hb H2 e2 => ?_) (fun hb H2 e2 => ?_)
    · refine s_ret (ev_c (v := .non)) fun H3 e3 => q0 H3 ((e1.trans e2).trans e3) ?_
      unfold firstM
      refine if_pos ?_
      rw [Bool.or_eq_true, Bool.not_eq_true', Bool.not_eq_true', decide_eq_false_iff_not, decide_eq_false_iff_not] at hb
      rcases hb with z | z
      · exact .inl fun y => z y.symm
      · exact .inr fun y => z y.symm
    rw [Bool.or_eq_false_iff, Bool.not_eq_false', Bool.not_eq_false', decide_eq_true_eq, decide_eq_true_eq] at hb
    obtain ⟨hh, hp⟩ := hb
    have hfm : firstM st ot = (BM.pairsL (Wp01.period st)).find? fun m => BM.takesB st ot m (Wp01.period st) := by
      unfold firstM
      refine if_neg ?_
      rintro (z | z)
      · exact z hh.symm
      · exact z hp.symm
    rw [hfm] at q0 q1
    refine q_forT (a := kA) (xs := [.int 0, .int 1, .int 2, .int 3]) ev_c (T.kinds _) (fun i σ H' => (∃ v3 v4 : Option V, σ = [some (.ref a), some (.ref b), some (nI (Wp01.period st)), v3, v4]) ∧ Ex H H' ∧ ∀ kd, kd < i → ∀ j : Nat, j < Wp01.period st → BM.takesB st ot ⟨kd, (j : Int)⟩ (Wp01.period st) = false)
      (fun H3 e3 => ⟨⟨none, none, rfl⟩, (e1.trans e2).trans e3, fun kd z => absurd z (Nat.not_lt_zero _)⟩) (fun i σ' H' _ _ => T.kinds _) ?_ ?_
    · rintro kind x σ' H' hi ⟨⟨v3, v4, rfl⟩, eH, hno⟩
      have h4 : kind < 4 := (List.getElem?_eq_some_iff.mp hi).1
      have hx : x = .int (kind : Int) := by
        match kind, h4 with
        | 0, _ => exact (Option.some.inj hi).symm
        | 1, _ => exact (Option.some.inj hi).symm
        | 2, _ => exact (Option.some.inj hi).symm
        | 3, _ => exact (Option.some.inj hi).symm
      subst hx
      refine s_forR1 (n := ((Wp01.period st : Nat) : Int)) (ea_cons (ev_var rfl) ea_nil) (by omega) (fun j σ2 H2 => (∃ v4 : Option V, σ2 = [some (.ref a), some (.ref b), some (nI (Wp01.period st)), some (.int (kind : Int)), v4]) ∧ Ex H H2 ∧ ∀ i : Nat, i < j → BM.takesB st ot ⟨kind, (i : Int)⟩ (Wp01.period st) = false)
        (fun H3 e3 => ⟨⟨_, rfl⟩, eH.trans e3, fun i z => absurd z (Nat.not_lt_zero _)⟩) ?_ ?_
      · rintro j σ2 H5 hj ⟨⟨v4, rfl⟩, e5, hno2⟩
        refine s_when (et_B (ev_call (ea_cons (ev_var rfl) (ea_cons (ev_var rfl) (ea_cons (ev_var rfl) (ea_cons (ev_var rfl) (ea_cons (ev_var rfl) ea_nil))))) fun H3 e3 Q' q' E' => ⟨a, b, st, ot, kind, Wp01.period st, (j : Int), rfl, hS.ex (e5.trans e3), hO.ex (e5.trans e3), hh, h4, Pp.pos, p12, q'⟩)) (fun hb H6 e6 => ?_) (fun hb H6 e6 => ?_)
        · exact s_retU (eu_tup (ea_cons (ev_var rfl) (ea_cons (ev_var rfl) ea_nil)) (by show 2 ≤ 100000; decide)) fun p H7 np e7 h7 => q1 p H7 ⟨kind, (j : Int)⟩ (fresh_back (e5.trans e6) np) ((e5.trans e6).trans e7) (BM.first_some h4 (by omega) hb hno hno2) h7
        · refine ⟨⟨_, rfl⟩, e5.trans e6, fun i hi2 => ?_⟩
          by_cases z : i = j
          · rw [z]; exact hb
          · exact hno2 i (by omega)
      · rintro σ2 H5 ⟨⟨v4, rfl⟩, e5, hno2⟩
        refine ⟨⟨_, _, rfl⟩, e5, fun kd hkd j hj => ?_⟩
        by_cases z : kd = kind
        · rw [z]; exact hno2 j (by omega)
        · exact hno kd (by omega) j hj
    · rintro σ' H' ⟨⟨v3, v4, rfl⟩, eH, hno⟩
      exact s_ret (ev_c (v := .non)) fun H3 e3 => q0 H3 (eH.trans e3) (BM.first_none hno)
end

/-! ### The line in the heap -/
def lF (c k p : Addr) : List (Str × V) := [("current", .ref c), ("kept", .ref k), ("past", .ref p)]
theorem lF_c {c k p : Addr} : (lF c k p).lookup ("current" : Str) = some (.ref c) := lk_here
theorem lF_k {c k p : Addr} : (lF c k p).lookup ("kept" : Str) = some (.ref k) := (lk_past (by decide +kernel)).trans lk_here
theorem lF_p {c k p : Addr} : (lF c k p).lookup ("past" : Str) = some (.ref p) := (lk_past (by decide +kernel)).trans ((lk_past (by decide +kernel)).trans lk_here)
theorem lF_setc {c k p x : Addr} : putF "current" (.ref x) (lF c k p) = lF x k p := put_here
theorem lF_setk {c k p x : Addr} : putF "kept" (.ref x) (lF c k p) = lF c x p := by
  unfold lF
  rw [put_past (by decide +kernel), put_here]
/-- all but the line, its past and one list more -/
def rest (q p g : Addr) (H : Hp) : Hp := fun a => if a = q ∨ a = p ∨ a = g then none else H a
theorem rest_ne {q p g a : Addr} {H : Hp} (h1 : a ≠ q) (h2 : a ≠ p) (h3 : a ≠ g) : rest q p g H a = H a := if_neg fun z => z.elim h1 fun z => z.elim h2 h3
theorem rest_some {q p g a : Addr} {H : Hp} {o : HO} (h : rest q p g H a = some o) : (a ≠ q ∧ a ≠ p ∧ a ≠ g) ∧ H a = some o := by
  unfold rest at h
  by_cases c : a = q ∨ a = p ∨ a = g
  · rw [if_pos c] at h; cases h
  · rw [if_neg c] at h
    exact ⟨⟨fun z => c (.inl z), fun z => c (.inr (.inl z)), fun z => c (.inr (.inr z))⟩, h⟩
theorem rest_ex {q p g : Addr} {H : Hp} : Ex (rest q p g H) H := fun a o h => (rest_some h).2
/-- what stands but for the line and its past -/
def Fr (q p : Addr) (H H' : Hp) : Prop := ∀ a o, a ≠ q → a ≠ p → H a = some o → H' a = some o
theorem Fr.of {q p : Addr} {H H' : Hp} (e : Ex H H') : Fr q p H H' := fun a o _ _ h => e a o h
theorem Fr.trans {q p : Addr} {H H1 H2 : Hp} (a : Fr q p H H1) (b : Fr q p H1 H2) : Fr q p H H2 := fun x o h1 h2 h => b x o h1 h2 (a x o h1 h2 h)
theorem Fr.updq {q p : Addr} {H : Hp} {o : HO} : Fr q p H (upd H q o) := fun a u h1 _ h => by rw [upd_ne h1]; exact h
theorem Fr.updp {q p : Addr} {H : Hp} {o : HO} : Fr q p H (upd H p o) := fun a u _ h2 h => by rw [upd_ne h2]; exact h
theorem Fr.rest {q p g : Addr} {H H' : Hp} (f : Fr q p H H') : Ex (B.rest q p g H) (B.rest q p g H') := fun a o h => by
  obtain ⟨⟨h1, h2, h3⟩, h⟩ := rest_some h
  rw [rest_ne h1 h2 h3]
  exact f a o h1 h2 h
theorem Fr.fresh {q p r : Addr} {H H' : Hp} (f : Fr q p H H') (hq : H' q ≠ none) (hp : H' p ≠ none) (h : H' r = none) : H r = none := by
  cases e : H r with
  | none => rfl
  | some o =>
    by_cases c1 : r = q
    · rw [c1] at h; exact absurd h hq
    · by_cases c2 : r = p
      · rw [c2] at h; exact absurd h hp
      · rw [f r o c1 c2 e] at h; cases h
section
variable {K : PySem.W.Frag} {C CL : Addr}
def Olds (K : PySem.W.Frag) (C : Addr) (H : Hp) : List Addr → List Wp01.Strip → Prop
  | [], [] => True
  | a :: l, s :: r => StripA K C H a s ∧ Olds K C H l r
  | _, _ => False
theorem Olds.ex {H H' : Hp} (e : Ex H H') : ∀ {l : List Addr} {r : List Wp01.Strip}, Olds K C H l r → Olds K C H' l r
  | [], [], _ => trivial
  | _ :: _, _ :: _, h => ⟨h.1.ex e, Olds.ex e h.2⟩
  | [], _ :: _, h => h.elim
  | _ :: _, [], h => h.elim
theorem Olds.len {H : Hp} : ∀ {l : List Addr} {r : List Wp01.Strip}, Olds K C H l r → l.length = r.length
  | [], [], _ => rfl
  | _ :: _, _ :: _, h => congrArg (· + 1) (Olds.len h.2)
  | [], _ :: _, h => h.elim
  | _ :: _, [], h => h.elim
structure LineB (K : PySem.W.Frag) (C CL q p g : Addr) (H : Hp) (s : Wp01.State) (dx c k : Addr) (al : List Addr) (gl : HO) : Prop where
  hq : H q = some (.ins CL dx (lF c k p))
  hp : H p = some (.lst (al.reverse.map V.ref))
  hg : H g = some gl
  qp : q ≠ p
  qg : q ≠ g
  pg : p ≠ g
  now : StripA K C (rest q p g H) c s.now
  kept : StripA K C (rest q p g H) k s.kept
  olds : Olds K C (rest q p g H) al s.old
def LineA (K : PySem.W.Frag) (C CL q p g : Addr) (H : Hp) (s : Wp01.State) : Prop := ∃ dx c k al gl, LineB K C CL q p g H s dx c k al gl
theorem LineB.fr {q p g : Addr} {H H' : Hp} {s : Wp01.State} {dx c k : Addr} {al : List Addr} {gl : HO} (h : LineB K C CL q p g H s dx c k al gl) (f : Fr q p H H') (e1 : H' q = H q) (e2 : H' p = H p) : LineB K C CL q p g H' s dx c k al gl :=
  ⟨e1.trans h.hq, e2.trans h.hp, f g _ (Ne.symm h.qg) (Ne.symm h.pg) h.hg, h.qp, h.qg, h.pg, h.now.ex f.rest, h.kept.ex f.rest, h.olds.ex f.rest⟩
theorem LineB.ex {q p g : Addr} {H H' : Hp} {s : Wp01.State} {dx c k : Addr} {al : List Addr} {gl : HO} (h : LineB K C CL q p g H s dx c k al gl) (e : Ex H H') : LineB K C CL q p g H' s dx c k al gl :=
  h.fr (Fr.of e) (by rw [h.hq]; exact e _ _ h.hq) (by rw [h.hp]; exact e _ _ h.hp)
/-- a strip of new parts -/
theorem LineB.new {q p g x : Addr} {H H' : Hp} {s : Wp01.State} {dx c k : Addr} {al : List Addr} {gl : HO} (h : LineB K C CL q p g H s dx c k al gl) {st : Wp01.Strip} (z : StripA K C (off H H') x st) : StripA K C (rest q p g H') x st := by
  refine z.ex fun a o ha => ?_
  obtain ⟨h1, h2⟩ := off_some ha
  rw [rest_ne (fun y => by rw [y, h.hq] at h1; cases h1) (fun y => by rw [y, h.hp] at h1; cases h1) (fun y => by rw [y, h.hg] at h1; cases h1)]
  exact h2
end
section
variable {P : Program} {w : World} {K : PySem.W.Frag} {mg : Str → Option Value} {base : Heap} {C CL kA : Addr}

/-! ### Line.__init__ -/
abbrev s_Line__init__ : Stmt := inClass (top 12) 0
abbrev N_Line__init__ : List Str := ["self"]
theorem sc_Line__init__ : FnScope N_Line__init__ ["self"] (defScope s_Line__init__) := ⟨rfl, rfl, rfl, by decide +kernel, rfl, by decide +kernel, by decide +kernel⟩
def spLine (K : PySem.W.Frag) (C CL : Addr) : Sp := fun vs H Q _ => ∃ (q dx : Addr), vs = [.ref q] ∧ H q = some (.ins CL dx []) ∧
  ∀ H' x p, H p = none → Ex (hide q H) H' → H' q = some (.ins CL dx (lF x x p)) → H' p = some (.lst []) → StripA K C (hide p (hide q H')) x Wp01.start → Q .non H'
theorem good_start : Good Wp01.start := ⟨by decide, by decide, by decide, by decide, rfl, fun c hc => by rw [List.mem_singleton.1 hc]; exact Nat.zero_le _⟩
theorem ok_Line {f : Addr} {fd : FuncData} (F : Fun K "__init__" "Line.__init__" s_Line__init__ f fd) (T : Txt K mg C CL kA) (G_Strip : HasC P w K mg base "Strip" C ["self", "h", "w", "colours"] 1 (spStrip C)) : FnOk P w K mg base CX0 3 f fd ["self"] (spLine K C CL) := by
  refine F.ok sc_Line__init__ (fun vs H Q E h => ?_) (fun cdv A outer s H vs Q E hr h => ?_)
  · obtain ⟨q, dx, rfl, _⟩ := h
    rfl
  · obtain ⟨q, dx, rfl, hq, k⟩ := h
    refine ⟨_, (pss_cons (ps_fld (pv 0) (pmake G_Strip (hr.mono (by decide)) (by rfl) (pa_cons pe_int (pa_cons pe_int (pa_cons (pe_lst (pa_cons pe_int pa_nil)) pa_nil)))) rfl)
      (pss_cons (ps_fld (pv 0) (pe_fld (pv 0) rfl) rfl)
      (pss_one (ps_fld (pv 0) (pe_lst pa_nil) rfl)))), ?_⟩
    refine ⟨(by show 1 ≤ sizeLine; decide), fun l nl => ?_⟩
    refine mk_rawI (C := C) (H := upd H l (.lst [V.int 0])) (l := l) (h := 1) (w := 1) fun x dx2 H2 nx e2 hx => ?_
    have e02 : Ex H H2 := (Ex.new nl).trans e2
    have hq2 := e02 _ _ hq
    have hl2 := e2 _ _ (upd_same (H := H) (a := l) (o := HO.lst [V.int 0]))
    have nxq : x ≠ q := fun z => by rw [z] at nx; rw [Ex.new nl _ _ hq] at nx; cases nx
    have nlq : l ≠ q := fun z => by rw [z, hq] at nl; cases nl
    refine ⟨_, rfl, q, CL, dx, [], rfl, hq2, T.ls.cl, T.ls.ncur, (by show 0 < 1000; decide), ?_⟩
    refine ⟨_, rfl, q, CL, dx, _, _, rfl, upd_same, T.ls.cl, T.ls.ncur, (show List.lookup ("current" : Str) (putF "current" (.ref x) []) = some (.ref x) from lk_here), _, rfl, q, CL, dx, _, rfl, upd_same, T.ls.cl, T.ls.nkept, (by show 1 < 1000; decide), ?_⟩
    refine ⟨(by show 0 ≤ sizeLine; decide), fun p np => ?_⟩
    have npq : p ≠ q := fun z => by rw [z, upd_same] at np; cases np
    have np2 : H2 p = none := by rw [upd_ne npq, upd_ne npq] at np; exact np
    refine ⟨_, rfl, q, CL, dx, _, rfl, (upd_ne (Ne.symm npq)).trans upd_same, T.ls.cl, T.ls.npast, (by show 2 < 1000; decide), ?_⟩
    have ef : putF "past" (.ref p) (putF "kept" (.ref x) (putF "current" (.ref x) [])) = lF x x p := by
      have e1 : putF "current" (.ref x) [] = [(("current" : Str), V.ref x)] := rfl
      rw [e1, put_past (by decide +kernel)]
      have e2 : putF "kept" (.ref x) [] = [(("kept" : Str), V.ref x)] := rfl
      rw [e2, put_past (by decide +kernel), put_past (by decide +kernel)]
      rfl
    rw [ef]
    have nxp : x ≠ p := fun z => by rw [← z, hx] at np2; cases np2
    have nlp : l ≠ p := fun z => by rw [← z, hl2] at np2; cases np2
    refine k _ x p (fresh_back e02 np2) (fun a o ha => ?_) upd_same ?_ ⟨dx2, l, ?_, ?_, good_start⟩
    · have haq : a ≠ q := fun z => by rw [z] at ha; unfold hide at ha; rw [if_pos rfl] at ha; cases ha
      rw [hide_ne haq] at ha
      have h2 := e02 _ _ ha
      rw [upd_ne haq, upd_ne (ne_of_none h2 np2), upd_ne haq, upd_ne haq]
      exact h2
    · rw [upd_ne npq, upd_same]
    · rw [hide_ne nxp, hide_ne nxq, upd_ne nxq, upd_ne nxp, upd_ne nxq, upd_ne nxq]
      exact hx
    · rw [hide_ne nlp, hide_ne nlq, upd_ne nlq, upd_ne nlp, upd_ne nlq, upd_ne nlq]
      exact hl2

/-! ### changed -/
abbrev s_changed : Stmt := top 30
abbrev N_changed : List Str := ["line", "strip"]
theorem sc_changed : FnScope N_changed ["line", "strip"] (defScope s_changed) := ⟨rfl, rfl, rfl, by decide +kernel, rfl, by decide +kernel, by decide +kernel⟩
def spChanged (K : PySem.W.Frag) (C CL : Addr) : Sp := fun vs H Q _ => ∃ (q p g x : Addr) (s : Wp01.State) (st : Wp01.Strip), vs = [.ref q, .ref x] ∧ LineA K C CL q p g H s ∧ StripA K C (rest q p g H) x st ∧ s.old.length ≤ 1000 ∧
  ∀ r H', H r = none → Fr q p H H' → LineA K C CL q p g H' ⟨st, s.now :: s.old, s.kept⟩ → H' r = some (.lst (howL st)) → Q (.ref r) H'
theorem ok_changed {f : Addr} {fd : FuncData} (F : Fun K "changed" "changed" s_changed f fd) (T : Txt K mg C CL kA) (G_how_it_is : Has P w K mg base "how_it_is" ["strip"] 7 (spHow K C)) : FnOk P w K mg base CX0 8 f fd ["line", "strip"] (spChanged K C CL) := by
  refine F.ok sc_changed (fun vs H Q E h => ?_) (fun cdv A outer s H vs Q E hr h => ?_)
  · obtain ⟨q, p, g, x, s, st, rfl, _⟩ := h
    rfl
  · obtain ⟨q, p, g, x, s, st, rfl, ⟨dx, c, k, al, gl, L⟩, hS, hlen, kq⟩ := h
    refine ⟨_, (pss_cons (ps_expr (pe_bm PySem.F.plainAttrs_list PySem.F.slot_list_append PySem.F.type_list_append mt_append (pe_fld (pv 0) rfl) (pa_cons (pe_fld (pv 0) rfl) pa_nil)))
      (pss_cons (ps_fld (pv 0) (pv 1) rfl)
      (pss_one (ps_ret (pcall G_how_it_is (hr.mono (by decide)) (by rfl) (pa_cons (pv 1) pa_nil)))))), ?_⟩
    have ol := L.olds.len
    refine q_app (K := K) (l := p) (v := .ref c) L.hp (ev_fld (ev_var rfl) L.hq T.ls.cl T.ls.npast lF_p) (ev_fld (ev_var rfl) L.hq T.ls.cl T.ls.ncur lF_c) (by rw [List.length_map, List.length_reverse]; omega) fun H1 e1 => ?_
    have hq1 : upd H1 p (.lst (al.reverse.map V.ref ++ [.ref c])) q = some (.ins CL dx (lF c k p)) := by rw [upd_ne L.qp]; exact e1 _ _ L.hq
    refine ⟨_, rfl, _, rfl, q, CL, dx, _, rfl, hq1, T.ls.cl, T.ls.ncur, (by show 3 < 1000; decide), ?_⟩
    rw [lF_setc]
    have fr2 : Fr q p H (upd (upd H1 p (.lst (al.reverse.map V.ref ++ [.ref c]))) q (.ins CL dx (lF x k p))) := ((Fr.of e1).trans Fr.updp).trans Fr.updq
    have hp2 : upd (upd H1 p (.lst (al.reverse.map V.ref ++ [.ref c]))) q (.ins CL dx (lF x k p)) p = some (.lst (al.reverse.map V.ref ++ [.ref c])) := by rw [upd_ne (Ne.symm L.qp), upd_same]
    have hq2 := upd_same (H := upd H1 p (.lst (al.reverse.map V.ref ++ [.ref c]))) (a := q) (o := HO.ins CL dx (lF x k p))
    generalize upd (upd H1 p (.lst (al.reverse.map V.ref ++ [.ref c]))) q (.ins CL dx (lF x k p)) = H2 at *
    refine s_retL (xs := howL st) (el_call (ea_cons (ev_var rfl) ea_nil) fun H3 e3 Q' q' E' => ⟨x, st, rfl, (hS.ex fr2.rest).ex (rest_ex.trans e3), q'⟩) fun r H3 nr e3 h3 => ?_
    have f3 : Fr q p H H3 := fr2.trans (Fr.of e3)
    refine kq r H3 (fr2.fresh (by rw [hq2]; intro z; cases z) (by rw [hp2]; intro z; cases z) nr) f3 ⟨dx, x, k, c :: al, gl, e3 _ _ hq2, ?_, f3 g _ (Ne.symm L.qg) (Ne.symm L.pg) L.hg, L.qp, L.qg, L.pg, hS.ex f3.rest, L.kept.ex f3.rest, L.now.ex f3.rest, L.olds.ex f3.rest⟩ h3
    rw [e3 _ _ hp2, List.reverse_cons, List.map_append]
    rfl
end
end B

end

section
set_option Elab.async false
set_option linter.all false
set_option maxRecDepth 100000
set_option maxHeartbeats 2000000
namespace B
open PySem L2 Evl
open Wp01 (callOf Call)
/-! ### A call by its number -/
theorem co0 {ns : List Int} {xs : List (List Int)} {c : Call} (h : callOf ((0 :: ns) :: xs) = some c) : ∃ x r, ns = [x] ∧ xs = [r] ∧ c = .strip x r := by
  rcases ns with _ | ⟨x, _ | ⟨y, ns⟩⟩ <;> rcases xs with _ | ⟨r, _ | ⟨r2, xs⟩⟩ <;> simp [callOf] at h
  exact ⟨_, _, rfl, rfl, h.symm⟩
theorem co1 {ns : List Int} {xs : List (List Int)} {c : Call} (h : callOf ((1 :: ns) :: xs) = some c) : c = .period := by
  rcases ns with _ | ⟨x, ns⟩ <;> rcases xs with _ | ⟨r, xs⟩ <;> simp [callOf] at h
  exact h.symm
theorem co2 {ns : List Int} {xs : List (List Int)} {c : Call} (h : callOf ((2 :: ns) :: xs) = some c) : c = .kinds := by
  rcases ns with _ | ⟨x, ns⟩ <;> rcases xs with _ | ⟨r, xs⟩ <;> simp [callOf] at h
  exact h.symm
theorem co3 {ns : List Int} {xs : List (List Int)} {c : Call} (h : callOf ((3 :: ns) :: xs) = some c) : c = .type := by
  rcases ns with _ | ⟨x, ns⟩ <;> rcases xs with _ | ⟨r, xs⟩ <;> simp [callOf] at h
  exact h.symm
theorem co4 {ns : List Int} {xs : List (List Int)} {c : Call} (h : callOf ((4 :: ns) :: xs) = some c) : c = .least := by
  rcases ns with _ | ⟨x, ns⟩ <;> rcases xs with _ | ⟨r, xs⟩ <;> simp [callOf] at h
  exact h.symm
theorem co5 {ns : List Int} {xs : List (List Int)} {c : Call} (h : callOf ((5 :: ns) :: xs) = some c) : ∃ x y z, ns = [x, y, z] ∧ c = .paint x y z := by
  rcases ns with _ | ⟨x, _ | ⟨y, _ | ⟨z, _ | ⟨u, ns⟩⟩⟩⟩ <;> rcases xs with _ | ⟨r, xs⟩ <;> simp [callOf] at h
  exact ⟨_, _, _, rfl, h.symm⟩
theorem co6 {ns : List Int} {xs : List (List Int)} {c : Call} (h : callOf ((6 :: ns) :: xs) = some c) : ∃ x y z, ns = [x, y, z] ∧ c = .set_ x y z := by
  rcases ns with _ | ⟨x, _ | ⟨y, _ | ⟨z, _ | ⟨u, ns⟩⟩⟩⟩ <;> rcases xs with _ | ⟨r, xs⟩ <;> simp [callOf] at h
  exact ⟨_, _, _, rfl, h.symm⟩
theorem co7 {ns : List Int} {xs : List (List Int)} {c : Call} (h : callOf ((7 :: ns) :: xs) = some c) : ∃ x y, ns = [x, y] ∧ c = .make x y := by
  rcases ns with _ | ⟨x, _ | ⟨y, _ | ⟨z, ns⟩⟩⟩ <;> rcases xs with _ | ⟨r, xs⟩ <;> simp [callOf] at h
  exact ⟨_, _, rfl, h.symm⟩
theorem co8 {ns : List Int} {xs : List (List Int)} {c : Call} (h : callOf ((8 :: ns) :: xs) = some c) : c = .swap ns := by
  rcases xs with _ | ⟨r, xs⟩ <;> simp [callOf] at h
  exact h.symm
theorem co9 {ns : List Int} {xs : List (List Int)} {c : Call} (h : callOf ((9 :: ns) :: xs) = some c) : c = .keep := by
  rcases ns with _ | ⟨x, ns⟩ <;> rcases xs with _ | ⟨r, xs⟩ <;> simp [callOf] at h
  exact h.symm
theorem co10 {ns : List Int} {xs : List (List Int)} {c : Call} (h : callOf ((10 :: ns) :: xs) = some c) : c = .same := by
  rcases ns with _ | ⟨x, ns⟩ <;> rcases xs with _ | ⟨r, xs⟩ <;> simp [callOf] at h
  exact h.symm
theorem co11 {ns : List Int} {xs : List (List Int)} {c : Call} (h : callOf ((11 :: ns) :: xs) = some c) : c = .undo := by
  rcases ns with _ | ⟨x, ns⟩ <;> rcases xs with _ | ⟨r, xs⟩ <;> simp [callOf] at h
  exact h.symm
theorem co12 {ns : List Int} {xs : List (List Int)} {c : Call} (h : callOf ((12 :: ns) :: xs) = some c) : c = .show_ := by
  rcases ns with _ | ⟨x, ns⟩ <;> rcases xs with _ | ⟨r, xs⟩ <;> simp [callOf] at h
  exact h.symm

/-! ### What every answerer promises -/
def spA (K : PySem.W.Frag) (C CL : Addr) (num : Int) : Sp := fun vs H Q _ => ∃ (q p g : Addr) (nA lA : V) (s : Wp01.State) (ns : List Int) (xs : List (List Int)) (c : Call), vs = [.ref q, nA, lA] ∧ LineA K C CL q p g H s ∧
  IntsA K (rest q p g H) nA ns ∧ RowsA K (rest q p g H) lA xs ∧ callOf ((num :: ns) :: xs) = some c ∧ ns.length ≤ 5000 ∧ (∀ x ∈ xs, x.length ≤ 5000) ∧ s.old.length ≤ 1000 ∧
  ∀ r H', H r = none → Fr q p H H' → LineA K C CL q p g H' (Wp01.step s c).1 → H' r = some (.lst ((Wp01.step s c).2.map V.int)) → Q (.ref r) H'
theorem el_cat {σ : L2.St} {H : Hp} {ta tb : TE} {xs ys : List V} {b : Addr} (ha : EvL ta σ H xs) (hb : Ev tb σ H (.ref b)) (h : H b = some (.lst ys)) (hl : xs.length + ys.length ≤ 100000) : EvL (tOp rCat ta tb) σ H (xs ++ ys) := fun H1 e Q q =>
  ha H1 e _ fun p H2 np e2 hp => hb H2 (e.trans e2) _ fun H3 e3 => ⟨p, b, xs, ys, rfl, rfl, e3 _ _ hp, e3 _ _ (e2 _ _ (e _ _ h)), sz_of hl, fun r nr => q r _ (fresh_back (e2.trans e3) nr) ((e2.trans e3).trans (Ex.new nr)) upd_same⟩
def rNon : R2 := fun x y H Q => y = .non ∧ Q (.bl (decide (x = .non))) H
theorem op_isNon {X : Cx} : OpR X (compareOp .Is) rNon := op_isN
theorem rv_non {x : V} {H : Hp} : RV rNon x .non H (.bl (decide (x = .non))) := fun H1 _ _ q => ⟨rfl, q H1 (Ex.refl H1)⟩
theorem ev_neg1 {σ : L2.St} {H : Hp} {i : Int} : Ev (tUn (rU fun i => .int (-i)) (tC (.int i))) σ H (.int (-i)) := ev_un ev_c ru_neg
section
variable {P : Program} {w : World} {K : PySem.W.Frag} {mg : Str → Option Value} {base : Heap} {C CL kA : Addr}
theorem ev_cur {q p g : Addr} {H : Hp} {s : Wp01.State} {dx c k : Addr} {al : List Addr} {gl : HO} {σ : L2.St} {i : Nat} (T : Txt K mg C CL kA) (L : LineB K C CL q p g H s dx c k al gl) (h : σ[i]? = some (some (.ref q))) : Ev (tFld K (tVar i) "current") σ H (.ref c) := ev_fld (ev_var h) L.hq T.ls.cl T.ls.ncur lF_c
theorem ev_kept {q p g : Addr} {H : Hp} {s : Wp01.State} {dx c k : Addr} {al : List Addr} {gl : HO} {σ : L2.St} {i : Nat} (T : Txt K mg C CL kA) (L : LineB K C CL q p g H s dx c k al gl) (h : σ[i]? = some (some (.ref q))) : Ev (tFld K (tVar i) "kept") σ H (.ref k) := ev_fld (ev_var h) L.hq T.ls.cl T.ls.nkept lF_k

/-! ### answer_period -/
abbrev s_answer_period : Stmt := top 37
abbrev N_answer_period : List Str := ["line", "numbers", "lists"]
theorem sc_answer_period : FnScope N_answer_period ["line", "numbers", "lists"] (defScope s_answer_period) := ⟨rfl, rfl, rfl, by decide +kernel, rfl, by decide +kernel, by decide +kernel⟩
theorem ok_answer_period {f : Addr} {fd : FuncData} (F : Fun K "answer_period" "answer_period" s_answer_period f fd) (T : Txt K mg C CL kA) (G_period : Has P w K mg base "period" ["strip"] 5 (spPeriod K C)) : FnOk P w K mg base CX0 9 f fd ["line", "numbers", "lists"] (spA K C CL 1) := by
  refine F.ok sc_answer_period (fun vs H Q E h => ?_) (fun cdv A outer s H vs Q E hr h => ?_)
  · obtain ⟨_, _, _, _, _, _, _, _, _, rfl, _⟩ := h
    rfl
  · obtain ⟨q, p, g, nA, lA, s, ns, xs, c, rfl, ⟨dx, cu, ke, al, gl, L⟩, hN, hX, hc, l1, l2, l3, k⟩ := h
    obtain rfl := co1 hc
    have hS := L.now.ex rest_ex
    refine ⟨_, (pss_one (ps_ret (pe_lst (pa_cons (pcall G_period (hr.mono (by decide)) (by rfl) (pa_cons (pe_fld (pv 0) rfl) pa_nil)) pa_nil)))), ?_⟩
    exact s_retL (xs := [nI (Wp01.period s.now)]) (el_lst (ea_cons (ev_call (ea_cons (ev_cur T L rfl) ea_nil) fun H3 e3 Q' q' E' => ⟨cu, s.now, rfl, hS.ex e3, q'⟩) ea_nil) (by show 1 ≤ 100000; decide)) fun r H1 nr e1 h1 => k r H1 nr (Fr.of e1) ⟨_, _, _, _, _, L.ex e1⟩ h1

/-! ### answer_sort -/
abbrev s_answer_sort : Stmt := top 39
abbrev N_answer_sort : List Str := ["line", "numbers", "lists"]
theorem sc_answer_sort : FnScope N_answer_sort ["line", "numbers", "lists"] (defScope s_answer_sort) := ⟨rfl, rfl, rfl, by decide +kernel, rfl, by decide +kernel, by decide +kernel⟩
theorem ok_answer_sort {f : Addr} {fd : FuncData} (F : Fun K "answer_sort" "answer_sort" s_answer_sort f fd) (T : Txt K mg C CL kA) (G_sort_of : Has P w K mg base "sort_of" ["strip"] 6 (spSort K C)) : FnOk P w K mg base CX0 9 f fd ["line", "numbers", "lists"] (spA K C CL 3) := by
  refine F.ok sc_answer_sort (fun vs H Q E h => ?_) (fun cdv A outer s H vs Q E hr h => ?_)
  · obtain ⟨_, _, _, _, _, _, _, _, _, rfl, _⟩ := h
    rfl
  · obtain ⟨q, p, g, nA, lA, s, ns, xs, c, rfl, ⟨dx, cu, ke, al, gl, L⟩, hN, hX, hc, l1, l2, l3, k⟩ := h
    obtain rfl := co3 hc
    have hS := L.now.ex rest_ex
    refine ⟨_, (pss_one (ps_ret (pe_lst (pa_cons (pcall G_sort_of (hr.mono (by decide)) (by rfl) (pa_cons (pe_fld (pv 0) rfl) pa_nil)) pa_nil)))), ?_⟩
    exact s_retL (xs := [nI (Wp01.type s.now)]) (el_lst (ea_cons (ev_call (ea_cons (ev_cur T L rfl) ea_nil) fun H3 e3 Q' q' E' => ⟨cu, s.now, rfl, hS.ex e3, q'⟩) ea_nil) (by show 1 ≤ 100000; decide)) fun r H1 nr e1 h1 => k r H1 nr (Fr.of e1) ⟨_, _, _, _, _, L.ex e1⟩ h1

/-! ### answer_least -/
abbrev s_answer_least : Stmt := top 40
abbrev N_answer_least : List Str := ["line", "numbers", "lists", "found"]
theorem sc_answer_least : FnScope N_answer_least ["line", "numbers", "lists"] (defScope s_answer_least) := ⟨rfl, rfl, rfl, by decide +kernel, rfl, by decide +kernel, by decide +kernel⟩
theorem mapNat (l : List Nat) : (l.map Wp01.nat).map V.int = l.map nI := by
  rw [List.map_map]
  rfl
theorem ok_answer_least {f : Addr} {fd : FuncData} (F : Fun K "answer_least" "answer_least" s_answer_least f fd) (T : Txt K mg C CL kA) (G_least_numbers : Has P w K mg base "least_numbers" ["strip"] 7 (spLeast K C)) : FnOk P w K mg base CX0 9 f fd ["line", "numbers", "lists"] (spA K C CL 4) := by
  refine F.ok sc_answer_least (fun vs H Q E h => ?_) (fun cdv A outer s H vs Q E hr h => ?_)
  · obtain ⟨_, _, _, _, _, _, _, _, _, rfl, _⟩ := h
    rfl
  · obtain ⟨q, p, g, nA, lA, s, ns, xs, c, rfl, ⟨dx, cu, ke, al, gl, L⟩, hN, hX, hc, l1, l2, l3, k⟩ := h
    obtain rfl := co4 hc
    have hS := L.now.ex rest_ex
    obtain ⟨_, _, _, _, gd⟩ := id hS
    have p12 : Wp01.period s.now ≤ 12 := Nat.le_trans (BM.period_per gd.w0).le gd.w1
    have ll : (Wp01.least s.now).length ≤ 6 * 12 := by
      rw [least_eq]
      exact Nat.le_trans (leastN_le _ _) (Nat.mul_le_mul gd.h1 p12)
    refine ⟨_, (pss_cons (ps_set (i := 3) sc_answer_least.nd rfl (Or.inl rfl) (pcall G_least_numbers (hr.mono (by decide)) (by rfl) (pa_cons (pe_fld (pv 0) rfl) pa_nil)))
      (pss_one (ps_ret (pe_op op_cat (pe_lst (pa_cons (pe_callB call_len_seq (by rfl) T.b_len PySem.boot_len (pa_cons (pv 3) pa_nil)) pa_nil)) (pv 3))))), ?_⟩
    refine q_asgL (xs := (Wp01.least s.now).map nI) (el_call (ea_cons (ev_cur T L rfl) ea_nil) fun H3 e3 Q' q' E' => ⟨cu, s.now, rfl, hS.ex e3, q'⟩) fun pl H1 npl e1 h1 => ?_
    refine s_retL (el_cat (el_lst (ea_cons (ev_len (K := K) (ev_var rfl) (sq_of h1)) ea_nil) (by show 1 ≤ 100000; decide)) (ev_var rfl) h1 (by rw [List.length_map]; show 1 + _ ≤ _; omega)) fun r H2 nr e2 h2 => k r H2 (fresh_back e1 nr) (Fr.of (e1.trans e2)) ⟨_, _, _, _, _, L.ex (e1.trans e2)⟩ ?_
    rw [h2, List.length_map]
    show _ = some (HO.lst (nI (Wp01.least s.now).length :: ((Wp01.least s.now).map Wp01.nat).map V.int))
    rw [mapNat]
    rfl

/-! ### answer_kinds -/
abbrev s_answer_kinds : Stmt := top 38
abbrev N_answer_kinds : List Str := ["line", "numbers", "lists", "t", "answer", "kind", "found"]
theorem sc_answer_kinds : FnScope N_answer_kinds ["line", "numbers", "lists"] (defScope s_answer_kinds) := ⟨rfl, rfl, rfl, by decide +kernel, rfl, by decide +kernel, by decide +kernel⟩
def kindsL (st : Wp01.Strip) (n : Nat) : List Int := (List.range n).flatMap fun (k : Nat) => Wp01.nat (Wp01.ofKind st k).length :: (Wp01.ofKind st k).map Wp01.nat
theorem kindsL_succ (st : Wp01.Strip) (n : Nat) : kindsL st (n + 1) = kindsL st n ++ (Wp01.nat (Wp01.ofKind st n).length :: (Wp01.ofKind st n).map Wp01.nat) := by
  unfold kindsL
  rw [List.range_succ, List.flatMap_append]
  simp
theorem ofKind_le (st : Wp01.Strip) (n : Nat) : (Wp01.ofKind st n).length ≤ Wp01.period st := keepL_le st n (Wp01.period st)
theorem kindsL_le {st : Wp01.Strip} (h : Wp01.period st ≤ 12) : ∀ n, (kindsL st n).length ≤ 13 * n
  | 0 => by simp [kindsL]
  | n + 1 => by
    have h1 := kindsL_le h n
    have h2 := ofKind_le st n
    rw [kindsL_succ, List.length_append, List.length_cons, List.length_map]
    omega
theorem ok_answer_kinds {f : Addr} {fd : FuncData} (F : Fun K "answer_kinds" "answer_kinds" s_answer_kinds f fd) (T : Txt K mg C CL kA) (G_period : Has P w K mg base "period" ["strip"] 5 (spPeriod K C)) (G_keeping : Has P w K mg base "keeping" ["strip", "kind", "width"] 5 (spKeeping K C)) : FnOk P w K mg base CX0 9 f fd ["line", "numbers", "lists"] (spA K C CL 2) := by
  refine F.ok sc_answer_kinds (fun vs H Q E h => ?_) (fun cdv A outer s H vs Q E hr h => ?_)
  · obtain ⟨_, _, _, _, _, _, _, _, _, rfl, _⟩ := h
    rfl
  · obtain ⟨q, p, g, nA, lA, s, ns, xs, c, rfl, ⟨dx, cu, ke, al, gl, L⟩, hN, hX, hc, l1, l2, l3, k⟩ := h
    obtain rfl := co2 hc
    have hS := L.now.ex rest_ex
    obtain ⟨_, _, _, _, gd⟩ := id hS
    have p12 : Wp01.period s.now ≤ 12 := Nat.le_trans (BM.period_per gd.w0).le gd.w1
    refine ⟨_, (pss_cons (ps_set (i := 3) sc_answer_kinds.nd rfl (Or.inl rfl) (pcall G_period (hr.mono (by decide)) (by rfl) (pa_cons (pe_fld (pv 0) rfl) pa_nil)))
      (pss_cons (ps_set (i := 4) sc_answer_kinds.nd rfl (Or.inl rfl) (pe_lst pa_nil))
      (pss_cons (ps_for PassesOwn.never rfl (pi_tup (pglob (by rfl) T.c_KINDS)) (pg_name (i := 5) sc_answer_kinds.nd rfl (Or.inl rfl)) (pss_cons (ps_set (i := 6) sc_answer_kinds.nd rfl (Or.inl rfl) (pcall G_keeping (hr.mono (by decide)) (by rfl) (pa_cons (pe_fld (pv 0) rfl) (pa_cons (pv 5) (pa_cons (pv 3) pa_nil)))))
      (pss_cons (ps_expr (pe_bm PySem.F.plainAttrs_list PySem.F.slot_list_append PySem.F.type_list_append mt_append (pv 4) (pa_cons (pe_callB call_len_seq (by rfl) T.b_len PySem.boot_len (pa_cons (pv 6) pa_nil)) pa_nil)))
      (pss_one (ps_expr (pe_bm PySem.F.plainAttrs_list PySem.F.slot_list_extend PySem.F.type_list_extend mt_extend (pv 4) (pa_cons (pv 6) pa_nil)))))))
      (pss_one (ps_ret (pv 4)))))), ?_⟩
    refine q_asg (v := nI (Wp01.period s.now)) (ev_call (ea_cons (ev_cur T L rfl) ea_nil) fun H3 e3 Q' q' E' => ⟨cu, s.now, rfl, hS.ex e3, q'⟩) fun H1 e1 => ?_
    refine q_asgL (xs := []) (el_lst ea_nil (by decide)) fun D H2 nD e2 h2 => ?_
    have nD0 := fresh_back e1 nD
    refine q_forT (a := kA) (xs := [.int 0, .int 1, .int 2, .int 3]) ev_c (T.kinds _) (fun i σ H' => (∃ v5 v6 : Option V, σ = [some (.ref q), some nA, some lA, some (nI (Wp01.period s.now)), some (.ref D), v5, v6]) ∧ Ex H H' ∧ H' D = some (.lst ((kindsL s.now i).map V.int)))
      (fun H3 e3 => ⟨⟨none, none, rfl⟩, (e1.trans e2).trans e3, e3 _ _ h2⟩) (fun i σ' H' _ _ => T.kinds _) ?_ ?_
    · rintro kind x σ' H' hi ⟨⟨v5, v6, rfl⟩, eH, hD⟩
      have h4 : kind < 4 := (List.getElem?_eq_some_iff.mp hi).1
      have hx : x = .int (kind : Int) := by
        match kind, h4 with
        | 0, _ => exact (Option.some.inj hi).symm
        | 1, _ => exact (Option.some.inj hi).symm
        | 2, _ => exact (Option.some.inj hi).symm
        | 3, _ => exact (Option.some.inj hi).symm
      subst hx
      have lk := kindsL_le p12 kind
      have lo := ofKind_le s.now kind
      refine q_asgL (xs := (Wp01.ofKind s.now kind).map nI) (el_call (ea_cons (ev_cur T (L.ex eH) rfl) (ea_cons (ev_var rfl) (ea_cons (ev_var rfl) ea_nil))) fun H3 e3 Q' q' E' => ⟨cu, s.now, kind, Wp01.period s.now, rfl, hS.ex (eH.trans e3), h4, p12, q'⟩) fun fp H3 nf e3 hf => ?_
      have hD3 := e3 _ _ hD
      have nfD : fp ≠ D := fun z => by rw [z, hD] at nf; cases nf
      refine q_app (K := K) (l := D) (v := nI (Wp01.ofKind s.now kind).length) hD3 (ev_var rfl) (ev_is (ev_len (K := K) (ev_var rfl) (sq_of hf)) (by rw [List.length_map]; rfl)) (by rw [List.length_map]; omega) fun H4 e4 => ?_
      have hf4 : upd H4 D (.lst ((kindsL s.now kind).map V.int ++ [nI (Wp01.ofKind s.now kind).length])) fp = some (.lst ((Wp01.ofKind s.now kind).map nI)) := by rw [upd_ne nfD]; exact e4 _ _ hf
      refine ⟨_, rfl, .inl ⟨rfl, _, sq_of upd_same⟩, _, rfl, D, fp, _, _, rfl, rfl, upd_same, hf4, sz_of (by rw [List.length_append, List.length_map, List.length_map, List.length_singleton]; omega), ?_⟩
      refine ⟨⟨_, _, rfl⟩, ?_, ?_⟩
      · rw [upd_upd]
        exact Ex.mut ((eH.trans e3).trans e4) nD0
      · rw [upd_same, kindsL_succ, List.map_append, List.append_assoc, List.map_cons, mapNat]
        rfl
    · rintro σ' H' ⟨⟨v5, v6, rfl⟩, eH, hD⟩
      exact s_ret (ev_var rfl) fun H3 e3 => k D H3 nD0 (Fr.of (eH.trans e3)) ⟨_, _, _, _, _, L.ex (eH.trans e3)⟩ (e3 _ _ hD)

/-! ### answer_show -/
abbrev s_answer_show : Stmt := top 48
abbrev N_answer_show : List Str := ["line", "numbers", "lists"]
theorem sc_answer_show : FnScope N_answer_show ["line", "numbers", "lists"] (defScope s_answer_show) := ⟨rfl, rfl, rfl, by decide +kernel, rfl, by decide +kernel, by decide +kernel⟩
theorem ok_answer_show {f : Addr} {fd : FuncData} (F : Fun K "answer_show" "answer_show" s_answer_show f fd) (T : Txt K mg C CL kA) : FnOk P w K mg base CX0 9 f fd ["line", "numbers", "lists"] (spA K C CL 12) := by
  refine F.ok sc_answer_show (fun vs H Q E h => ?_) (fun cdv A outer s H vs Q E hr h => ?_)
  · obtain ⟨_, _, _, _, _, _, _, _, _, rfl, _⟩ := h
    rfl
  · obtain ⟨q, p, g, nA, lA, s, ns, xs, c, rfl, ⟨dx, cu, ke, al, gl, L⟩, hN, hX, hc, l1, l2, l3, k⟩ := h
    obtain rfl := co12 hc
    have hS := L.now.ex rest_ex
    obtain ⟨dc, l, hc1, hc2, gd⟩ := id hS
    have hle : s.now.h * s.now.w ≤ 6 * 12 := Nat.mul_le_mul gd.h1 gd.w1
    refine ⟨_, (pss_one (ps_ret (pe_op op_cat (pe_lst (pa_cons (pe_fld (pe_fld (pv 0) rfl) rfl) (pa_cons (pe_fld (pe_fld (pv 0) rfl) rfl) pa_nil))) (pe_fld (pe_fld (pv 0) rfl) rfl)))), ?_⟩
    refine s_retL (el_cat (el_lst (ea_cons (ev_fld (ev_cur T L rfl) hc1 T.cs.cl T.cs.nw sF_w) (ea_cons (ev_fld (ev_cur T L rfl) hc1 T.cs.cl T.cs.nh sF_h) ea_nil)) (by show 2 ≤ 100000; decide)) (ev_fld (ev_cur T L rfl) hc1 T.cs.cl T.cs.nc sF_c) hc2 (by rw [List.length_map, gd.len]; show 2 + _ ≤ _; omega)) fun r H2 nr e2 h2 => k r H2 nr (Fr.of e2) ⟨_, _, _, _, _, L.ex e2⟩ ?_
    rw [h2]
    show _ = some (HO.lst (nI s.now.w :: nI s.now.h :: (s.now.cells.map Wp01.nat).map V.int))
    rw [mapNat]
    rfl

/-! ### answer_keep -/
abbrev s_answer_keep : Stmt := top 45
abbrev N_answer_keep : List Str := ["line", "numbers", "lists"]
theorem sc_answer_keep : FnScope N_answer_keep ["line", "numbers", "lists"] (defScope s_answer_keep) := ⟨rfl, rfl, rfl, by decide +kernel, rfl, by decide +kernel, by decide +kernel⟩
theorem ok_answer_keep {f : Addr} {fd : FuncData} (F : Fun K "answer_keep" "answer_keep" s_answer_keep f fd) (T : Txt K mg C CL kA) (G_period : Has P w K mg base "period" ["strip"] 5 (spPeriod K C)) : FnOk P w K mg base CX0 9 f fd ["line", "numbers", "lists"] (spA K C CL 9) := by
  refine F.ok sc_answer_keep (fun vs H Q E h => ?_) (fun cdv A outer s H vs Q E hr h => ?_)
  · obtain ⟨_, _, _, _, _, _, _, _, _, rfl, _⟩ := h
    rfl
  · obtain ⟨q, p, g, nA, lA, s, ns, xs, c, rfl, ⟨dx, cu, ke, al, gl, L⟩, hN, hX, hc, l1, l2, l3, k⟩ := h
    obtain rfl := co9 hc
    have hS := L.now.ex rest_ex
    refine ⟨_, (pss_cons (ps_fld (pv 0) (pe_fld (pv 0) rfl) rfl)
      (pss_one (ps_ret (pe_lst (pa_cons (pcall G_period (hr.mono (by decide)) (by rfl) (pa_cons (pe_fld (pv 0) rfl) pa_nil)) pa_nil))))), ?_⟩
    refine ⟨_, rfl, q, CL, dx, _, _, rfl, L.hq, T.ls.cl, T.ls.ncur, lF_c, _, rfl, q, CL, dx, _, rfl, L.hq, T.ls.cl, T.ls.nkept, (by show 3 < 1000; decide), ?_⟩
    rw [lF_setk]
    have f1 : Fr q p H (upd H q (.ins CL dx (lF cu cu p))) := Fr.updq
    have L1 : LineB K C CL q p g (upd H q (.ins CL dx (lF cu cu p))) { s with kept := s.now } dx cu cu al gl := ⟨upd_same, by rw [upd_ne (Ne.symm L.qp)]; exact L.hp, by rw [upd_ne (Ne.symm L.qg)]; exact L.hg, L.qp, L.qg, L.pg, L.now.ex f1.rest, L.now.ex f1.rest, L.olds.ex f1.rest⟩
    have hS1 := L1.now.ex rest_ex
    refine s_retL (xs := [nI (Wp01.period s.now)]) (el_lst (ea_cons (ev_call (ea_cons (ev_kept T L1 rfl) ea_nil) fun H3 e3 Q' q' E' => ⟨cu, s.now, rfl, hS1.ex e3, q'⟩) ea_nil) (by show 1 ≤ 100000; decide)) fun r H1 nr e1 h1 => k r H1 (f1.fresh (by rw [L1.hq]; intro z; cases z) (by rw [L1.hp]; intro z; cases z) nr) (f1.trans (Fr.of e1)) ⟨_, _, _, _, _, L1.ex e1⟩ h1

/-! ### answer_undo -/
abbrev s_answer_undo : Stmt := top 47
abbrev N_answer_undo : List Str := ["line", "numbers", "lists"]
theorem sc_answer_undo : FnScope N_answer_undo ["line", "numbers", "lists"] (defScope s_answer_undo) := ⟨rfl, rfl, rfl, by decide +kernel, rfl, by decide +kernel, by decide +kernel⟩
theorem ok_answer_undo {f : Addr} {fd : FuncData} (F : Fun K "answer_undo" "answer_undo" s_answer_undo f fd) (T : Txt K mg C CL kA) (G_how_it_is : Has P w K mg base "how_it_is" ["strip"] 7 (spHow K C)) : FnOk P w K mg base CX0 9 f fd ["line", "numbers", "lists"] (spA K C CL 11) := by
  refine F.ok sc_answer_undo (fun vs H Q E h => ?_) (fun cdv A outer s H vs Q E hr h => ?_)
  · obtain ⟨_, _, _, _, _, _, _, _, _, rfl, _⟩ := h
    rfl
  · obtain ⟨q, p, g, nA, lA, s, ns, xs, c, rfl, ⟨dx, cu, ke, al, gl, L⟩, hN, hX, hc, l1, l2, l3, k⟩ := h
    obtain rfl := co11 hc
    refine ⟨_, (pss_cons (ps_if (pt_not (pt_truth (pe_fld (pv 0) rfl) (by intro _; rfl))) (pss_one (ps_ret (pe_lst (pa_cons (pe_un un_neg pe_int) pa_nil)))) pss_nil)
      (pss_cons (ps_fld (pv 0) (pe_bm0 PySem.F.plainAttrs_list PySem.F.slot_list_pop PySem.F.type_list_pop mt_pop (pe_fld (pv 0) rfl)) rfl)
      (pss_one (ps_ret (pcall G_how_it_is (hr.mono (by decide)) (by rfl) (pa_cons (pe_fld (pv 0) rfl) pa_nil)))))), ?_⟩
    have hold := L.olds
    refine q_when (et_not (et_truL (K := K) (ev_fld (ev_var rfl) L.hq T.ls.cl T.ls.npast lF_p) (sq_of L.hp))) (fun hb H1 e1 => ?_) (fun hb H1 e1 => ?_)
    · have hal : al = [] := by
        cases al with
        | nil => rfl
        | cons z r => simp at hb
      subst hal
      obtain ⟨now, old, kept⟩ := s
      cases old with
      | cons z r => exact hold.elim
      | nil => exact s_retL (xs := [.int (-7)]) (el_lst (ea_cons ev_neg1 ea_nil) (by show 1 ≤ 100000; decide)) fun r H2 nr e2 h2 => k r H2 (fresh_back e1 nr) (Fr.of (e1.trans e2)) ⟨_, _, _, _, _, L.ex (e1.trans e2)⟩ h2
    · obtain ⟨now, old, kept⟩ := s
      cases al with
      | nil => simp at hb
      | cons a0 al =>
        cases old with
        | nil => exact hold.elim
        | cons t old =>
          have L1 := L.ex e1
          have hmap : (a0 :: al).reverse.map V.ref = al.reverse.map V.ref ++ [.ref a0] := by rw [List.reverse_cons, List.map_append]; rfl
          have hp1 := L1.hp
          rw [hmap] at hp1
          refine ⟨_, rfl, q, CL, dx, _, _, rfl, L1.hq, T.ls.cl, T.ls.npast, lF_p, .inl ⟨rfl, _, sq_of hp1⟩, p, _, .ref a0, rfl, rfl, hp1, ?_, ?_⟩
          · rw [List.length_append, List.length_singleton, Nat.add_sub_cancel, List.getElem?_append_right (Nat.le_refl _), Nat.sub_self]
            rfl
          rw [List.dropLast_concat]
          have hq2 : upd H1 p (.lst (al.reverse.map V.ref)) q = some (.ins CL dx (lF cu ke p)) := by rw [upd_ne L.qp]; exact L1.hq
          refine ⟨_, rfl, q, CL, dx, _, rfl, hq2, T.ls.cl, T.ls.ncur, (by show 3 < 1000; decide), ?_⟩
          rw [lF_setc]
          have f2 : Fr q p H (upd (upd H1 p (.lst (al.reverse.map V.ref))) q (.ins CL dx (lF a0 ke p))) := ((Fr.of e1).trans Fr.updp).trans Fr.updq
          have L2 : LineB K C CL q p g (upd (upd H1 p (.lst (al.reverse.map V.ref))) q (.ins CL dx (lF a0 ke p))) ⟨t, old, kept⟩ dx a0 ke al gl := ⟨upd_same, by rw [upd_ne (Ne.symm L.qp), upd_same], by rw [upd_ne (Ne.symm L.qg), upd_ne (Ne.symm L.pg)]; exact L1.hg, L.qp, L.qg, L.pg, (L.olds.1).ex f2.rest, L.kept.ex f2.rest, (L.olds.2).ex f2.rest⟩
          have hS2 := L2.now.ex rest_ex
          exact s_retL (xs := howL t) (el_call (ea_cons (ev_cur T L2 rfl) ea_nil) fun H3 e3 Q' q' E' => ⟨a0, t, rfl, hS2.ex e3, q'⟩) fun r H3 nr e3 h3 => k r H3 (f2.fresh (by rw [L2.hq]; intro z; cases z) (by rw [L2.hp]; intro z; cases z) nr) (f2.trans (Fr.of e3)) ⟨_, _, _, _, _, L2.ex e3⟩ h3

/-! ### answer_same -/
abbrev s_answer_same : Stmt := top 46
abbrev N_answer_same : List Str := ["line", "numbers", "lists", "motion"]
theorem sc_answer_same : FnScope N_answer_same ["line", "numbers", "lists"] (defScope s_answer_same) := ⟨rfl, rfl, rfl, by decide +kernel, rfl, by decide +kernel, by decide +kernel⟩
theorem step_same (s : Wp01.State) : Wp01.step s .same = (s, match firstM s.now s.kept with
    | none => [0]
    | some m => [1, Wp01.nat m.kind, m.k]) := by
  unfold firstM
  by_cases c : s.now.h ≠ s.kept.h ∨ Wp01.period s.now ≠ Wp01.period s.kept
  · rw [if_pos c]
    show (s, if s.now.h ≠ s.kept.h ∨ Wp01.period s.now ≠ Wp01.period s.kept then [0] else _) = _
    rw [if_pos c]
  · rw [if_neg c]
    show (s, if s.now.h ≠ s.kept.h ∨ Wp01.period s.now ≠ Wp01.period s.kept then [0] else _) = _
    rw [if_neg c]
    rfl
theorem ok_answer_same {f : Addr} {fd : FuncData} (F : Fun K "answer_same" "answer_same" s_answer_same f fd) (T : Txt K mg C CL kA) (G_first_motion : Has P w K mg base "first_motion" ["strip", "other"] 6 (spFirst K C)) : FnOk P w K mg base CX0 9 f fd ["line", "numbers", "lists"] (spA K C CL 10) := by
  refine F.ok sc_answer_same (fun vs H Q E h => ?_) (fun cdv A outer s H vs Q E hr h => ?_)
  · obtain ⟨_, _, _, _, _, _, _, _, _, rfl, _⟩ := h
    rfl
  · obtain ⟨q, p, g, nA, lA, s, ns, xs, c, rfl, ⟨dx, cu, ke, al, gl, L⟩, hN, hX, hc, l1, l2, l3, k⟩ := h
    obtain rfl := co10 hc
    have hS := L.now.ex rest_ex
    have hO := L.kept.ex rest_ex
    rw [step_same] at k
    refine ⟨_, (pss_cons (ps_set (i := 3) sc_answer_same.nd rfl (Or.inl rfl) (pcall G_first_motion (hr.mono (by decide)) (by rfl) (pa_cons (pe_fld (pv 0) rfl) (pa_cons (pe_fld (pv 0) rfl) pa_nil))))
      (pss_cons (ps_if (pt_cmpR op_isNon (pv 3) pe_non (nomark _)) (pss_one (ps_ret (pe_lst (pa_cons pe_int pa_nil)))) pss_nil)
      (pss_one (ps_ret (pe_lst (pa_cons pe_int (pa_cons (pe_ix ix_tup (pv 3) pe_int (fun _ _ => rfl)) (pa_cons (pe_ix ix_tup (pv 3) pe_int (fun _ _ => rfl)) pa_nil)))))))), ?_⟩
    refine ⟨_, rfl, q, CL, dx, _, _, rfl, L.hq, T.ls.cl, T.ls.ncur, lF_c, _, rfl, q, CL, dx, _, _, rfl, L.hq, T.ls.cl, T.ls.nkept, lF_k, cu, ke, s.now, s.kept, rfl, hS, hO, fun H1 e1 hn => ?_, fun pm H1 m np e1 hm h1 => ?_⟩
    · rw [hn] at k
      refine q_when (b := true) (et_is (et_test (ev_op (ev_var rfl) ev_c rv_non)) rfl) (fun _ H2 e2 => ?_) (fun z => by cases z)
      exact s_retL (xs := [.int 0]) (el_lst (ea_cons ev_c ea_nil) (by show 1 ≤ 100000; decide)) fun r H3 nr e3 h3 => k r H3 (fresh_back (e1.trans e2) nr) (Fr.of ((e1.trans e2).trans e3)) ⟨_, _, _, _, _, L.ex ((e1.trans e2).trans e3)⟩ h3
    · rw [hm] at k
      refine q_when (b := false) (et_is (et_test (ev_op (ev_var rfl) ev_c rv_non)) rfl) (fun z => by cases z) (fun _ H2 e2 => ?_)
      have t2 : SqT K H2 pm [nI m.kind, .int m.k] := st_of (e2 _ _ h1)
      exact s_retL (xs := [.int 1, nI m.kind, .int m.k]) (el_lst (ea_cons ev_c (ea_cons (ev_op (ev_var rfl) ev_c (rv_ixT t2 (atI_nat (j := 0) rfl))) (ea_cons (ev_op (ev_var rfl) ev_c (rv_ixT t2 (atI_nat (j := 1) rfl))) ea_nil))) (by show 3 ≤ 100000; decide)) fun r H3 nr e3 h3 => k r H3 (fresh_back (e1.trans e2) nr) (Fr.of ((e1.trans e2).trans e3)) ⟨_, _, _, _, _, L.ex ((e1.trans e2).trans e3)⟩ h3
end
end B

end

section
set_option Elab.async false
set_option linter.all false
set_option maxRecDepth 100000
set_option maxHeartbeats 2000000
namespace B
open PySem L2 Evl
open Wp01 (callOf Call)
/-! ### The strips that the calls make -/
theorem paint_cells {l ns cells : List Nat} {c : Nat} (h : ∀ n, n ∈ ns ↔ n ∈ l) : (cells.zipIdx.map fun (p : Nat × Nat) => if l.contains p.2 = true then c else p.1) = setAll c ns cells := by
  apply List.ext_getElem?
  intro i
  rw [setAll_get, List.getElem?_map, List.getElem?_zipIdx]
  by_cases hi : i < cells.length
  · rw [List.getElem?_eq_getElem hi]
    simp only [Option.map_some, Nat.zero_add]
    by_cases z : i ∈ ns
    · rw [if_pos (List.contains_iff_mem.2 ((h i).1 z)), if_pos ⟨z, hi⟩]
    · rw [if_neg (fun y => z ((h i).2 (List.contains_iff_mem.1 y))), if_neg (fun y => z y.1)]
  · rw [List.getElem?_eq_none (by omega), if_neg (fun y => hi y.2)]
    rfl
theorem img_cell {h w : Nat} (hw : 0 < w) (x : Int) (y : Nat) (m : Nat × Int) : img h w (((Wp01.cellAt w x y) % w : Nat) : Int) (Wp01.cellAt w x y / w) m = img h w x y m := by
  unfold img
  rw [BM.cellAt_mod hw, BM.cellAt_div hw]
  exact BM.cellAt_congr (BM.mx_mod _ _ _ _)
theorem toNat_cast {z : Int} (h : Wp01.colour z = true) : ((z.toNat : Nat) : Int) = z ∧ z.toNat ≤ 9 := by
  unfold Wp01.colour at h
  rw [Bool.and_eq_true, decide_eq_true_eq, decide_eq_true_eq] at h
  exact ⟨Int.toNat_of_nonneg h.1, by omega⟩
theorem mapToNat {r : List Int} (h : r.all Wp01.colour = true) : (r.map Int.toNat).map nI = r.map V.int := by
  rw [List.map_map]
  apply List.map_congr_left
  intro z hz
  show V.int ((z.toNat : Nat) : Int) = V.int z
  rw [(toNat_cast (List.all_eq_true.1 h z hz)).1]
theorem ixlK {X : Cx} {K : PySem.W.Frag} (h : X.K = K) : IxR X (rIxL K) := h ▸ ix_list
theorem tc_L {te : TE} {tr : TA} {σ : L2.St} {H : Hp} {xs : List V} {Q : List V → Hp → Prop} (h : EvL te σ H xs) (k : ∀ p H1, H p = none → Ex H H1 → H1 p = some (.lst xs) → tr σ H1 fun us H2 => Q (.ref p :: us) H2) : tCons te tr σ H Q := h H (Ex.refl H) _ k
theorem tc_U {te : TE} {tr : TA} {σ : L2.St} {H : Hp} {xs : List V} {Q : List V → Hp → Prop} (h : EvU te σ H xs) (k : ∀ p H1, H p = none → Ex H H1 → H1 p = some (.tup xs) → tr σ H1 fun us H2 => Q (.ref p :: us) H2) : tCons te tr σ H Q := h H (Ex.refl H) _ k
theorem tc_V {te : TE} {tr : TA} {σ : L2.St} {H : Hp} {v : V} {Q : List V → Hp → Prop} (h : Ev te σ H v) (k : ∀ H1, Ex H H1 → tr σ H1 fun us H2 => Q (v :: us) H2) : tCons te tr σ H Q := h H (Ex.refl H) _ k
theorem to_L {ta tb : TE} {r : R2} {σ : L2.St} {H : Hp} {xs : List V} {Q : VK} (h : EvL ta σ H xs) (k : ∀ p H1, H p = none → Ex H H1 → H1 p = some (.lst xs) → tb σ H1 fun y H2 => r (.ref p) y H2 Q) : tOp r ta tb σ H Q := h H (Ex.refl H) _ k
theorem ev_num {K : PySem.W.Frag} {tu tw : TE} {σ : L2.St} {H : Hp} {x : Int} {y w : Nat} (hw : 0 < w) (hy : y < 6) (hu : EvU tu σ H [.int x, .int (y : Int)]) (hv : Ev tw σ H (.int (w : Int))) : Ev (tCall (spNum K) [] E0 (tCons tu (tCons tw tNil))) σ H (nI (Wp01.cellAt w x y)) := fun H1 e Q q =>
  hu H1 e _ fun t H2 nt e2 ht => hv H2 (e.trans e2) _ fun H3 e3 => ⟨.ref t, x, (y : Int), (w : Int), rfl, ⟨t, rfl, st_of (e3 _ _ ht)⟩, by omega, ⟨by omega, by omega⟩, by
    have := q H3 (e2.trans e3)
    rw [num_cast hw]
    exact this⟩
theorem tc_make {C : Addr} {sp : Sp} {ta tr : TA} {σ : L2.St} {H : Hp} {vs : List V} {Q : List V → Hp → Prop} (h : EvA ta σ H vs)
    (k : ∀ H1, Ex H H1 → ∀ x dx, H1 x = none → H1 dx = none → dx ≠ x → sp (.ref x :: (vs ++ [])) (upd (upd H1 dx (.own x)) x (.ins C dx [])) (fun v H2 => v = .non ∧ tr σ H2 fun us H3 => Q (.ref x :: us) H3) E0) : tCons (tMake C sp [] E0 ta) tr σ H Q := h H (Ex.refl H) _ k
theorem Fr.newr {q p r : Addr} {H H1 H2 : Hp} {o : HO} (f : Fr q p H1 H2) (h : H1 r = some o) (nq : H q ≠ none) (np : H p ≠ none) (nr : H r = none) : H2 r = some o :=
  f r o (fun z => nq (z ▸ nr)) (fun z => np (z ▸ nr)) h
section
variable {P : Program} {w : World} {K : PySem.W.Frag} {mg : Str → Option Value} {base : Heap} {C CL kA : Addr}
theorem rest_new {q p g x : Addr} {H H' : Hp} {s : Wp01.State} {dx c k : Addr} {al : List Addr} {gl : HO} (L : LineB K C CL q p g H s dx c k al gl) (nx : H x = none) : rest q p g H' x = H' x :=
  rest_ne (fun z => by rw [z, L.hq] at nx; cases nx) (fun z => by rw [z, L.hp] at nx; cases nx) (fun z => by rw [z, L.hg] at nx; cases nx)

/-! ### answer_strip -/
abbrev s_answer_strip : Stmt := top 36
abbrev N_answer_strip : List Str := ["line", "numbers", "lists", "h", "colours"]
theorem sc_answer_strip : FnScope N_answer_strip ["line", "numbers", "lists"] (defScope s_answer_strip) := ⟨rfl, rfl, rfl, by decide +kernel, rfl, by decide +kernel, by decide +kernel⟩
theorem ok_answer_strip {f : Addr} {fd : FuncData} (F : Fun K "answer_strip" "answer_strip" s_answer_strip f fd) (T : Txt K mg C CL kA) (G_strip_fits : Has P w K mg base "strip_fits" ["h", "colours"] 3 (spFitsS K)) (G_changed : Has P w K mg base "changed" ["line", "strip"] 8 (spChanged K C CL)) (G_Strip : HasC P w K mg base "Strip" C ["self", "h", "w", "colours"] 1 (spStrip C)) : FnOk P w K mg base CX0 9 f fd ["line", "numbers", "lists"] (spA K C CL 0) := by
  refine F.ok sc_answer_strip (fun vs H Q E h => ?_) (fun cdv A outer s H vs Q E hr h => ?_)
  · obtain ⟨_, _, _, _, _, _, _, _, _, rfl, _⟩ := h
    rfl
  · obtain ⟨q, p, g, nA, lA, s, ns, xs, c, rfl, ⟨dx, cu, ke, al, gl, L⟩, ⟨nl, rfl, hN⟩, ⟨ll, rs, rfl, hR, hRs⟩, hc, l1, l2, l3, k⟩ := h
    obtain ⟨h, r, rfl, rfl, rfl⟩ := co0 hc
    obtain ⟨rv, hrv, l, rfl, hl⟩ := hRs.2 0 r rfl
    have hr100 := l2 r List.mem_cons_self
    have hN0 := rest_ex _ _ hN
    have hR0 := ex_l rest_ex hR
    have hl0 := rest_ex _ _ hl
    refine ⟨_, (pss_cons (ps_set (i := 3) sc_answer_strip.nd rfl (Or.inl rfl) (pe_ix ix_list (pv 1) pe_int (fun _ _ => rfl)))
      (pss_cons (ps_set (i := 4) sc_answer_strip.nd rfl (Or.inl rfl) (pe_ix ix_list (pv 2) pe_int (fun _ _ => rfl)))
      (pss_cons (ps_if (pt_not (pt_val (pcall G_strip_fits (hr.mono (by decide)) (by rfl) (pa_cons (pv 3) (pa_cons (pv 4) pa_nil))))) (pss_one (ps_ret (pe_lst (pa_cons (pe_un un_neg pe_int) pa_nil)))) pss_nil)
      (pss_one (ps_ret (pcall G_changed (hr.mono (by decide)) (by rfl) (pa_cons (pv 0) (pa_cons (pmake G_Strip (hr.mono (by decide)) (by rfl) (pa_cons (pv 3) (pa_cons (pe_op op_fdiv (pe_callB call_len_seq (by rfl) T.b_len PySem.boot_len (pa_cons (pv 4) pa_nil)) (pv 3)) (pa_cons (pv 4) pa_nil)))) pa_nil)))))))), ?_⟩
    refine q_asg (v := .int h) (ev_ixN (K := K) (i := 0) (ev_var rfl) ev_c (sq_of hN0) rfl) fun H1 e1 => ?_
    refine q_asg (v := .ref l) (ev_ixN (K := K) (i := 0) (ev_var rfl) ev_c (ex_l e1 hR0) hrv) fun H2 e2 => ?_
    have e02 := e1.trans e2
    have hl2 := e02 _ _ hl0
    refine q_when (et_not (et_B (ev_call (ea_cons (ev_var rfl) (ea_cons (ev_var rfl) ea_nil)) fun H3 e3 Q' q' E' => ⟨h, l, r, rfl, SqL.of (e3 _ _ hl2), hr100, q'⟩))) (fun hb H3 e3 => ?_) (fun hb H3 e3 => ?_)
    · have hcond : h < 1 ∨ (Wp01.HIGH : Int) < h ∨ r = [] ∨ r.length % h.toNat ≠ 0 ∨ Wp01.WIDE * h.toNat < r.length ∨ r.all Wp01.colour = false := by
        unfold fitsS at hb
        rw [Bool.not_not] at hb
        exact of_decide_eq_true hb
      have hst : Wp01.step s (.strip h r) = (s, [-1]) := if_pos hcond
      rw [hst] at k
      exact s_retL (xs := [.int (-1)]) (el_lst (ea_cons ev_neg1 ea_nil) (by show 1 ≤ 100000; decide)) fun r H4 nr e4 h4 => k r H4 (fresh_back (e02.trans e3) nr) (Fr.of ((e02.trans e3).trans e4)) ⟨_, _, _, _, _, L.ex ((e02.trans e3).trans e4)⟩ h4
    · have hcond : ¬ (h < 1 ∨ (Wp01.HIGH : Int) < h ∨ r = [] ∨ r.length % h.toNat ≠ 0 ∨ Wp01.WIDE * h.toNat < r.length ∨ r.all Wp01.colour = false) := by
        unfold fitsS at hb
        rw [Bool.not_not] at hb
        exact of_decide_eq_false hb
      have hst : Wp01.step s (.strip h r) = (⟨⟨r.length / h.toNat, h.toNat, r.map Int.toNat⟩, s.now :: s.old, s.kept⟩, [Wp01.nat (Wp01.period ⟨r.length / h.toNat, h.toNat, r.map Int.toNat⟩), Wp01.nat (Wp01.type ⟨r.length / h.toNat, h.toNat, r.map Int.toNat⟩)]) := if_neg hcond
      rw [hst] at k
      have c1 : ¬ h < 1 := fun z => hcond (.inl z)
      have c2 : ¬ (6 : Int) < h := fun z => hcond (.inr (.inl z))
      have c3 : ¬ r = [] := fun z => hcond (.inr (.inr (.inl z)))
      have c4 : r.length % h.toNat = 0 := by
        by_cases z : r.length % h.toNat = 0
        · exact z
        · exact absurd (.inr (.inr (.inr (.inl z)))) hcond
      have c5 : ¬ 12 * h.toNat < r.length := fun z => hcond (.inr (.inr (.inr (.inr (.inl z)))))
      have c6 : r.all Wp01.colour = true := by
        cases z : r.all Wp01.colour with
        | true => rfl
        | false => exact absurd (.inr (.inr (.inr (.inr (.inr z))))) hcond
      have hp : 0 < h.toNat := by omega
      have hrl : 0 < r.length := List.length_pos_iff.2 c3
      have hdm := Nat.div_add_mod r.length h.toNat
      rw [c4, Nat.add_zero] at hdm
      have gd : Good ⟨r.length / h.toNat, h.toNat, r.map Int.toNat⟩ := by
        refine ⟨?_, ?_, hp, by show h.toNat ≤ 6; omega, ?_, fun z hz => ?_⟩
        · show 0 < r.length / h.toNat
          by_cases z : r.length / h.toNat = 0
          · rw [z] at hdm; omega
          · exact Nat.pos_of_ne_zero z
        · show r.length / h.toNat ≤ 12
          exact Nat.div_le_of_le_mul (by omega)
        · show (r.map Int.toNat).length = h.toNat * (r.length / h.toNat)
          rw [List.length_map]; exact hdm.symm
        · obtain ⟨y, hy, rfl⟩ := List.mem_map.1 hz
          exact (toNat_cast (List.all_eq_true.1 c6 y hy)).2
      have hn : h = ((h.toNat : Nat) : Int) := by omega
      have hdiv : ((r.length : Nat) : Int) / h = ((r.length / h.toNat : Nat) : Int) := by
        rw [hn]; simp
      have e03 := e02.trans e3
      have hl3 := e03 _ _ hl0
      refine ⟨_, rfl, ?_⟩
      refine tc_make (vs := [nI h.toNat, nI (r.length / h.toNat), .ref l]) (ea_cons (ev_is (ev_var rfl) (by unfold nI; rw [← hn])) (ea_cons (ev_is (ev_op (ev_len (K := K) (ev_var rfl) (sq_of hl3)) (ev_var rfl) (rv_I (show CDiv _ h from ⟨by omega, by omega⟩))) (by rw [List.length_map, hdiv]; rfl)) (ea_cons (ev_var rfl) ea_nil))) fun H4 e4 => ?_
      refine mk_raw (C := C) (H := H4) (l := l) (st := ⟨r.length / h.toNat, h.toNat, r.map Int.toNat⟩) fun x dx2 H5 nx e5 hx => ?_
      have e05 := (e03.trans e4).trans e5
      have nx0 := fresh_back (e03.trans e4) nx
      refine ⟨q, p, g, x, s, ⟨r.length / h.toNat, h.toNat, r.map Int.toNat⟩, rfl, ⟨_, _, _, _, _, L.ex e05⟩, ⟨dx2, l, (rest_new L nx0).trans hx, ?_, gd⟩, l3, fun r2 H6 nr f6 L6 h6 => ?_⟩
      · rw [mapToNat c6]
        exact (Fr.of e05).rest _ _ hl
      · exact k r2 H6 (fresh_back e05 nr) ((Fr.of e05).trans f6) L6 h6

/-! ### what paint and set share -/
theorem fits_step {st : Wp01.Strip} {x y c : Int} (h : fitsC st x y c = true) : ¬ (Wp01.far x = false ∨ y < 0 ∨ Wp01.nat st.h ≤ y ∨ Wp01.colour c = false) := by
  unfold fitsC at h
  exact fun z => by rw [decide_eq_true z] at h; cases h
theorem fits_nat {st : Wp01.Strip} {x y c : Int} (h : fitsC st x y c = true) : ∃ (yn cn : Nat), y = (yn : Int) ∧ c = (cn : Int) ∧ yn < st.h ∧ cn ≤ 9 := by
  rw [fitsC_eq, Bool.and_eq_true, Bool.and_eq_true, Bool.and_eq_true, decide_eq_true_eq, decide_eq_true_eq] at h
  obtain ⟨_, h1, h2, h3⟩ := h
  obtain ⟨e, h9⟩ := toNat_cast h3
  exact ⟨y.toNat, c.toNat, by omega, by omega, by omega, h9⟩
theorem fits_no {st : Wp01.Strip} {x y c : Int} (h : fitsC st x y c = false) : Wp01.far x = false ∨ y < 0 ∨ Wp01.nat st.h ≤ y ∨ Wp01.colour c = false := by
  unfold fitsC at h
  by_cases z : Wp01.far x = false ∨ y < 0 ∨ Wp01.nat st.h ≤ y ∨ Wp01.colour c = false
  · exact z
  · rw [decide_eq_false z] at h; cases h

/-! ### answer_set_cell -/
abbrev s_answer_set_cell : Stmt := top 42
abbrev N_answer_set_cell : List Str := ["line", "numbers", "lists", "strip"]
theorem sc_answer_set_cell : FnScope N_answer_set_cell ["line", "numbers", "lists"] (defScope s_answer_set_cell) := ⟨rfl, rfl, rfl, by decide +kernel, rfl, by decide +kernel, by decide +kernel⟩
theorem ok_answer_set_cell {f : Addr} {fd : FuncData} (F : Fun K "answer_set_cell" "answer_set_cell" s_answer_set_cell f fd) (T : Txt K mg C CL kA) (G_colouring_fits : Has P w K mg base "colouring_fits" ["strip", "x", "y", "colour"] 2 (spFitsC K C)) (G_changed : Has P w K mg base "changed" ["line", "strip"] 8 (spChanged K C CL))
    (G_coloured : Has P w K mg base "coloured" ["strip", "numbers", "colour"] 3 (spColoured K C)) (G_number_of : Has P w K mg base "number_of" ["cell", "width"] 1 (spNum K)) : FnOk P w K mg base CX0 9 f fd ["line", "numbers", "lists"] (spA K C CL 6) := by
  refine F.ok sc_answer_set_cell (fun vs H Q E h => ?_) (fun cdv A outer s H vs Q E hr h => ?_)
  · obtain ⟨_, _, _, _, _, _, _, _, _, rfl, _⟩ := h
    rfl
  · obtain ⟨q, p, g, nA, lA, s, ns, xs, c, rfl, ⟨dx, cu, ke, al, gl, L⟩, ⟨nl, rfl, hN⟩, hX, hc, l1, l2, l3, k⟩ := h
    obtain ⟨x, y, c, rfl, rfl⟩ := co6 hc
    have hN0 := rest_ex _ _ hN
    have hS := L.now.ex rest_ex
    refine ⟨_, (pss_cons (ps_set (i := 3) sc_answer_set_cell.nd rfl (Or.inl rfl) (pe_fld (pv 0) rfl))
      (pss_cons (ps_if (pt_not (pt_val (pcall G_colouring_fits (hr.mono (by decide)) (by rfl) (pa_cons (pv 3) (pa_cons (pe_ix ix_list (pv 1) pe_int (fun _ _ => rfl)) (pa_cons (pe_ix ix_list (pv 1) pe_int (fun _ _ => rfl)) (pa_cons (pe_ix ix_list (pv 1) pe_int (fun _ _ => rfl)) pa_nil))))))) (pss_one (ps_ret (pe_lst (pa_cons (pe_un un_neg pe_int) pa_nil)))) pss_nil)
      (pss_one (ps_ret (pcall G_changed (hr.mono (by decide)) (by rfl) (pa_cons (pv 0) (pa_cons (pcall G_coloured (hr.mono (by decide)) (by rfl) (pa_cons (pv 3) (pa_cons (pe_lst (pa_cons (pcall G_number_of (hr.mono (by decide)) (by rfl) (pa_cons (pe_tup (pa_cons (pe_ix ix_list (pv 1) pe_int (fun _ _ => rfl)) (pa_cons (pe_ix ix_list (pv 1) pe_int (fun _ _ => rfl)) pa_nil))) (pa_cons (pe_fld (pv 3) rfl) pa_nil))) pa_nil)) (pa_cons (pe_ix ix_list (pv 1) pe_int (fun _ _ => rfl)) pa_nil)))) pa_nil))))))), ?_⟩
    refine q_asg (ev_cur T L rfl) fun H1 e1 => ?_
    have ix : ∀ (σ : L2.St) (H' : Hp) (i : Nat) (z : Int), Ex H H' → σ[1]? = some (some (.ref nl)) → ([x, y, c].map V.int)[i]? = some (.int z) → Ev (tOp (rIxL K) (tVar 1) (tC (nI i))) σ H' (.int z) := fun σ H' i z e hσ hz => ev_ixN (K := K) (ev_var hσ) ev_c (sq_of (e _ _ hN0)) hz
    refine q_when (et_not (et_B (ev_call (ea_cons (ev_var rfl) (ea_cons (ix _ _ 0 x e1 rfl rfl) (ea_cons (ix _ _ 1 y e1 rfl rfl) (ea_cons (ix _ _ 2 c e1 rfl rfl) ea_nil)))) fun H3 e3 Q' q' E' => ⟨cu, s.now, x, y, c, rfl, hS.ex (e1.trans e3), q'⟩))) (fun hb H3 e3 => ?_) (fun hb H3 e3 => ?_)
    · have hst : Wp01.step s (.set_ x y c) = (s, [-1]) := if_pos (fits_no (Bool.not_eq_true' _ ▸ hb))
      rw [hst] at k
      exact s_retL (xs := [.int (-1)]) (el_lst (ea_cons ev_neg1 ea_nil) (by show 1 ≤ 100000; decide)) fun r H4 nr e4 h4 => k r H4 (fresh_back (e1.trans e3) nr) (Fr.of ((e1.trans e3).trans e4)) ⟨_, _, _, _, _, L.ex ((e1.trans e3).trans e4)⟩ h4
    · have hf : fitsC s.now x y c = true := by
        cases z : fitsC s.now x y c with
        | true => rfl
        | false => rw [z] at hb; cases hb
      have hst : Wp01.step s (.set_ x y c) = _ := if_neg (fits_step hf)
      rw [hst] at k
      obtain ⟨yn, cn, rfl, rfl, hy, hc9⟩ := fits_nat hf
      have e03 := e1.trans e3
      obtain ⟨dc, lc, hc1, hc2, gd⟩ := id (hS.ex e03)
      have g6 := gd.h1
      refine ⟨_, rfl, _, rfl, tc_L (el_lst (ea_cons (ev_num (x := x) (y := yn) gd.w0 (by omega) (eu_tup (ea_cons (ix _ _ 0 x e03 rfl rfl) (ea_cons (ix _ _ 1 (yn : Int) e03 rfl rfl) ea_nil)) (by show 2 ≤ 100000; decide)) (ev_w T.cs (hS.ex e03) (ev_var rfl))) ea_nil) (by show 1 ≤ 100000; decide)) fun pl H4 npl e4 hpl => tc_V (ix _ _ 2 (cn : Int) (e03.trans e4) rfl rfl) fun H5 e5 => ?_⟩
      have e05 := (e03.trans e4).trans e5
      refine ⟨cu, pl, s.now, [Wp01.cellAt s.now.w x yn], cn, rfl, hS.ex e05, SqL.of (e5 _ _ hpl), fun n hn => by rw [List.mem_singleton.1 hn]; exact BM.cellAt_lt gd.w0 hy, hc9, fun px H6 npx e6 hx => ?_⟩
      refine ⟨q, p, g, px, s, _, rfl, ⟨_, _, _, _, _, L.ex (e05.trans e6)⟩, (L.ex e05).new hx, l3, fun r2 H7 nr f7 L7 h7 => ?_⟩
      exact k r2 H7 (fresh_back (e05.trans e6) nr) ((Fr.of (e05.trans e6)).trans f7) L7 h7

/-! ### answer_paint -/
abbrev s_answer_paint : Stmt := top 41
abbrev N_answer_paint : List Str := ["line", "numbers", "lists", "strip", "along"]
theorem sc_answer_paint : FnScope N_answer_paint ["line", "numbers", "lists"] (defScope s_answer_paint) := ⟨rfl, rfl, rfl, by decide +kernel, rfl, by decide +kernel, by decide +kernel⟩
theorem ok_answer_paint {f : Addr} {fd : FuncData} (F : Fun K "answer_paint" "answer_paint" s_answer_paint f fd) (T : Txt K mg C CL kA) (G_colouring_fits : Has P w K mg base "colouring_fits" ["strip", "x", "y", "colour"] 2 (spFitsC K C)) (G_changed : Has P w K mg base "changed" ["line", "strip"] 8 (spChanged K C CL))
    (G_coloured : Has P w K mg base "coloured" ["strip", "numbers", "colour"] 3 (spColoured K C)) (G_numbers_along : Has P w K mg base "numbers_along" ["strip", "motions", "cell", "width"] 2 (spAlong K C)) (G_motions_within : Has P w K mg base "motions_within" ["strip", "width"] 6 (spMotions K C)) : FnOk P w K mg base CX0 9 f fd ["line", "numbers", "lists"] (spA K C CL 5) := by
  refine F.ok sc_answer_paint (fun vs H Q E h => ?_) (fun cdv A outer s H vs Q E hr h => ?_)
  · obtain ⟨_, _, _, _, _, _, _, _, _, rfl, _⟩ := h
    rfl
  · obtain ⟨q, p, g, nA, lA, s, ns, xs, c, rfl, ⟨dx, cu, ke, al, gl, L⟩, ⟨nl, rfl, hN⟩, hX, hc, l1, l2, l3, k⟩ := h
    obtain ⟨x, y, c, rfl, rfl⟩ := co5 hc
    have hN0 := rest_ex _ _ hN
    have hS := L.now.ex rest_ex
    refine ⟨_, (pss_cons (ps_set (i := 3) sc_answer_paint.nd rfl (Or.inl rfl) (pe_fld (pv 0) rfl))
      (pss_cons (ps_if (pt_not (pt_val (pcall G_colouring_fits (hr.mono (by decide)) (by rfl) (pa_cons (pv 3) (pa_cons (pe_ix ix_list (pv 1) pe_int (fun _ _ => rfl)) (pa_cons (pe_ix ix_list (pv 1) pe_int (fun _ _ => rfl)) (pa_cons (pe_ix ix_list (pv 1) pe_int (fun _ _ => rfl)) pa_nil))))))) (pss_one (ps_ret (pe_lst (pa_cons (pe_un un_neg pe_int) pa_nil)))) pss_nil)
      (pss_cons (ps_set (i := 4) sc_answer_paint.nd rfl (Or.inl rfl) (pcall G_numbers_along (hr.mono (by decide)) (by rfl) (pa_cons (pv 3) (pa_cons (pcall G_motions_within (hr.mono (by decide)) (by rfl) (pa_cons (pv 3) (pa_cons (pe_fld (pv 3) rfl) pa_nil))) (pa_cons (pe_tup (pa_cons (pe_ix ix_list (pv 1) pe_int (fun _ _ => rfl)) (pa_cons (pe_ix ix_list (pv 1) pe_int (fun _ _ => rfl)) pa_nil))) (pa_cons (pe_fld (pv 3) rfl) pa_nil))))))
      (pss_one (ps_ret (pe_op op_cat (pe_lst (pa_cons (pe_callB call_len_seq (by rfl) T.b_len PySem.boot_len (pa_cons (pv 4) pa_nil)) pa_nil)) (pcall G_changed (hr.mono (by decide)) (by rfl) (pa_cons (pv 0) (pa_cons (pcall G_coloured (hr.mono (by decide)) (by rfl) (pa_cons (pv 3) (pa_cons (pv 4) (pa_cons (pe_ix ix_list (pv 1) pe_int (fun _ _ => rfl)) pa_nil)))) pa_nil))))))))), ?_⟩
    refine q_asg (ev_cur T L rfl) fun H1 e1 => ?_
    have ix : ∀ (σ : L2.St) (H' : Hp) (i : Nat) (z : Int), Ex H H' → σ[1]? = some (some (.ref nl)) → ([x, y, c].map V.int)[i]? = some (.int z) → Ev (tOp (rIxL K) (tVar 1) (tC (nI i))) σ H' (.int z) := fun σ H' i z e hσ hz => ev_ixN (K := K) (ev_var hσ) ev_c (sq_of (e _ _ hN0)) hz
    refine q_when (et_not (et_B (ev_call (ea_cons (ev_var rfl) (ea_cons (ix _ _ 0 x e1 rfl rfl) (ea_cons (ix _ _ 1 y e1 rfl rfl) (ea_cons (ix _ _ 2 c e1 rfl rfl) ea_nil)))) fun H3 e3 Q' q' E' => ⟨cu, s.now, x, y, c, rfl, hS.ex (e1.trans e3), q'⟩))) (fun hb H3 e3 => ?_) (fun hb H3 e3 => ?_)
    · have hst : Wp01.step s (.paint x y c) = (s, [-1]) := if_pos (fits_no (Bool.not_eq_true' _ ▸ hb))
      rw [hst] at k
      exact s_retL (xs := [.int (-1)]) (el_lst (ea_cons ev_neg1 ea_nil) (by show 1 ≤ 100000; decide)) fun r H4 nr e4 h4 => k r H4 (fresh_back (e1.trans e3) nr) (Fr.of ((e1.trans e3).trans e4)) ⟨_, _, _, _, _, L.ex ((e1.trans e3).trans e4)⟩ h4
    · have hf : fitsC s.now x y c = true := by
        cases z : fitsC s.now x y c with
        | true => rfl
        | false => rw [z] at hb; cases hb
      obtain ⟨yn, cn, rfl, rfl, hy, hc9⟩ := fits_nat hf
      have e03 := e1.trans e3
      obtain ⟨dc, lc, hc1, hc2, gd⟩ := id (hS.ex e03)
      have g6 := gd.h1
      have g12 := gd.w1
      have Pp := BM.period_per gd.w0
      have lm := motsN_le s.now s.now.w 4
      have hcN : Wp01.cellAt s.now.w x yn < s.now.h * s.now.w := BM.cellAt_lt gd.w0 hy
      refine ⟨_, rfl, _, rfl, _, rfl, cu, C, dc, _, _, rfl, hc1, T.cs.cl, T.cs.nw, sF_w, cu, s.now, s.now.w, rfl, hS.ex e03, gd.w1, fun pm H4 ms nm e4 hm hp => ?_⟩
      have e04 := e03.trans e4
      refine tc_U (eu_tup (ea_cons (ix _ _ 0 x e04 rfl rfl) (ea_cons (ix _ _ 1 (yn : Int) e04 rfl rfl) ea_nil)) (by show 2 ≤ 100000; decide)) fun t H5 nt e5 ht => tc_V (ev_w T.cs (hS.ex (e04.trans e5)) (ev_var rfl)) fun H6 e6 => ?_
      have e46 := e5.trans e6
      refine ⟨cu, pm, .ref t, s.now, s.now.w, ms, _, x, yn, rfl, hS.ex (e04.trans e46), SqL.of (e46 _ _ hm), hp.ex e46, by omega, fun m hm => (mots_mem.1 hm).1, ⟨t, rfl, st_of (e6 _ _ ht)⟩, hy, gd.w0, gd.w1, fun pa H7 an npa e7 hpa hs hmem => ?_⟩
      have e07 := (e04.trans e46).trans e7
      have hmem' : ∀ n, n ∈ an ↔ n ∈ Wp01.along s.now.w s.now.h (Wp01.all s.now ++ [⟨0, Wp01.nat (Wp01.period s.now)⟩]) (Wp01.cellAt s.now.w x yn) := fun n => by
        rw [hmem n, BM.along_told gd.w0 hcN, ← mots_img gd.w0 gd.w0 Pp.dvd_w]
        constructor
        · rintro ⟨m, h1, rfl⟩
          exact ⟨m, h1, (img_cell gd.w0 x yn m).symm⟩
        · rintro ⟨m, h1, rfl⟩
          exact ⟨m, h1, img_cell gd.w0 x yn m⟩
      obtain ⟨nd, alt, _⟩ := BM.along_spec gd.w0 (Wp01.all s.now ++ [⟨0, Wp01.nat (Wp01.period s.now)⟩]) hcN
      have hlen := BM.length_eq_of_mem (nodup_of_lt hs) nd hmem'
      have hcells : ({ s.now with cells := s.now.cells.zipIdx.map fun (p : Nat × Nat) => if (Wp01.along s.now.w s.now.h (Wp01.all s.now ++ [⟨0, Wp01.nat (Wp01.period s.now)⟩]) (Wp01.cellAt s.now.w x yn)).contains p.2 = true then cn else p.1 } : Wp01.Strip) = colouredS s.now an cn := by
        unfold colouredS
        rw [paint_cells hmem']
      have hst : Wp01.step s (.paint x (yn : Int) (cn : Int)) = (⟨colouredS s.now an cn, s.now :: s.old, s.kept⟩, [Wp01.nat an.length, Wp01.nat (Wp01.period (colouredS s.now an cn)), Wp01.nat (Wp01.type (colouredS s.now an cn))]) := by
        rw [hlen, ← hcells]
        exact if_neg (fits_step hf)
      rw [hst] at k
      refine to_L (el_lst (ea_cons (ev_len (K := K) (ev_var rfl) (sq_of hpa)) ea_nil) (by show 1 ≤ 100000; decide)) fun pl H8 npl e8 hpl => ?_
      have e08 := e07.trans e8
      refine ⟨_, rfl, _, rfl, _, rfl, tc_V (ix _ _ 2 (cn : Int) e08 rfl rfl) fun H9 e9 => ?_⟩
      have e09 := e08.trans e9
      refine ⟨cu, pa, s.now, an, cn, rfl, hS.ex e09, SqL.of ((e8.trans e9) _ _ hpa), fun n hn => alt n ((hmem' n).1 hn), hc9, fun px H10 npx e10 hx => ?_⟩
      refine ⟨q, p, g, px, s, _, rfl, ⟨_, _, _, _, _, L.ex (e09.trans e10)⟩, (L.ex e09).new hx, l3, fun r2 H11 nr f11 L11 h11 => ?_⟩
      have npl0 : H pl = none := fresh_back e07 npl
      have hpl11 : H11 pl = some _ := f11.newr (H := H) ((e9.trans e10) _ _ hpl) (by rw [L.hq]; intro z; cases z) (by rw [L.hp]; intro z; cases z) npl0
      refine ⟨pl, r2, _, _, rfl, rfl, hpl11, h11, sz_of (by show 1 + 2 ≤ 100000; decide), fun r3 nr3 => ?_⟩
      have f0 : Fr q p H H11 := (Fr.of (e09.trans e10)).trans f11
      obtain ⟨dz, cz, kz, az, gz, LZ⟩ := L11
      refine k r3 _ (f0.fresh (by rw [LZ.hq]; intro z; cases z) (by rw [LZ.hp]; intro z; cases z) nr3) (f0.trans (Fr.of (Ex.new nr3))) ?_ ?_
      · exact ⟨_, _, _, _, _, LZ.ex (Ex.new nr3)⟩
      · rw [upd_same, List.length_map]
        rfl

/-! ### answer_make -/
abbrev s_answer_make : Stmt := top 43
abbrev N_answer_make : List Str := ["line", "numbers", "lists"]
theorem sc_answer_make : FnScope N_answer_make ["line", "numbers", "lists"] (defScope s_answer_make) := ⟨rfl, rfl, rfl, by decide +kernel, rfl, by decide +kernel, by decide +kernel⟩
theorem kinds_in (z : Int) : inV (.int z) [.int 0, .int 1, .int 2, .int 3] = decide (0 ≤ z ∧ z ≤ 3) := by
  show ((0 : Int) == z || ((1 : Int) == z || ((2 : Int) == z || ((3 : Int) == z || false)))) = _
  rw [Bool.eq_iff_iff]
  simp
  omega
theorem ok_answer_make {f : Addr} {fd : FuncData} (F : Fun K "answer_make" "answer_make" s_answer_make f fd) (T : Txt K mg C CL kA) (G_is_near : Has P w K mg base "is_near" ["number"] 1 spIsNear) (G_changed : Has P w K mg base "changed" ["line", "strip"] 8 (spChanged K C CL))
    (G_with_motion : Has P w K mg base "with_motion" ["strip", "kind", "k"] 7 (spWith K C)) : FnOk P w K mg base CX0 9 f fd ["line", "numbers", "lists"] (spA K C CL 7) := by
  refine F.ok sc_answer_make (fun vs H Q E h => ?_) (fun cdv A outer s H vs Q E hr h => ?_)
  · obtain ⟨_, _, _, _, _, _, _, _, _, rfl, _⟩ := h
    rfl
  · obtain ⟨q, p, g, nA, lA, s, ns, xs, c, rfl, ⟨dx, cu, ke, al, gl, L⟩, ⟨nl, rfl, hN⟩, hX, hc, l1, l2, l3, kk⟩ := h
    obtain ⟨kind, k, rfl, rfl⟩ := co7 hc
    have hN0 := rest_ex _ _ hN
    have hS := L.now.ex rest_ex
    refine ⟨_, (pss_cons (ps_if (PW.pt (pw_or (pt_cmpR op_notIn_seq (pe_ix ix_list (pv 1) pe_int (fun _ _ => rfl)) (pglob (by rfl) T.c_KINDS) (by rfl)) (pw_or1 (pt_not (pt_val (pcall G_is_near (hr.mono (by decide)) (by rfl) (pa_cons (pe_ix ix_list (pv 1) pe_int (fun _ _ => rfl)) pa_nil))))))) (pss_one (ps_ret (pe_lst (pa_cons (pe_un un_neg pe_int) pa_nil)))) pss_nil)
      (pss_one (ps_ret (pcall G_changed (hr.mono (by decide)) (by rfl) (pa_cons (pv 0) (pa_cons (pcall G_with_motion (hr.mono (by decide)) (by rfl) (pa_cons (pe_fld (pv 0) rfl) (pa_cons (pe_ix ix_list (pv 1) pe_int (fun _ _ => rfl)) (pa_cons (pe_ix ix_list (pv 1) pe_int (fun _ _ => rfl)) pa_nil)))) pa_nil)))))), ?_⟩
    have ix : ∀ (σ : L2.St) (H' : Hp) (i : Nat) (z : Int), Ex H H' → σ[1]? = some (some (.ref nl)) → ([kind, k].map V.int)[i]? = some (.int z) → Ev (tOp (rIxL K) (tVar 1) (tC (nI i))) σ H' (.int z) := fun σ H' i z e hσ hz => ev_ixN (K := K) (ev_var hσ) ev_c (sq_of (e _ _ hN0)) hz
    refine q_when (b := !decide (0 ≤ kind ∧ kind ≤ 3) || !Wp01.far k) (et_or (et_is (et_test (ev_op (ix _ _ 0 kind (Ex.refl H) rfl rfl) ev_c (rv_niT (T.kinds _) rfl rfl))) (by rw [kinds_in])) fun _ => et_not (et_B (ev_call (ea_cons (ix _ _ 1 k (Ex.refl H) rfl rfl) ea_nil) fun H3 e3 Q' q' E' => ⟨k, rfl, q' H3 (Ex.refl H3)⟩))) (fun hb H3 e3 => ?_) (fun hb H3 e3 => ?_)
    · have hcond : kind < 0 ∨ 3 < kind ∨ Wp01.far k = false := by
        rw [Bool.or_eq_true, Bool.not_eq_true', Bool.not_eq_true', decide_eq_false_iff_not] at hb
        rcases hb with z | z
        · omega
        · exact .inr (.inr z)
      have hst : Wp01.step s (.make kind k) = (s, [-1]) := if_pos hcond
      rw [hst] at kk
      exact s_retL (xs := [.int (-1)]) (el_lst (ea_cons ev_neg1 ea_nil) (by show 1 ≤ 100000; decide)) fun r H4 nr e4 h4 => kk r H4 (fresh_back e3 nr) (Fr.of (e3.trans e4)) ⟨_, _, _, _, _, L.ex (e3.trans e4)⟩ h4
    · rw [Bool.or_eq_false_iff, Bool.not_eq_false', Bool.not_eq_false', decide_eq_true_eq] at hb
      obtain ⟨hk, hfar⟩ := hb
      have hcond : ¬ (kind < 0 ∨ 3 < kind ∨ Wp01.far k = false) := by
        rintro (z | z | z)
        · omega
        · omega
        · rw [hfar] at z; cases z
      obtain ⟨kn, rfl⟩ : ∃ kn : Nat, kind = (kn : Int) := ⟨kind.toNat, by omega⟩
      have hst : Wp01.step s (.make (kn : Int) k) = (⟨madeS s.now kn k, s.now :: s.old, s.kept⟩, [Wp01.nat (Wp01.period (madeS s.now kn k)), Wp01.nat (Wp01.type (madeS s.now kn k))]) := if_neg hcond
      rw [hst] at kk
      have L3 := L.ex e3
      refine ⟨_, rfl, _, rfl, q, CL, dx, _, _, rfl, L3.hq, T.ls.cl, T.ls.ncur, lF_c, tc_V (ix _ _ 0 (kn : Int) e3 rfl rfl) fun H4 e4 => tc_V (ix _ _ 1 k (e3.trans e4) rfl rfl) fun H5 e5 => ?_⟩
      have e05 := (e3.trans e4).trans e5
      refine ⟨cu, s.now, kn, k, rfl, hS.ex e05, by omega, fun px H6 npx e6 hx => ?_⟩
      exact ⟨q, p, g, px, s, _, rfl, ⟨_, _, _, _, _, L.ex (e05.trans e6)⟩, (L.ex e05).new hx, l3, fun r2 H7 nr f7 L7 h7 => kk r2 H7 (fresh_back (e05.trans e6) nr) ((Fr.of (e05.trans e6)).trans f7) L7 h7⟩

/-! ### answer_swap -/
abbrev s_answer_swap : Stmt := top 44
abbrev N_answer_swap : List Str := ["line", "numbers", "lists", "strip", "colour"]
theorem sc_answer_swap : FnScope N_answer_swap ["line", "numbers", "lists"] (defScope s_answer_swap) := ⟨rfl, rfl, rfl, by decide +kernel, rfl, by decide +kernel, by decide +kernel⟩
def swapS (st : Wp01.Strip) (r : List Int) : Wp01.Strip := { st with cells := st.cells.map fun (c : Nat) => (r.getD c 0).toNat }
theorem Good.swap {st : Wp01.Strip} (g : Good st) {r : List Int} (h10 : r.length = 10) (hc : r.all Wp01.colour = true) : Good (swapS st r) := by
  refine ⟨g.w0, g.w1, g.h0, g.h1, (List.length_map _).trans g.len, fun z hz => ?_⟩
  obtain ⟨c, hc1, rfl⟩ := List.mem_map.1 hz
  have hlt : c < r.length := by have := g.col c hc1; omega
  rw [List.getD_eq_getElem?_getD, List.getElem?_eq_getElem hlt]
  exact (toNat_cast (List.all_eq_true.1 hc _ (List.getElem_mem hlt))).2
theorem ok_answer_swap {f : Addr} {fd : FuncData} (F : Fun K "answer_swap" "answer_swap" s_answer_swap f fd) (T : Txt K mg C CL kA) (G_are_colours : Has P w K mg base "are_colours" ["numbers"] 2 (spAre K)) (G_changed : Has P w K mg base "changed" ["line", "strip"] 8 (spChanged K C CL))
    (G_Strip : HasC P w K mg base "Strip" C ["self", "h", "w", "colours"] 1 (spStrip C)) : FnOk P w K mg base CX0 9 f fd ["line", "numbers", "lists"] (spA K C CL 8) := by
  refine F.ok sc_answer_swap (fun vs H Q E h => ?_) (fun cdv A outer s H vs Q E hr h => ?_)
  · obtain ⟨_, _, _, _, _, _, _, _, _, rfl, _⟩ := h
    rfl
  · obtain ⟨q, p, g, nA, lA, s, ns, xs, c, rfl, ⟨dx, cu, ke, al, gl, L⟩, ⟨nl, rfl, hN⟩, hX, hc, l1, l2, l3, k⟩ := h
    obtain rfl := co8 hc
    have hN0 := rest_ex _ _ hN
    have hS := L.now.ex rest_ex
    refine ⟨_, (pss_cons (ps_set (i := 3) sc_answer_swap.nd rfl (Or.inl rfl) (pe_fld (pv 0) rfl))
      (pss_cons (ps_if (PW.pt (pw_or (pt_cmpR op_ne (pe_callB call_len_seq (by rfl) T.b_len PySem.boot_len (pa_cons (pv 1) pa_nil)) (pglob (by rfl) T.c_HOW_MANY_COLOURS) (nomark _)) (pw_or1 (pt_not (pt_val (pcall G_are_colours (hr.mono (by decide)) (by rfl) (pa_cons (pv 1) pa_nil))))))) (pss_one (ps_ret (pe_lst (pa_cons (pe_un un_neg pe_int) pa_nil)))) pss_nil)
      (pss_one (ps_ret (pcall G_changed (hr.mono (by decide)) (by rfl) (pa_cons (pv 0) (pa_cons (pmake G_Strip (hr.mono (by decide)) (by rfl) (pa_cons (pe_fld (pv 3) rfl) (pa_cons (pe_fld (pv 3) rfl) (pa_cons (pe_lc (own := [("colour", 4)]) (g := gName 4) (by rfl) sc_answer_swap.nd (pi_list (pe_fld (pv 3) rfl)) (blkOk_by (own := [("colour", 4)]) (N := N_answer_swap) (sc := defScope s_answer_swap) (by decide +kernel)) (fun _ _ _ _ _ => (pg_name (i := 4) sc_answer_swap.nd rfl (Or.inl rfl))) (fun _ _ _ _ _ => pts_nil) (fun _ _ _ _ _ => (pe_ix (ixlK (K := K) rfl) (pv 1) (pv 4) (fun _ _ => rfl)))) pa_nil)))) pa_nil))))))), ?_⟩
    refine q_asg (ev_cur T L rfl) fun H1 e1 => ?_
    have hN1 := e1 _ _ hN0
    refine q_when (b := !decide (ns.length = 10) || !ns.all Wp01.colour) (et_or (et_is (et_test (ev_op (ev_len (K := K) (ev_var rfl) (sq_of hN1)) ev_c (rv_ne rfl))) (by rw [vI_dec, List.length_map]; congr 1; rw [decide_eq_decide]; omega)) fun _ => et_not (et_B (ev_call (ea_cons (ev_var rfl) ea_nil) fun H3 e3 Q' q' E' => ⟨nl, ns, rfl, SqL.of (e3 _ _ hN1), by omega, q'⟩))) (fun hb H3 e3 => ?_) (fun hb H3 e3 => ?_)
    · have hcond : ns.length ≠ 10 ∨ ns.all Wp01.colour = false := by
        rw [Bool.or_eq_true, Bool.not_eq_true', Bool.not_eq_true', decide_eq_false_iff_not] at hb
        exact hb
      have hst : Wp01.step s (.swap ns) = (s, [-1]) := if_pos hcond
      rw [hst] at k
      exact s_retL (xs := [.int (-1)]) (el_lst (ea_cons ev_neg1 ea_nil) (by show 1 ≤ 100000; decide)) fun r H4 nr e4 h4 => k r H4 (fresh_back (e1.trans e3) nr) (Fr.of ((e1.trans e3).trans e4)) ⟨_, _, _, _, _, L.ex ((e1.trans e3).trans e4)⟩ h4
    · rw [Bool.or_eq_false_iff, Bool.not_eq_false', Bool.not_eq_false', decide_eq_true_eq] at hb
      obtain ⟨h10, hcol⟩ := hb
      have hcond : ¬ (ns.length ≠ 10 ∨ ns.all Wp01.colour = false) := by
        rintro (z | z)
        · exact z h10
        · rw [hcol] at z; cases z
      have hst : Wp01.step s (.swap ns) = (⟨swapS s.now ns, s.now :: s.old, s.kept⟩, [Wp01.nat (Wp01.period (swapS s.now ns)), Wp01.nat (Wp01.type (swapS s.now ns))]) := if_neg hcond
      rw [hst] at k
      have e03 := e1.trans e3
      obtain ⟨dc, lc, hc1, hc2, gd⟩ := id (hS.ex e03)
      have hle : s.now.h * s.now.w ≤ 6 * 12 := Nat.mul_le_mul gd.h1 gd.w1
      have hN3 := e03 _ _ hN0
      refine ⟨_, rfl, _, rfl, cu, C, dc, _, _, rfl, hc1, T.cs.cl, T.cs.nh, sF_h, _, rfl, cu, C, dc, _, _, rfl, hc1, T.cs.cl, T.cs.nw, sF_w, ?_⟩
      refine tc_L (el_lcL (K := K) (xs := s.now.cells.map nI) (fun _ => true) (fun i => V.int (ns.getD (s.now.cells.getD i 0) 0)) (ev_fld (ev_var rfl) hc1 T.cs.cl T.cs.nc sF_c) (sq_of hc2) (by rw [List.length_map, gd.len]; omega) (fun x => rfl) (fun i x H1 e1 hx => et_yes) (fun i x H4 e4 hx _ => ?_)) fun pl H4 npl e4 hpl => ?_
      · rw [List.getElem?_map] at hx
        cases hr : s.now.cells[i]? with
        | none => rw [hr] at hx; cases hx
        | some cl =>
          rw [hr] at hx
          cases hx
          have hcl : cl < ns.length := by have := gd.col cl (List.mem_of_getElem? hr); omega
          have e : s.now.cells.getD i 0 = cl := by rw [List.getD_eq_getElem?_getD, hr]; rfl
          rw [e]
          refine ev_ixN (K := K) (i := cl) (ev_var rfl) (ev_var rfl) (sq_of (e4 _ _ hN3)) ?_
          rw [List.getElem?_map, List.getD_eq_getElem?_getD, List.getElem?_eq_getElem hcl]
          rfl
      · have hcells : given (s.now.cells.map nI).length (fun _ => true) (fun i => V.int (ns.getD (s.now.cells.getD i 0) 0)) = (swapS s.now ns).cells.map nI := by
          rw [given_all, List.length_map]
          show _ = (s.now.cells.map _).map nI
          rw [List.map_map]
          apply List.ext_getElem?
          intro i
          rw [List.getElem?_map, List.getElem?_map]
          by_cases hi : i < s.now.cells.length
          · have hcl : s.now.cells[i] < ns.length := by have := gd.col _ (List.getElem_mem hi); omega
            rw [List.getElem?_range hi, List.getElem?_eq_getElem hi]
            show some (V.int (ns.getD (s.now.cells.getD i 0) 0)) = some (V.int (((ns.getD s.now.cells[i] 0).toNat : Nat) : Int))
            have e : s.now.cells.getD i 0 = s.now.cells[i] := by rw [List.getD_eq_getElem?_getD, List.getElem?_eq_getElem hi]; rfl
            rw [e]
            have e2 : ns.getD s.now.cells[i] 0 = ns[s.now.cells[i]] := by rw [List.getD_eq_getElem?_getD, List.getElem?_eq_getElem hcl]; rfl
            rw [e2, (toNat_cast (List.all_eq_true.1 hcol _ (List.getElem_mem hcl))).1]
          · rw [List.getElem?_eq_none (by rw [List.length_range]; omega), List.getElem?_eq_none (by omega)]
            rfl
        rw [hcells] at hpl
        have e04 := e03.trans e4
        refine mk_strip (K := K) (C := C) (H0 := H) (H := H4) (l := pl) (st := swapS s.now ns) (gd.swap h10 hcol) e04 ((off_ne (fresh_back e03 npl)).trans hpl) fun x H5 nx e5 h5 => ?_
        exact ⟨q, p, g, x, s, _, rfl, ⟨_, _, _, _, _, L.ex (e04.trans e5)⟩, L.new h5, l3, fun r2 H6 nr f6 L6 h6 => k r2 H6 (fresh_back (e04.trans e5) nr) ((Fr.of (e04.trans e5)).trans f6) L6 h6⟩
end
end B

end

section
set_option Elab.async false
set_option linter.all false
set_option maxRecDepth 100000
set_option maxHeartbeats 2000000
/-! From what the head finds to the defs' promises. -/
namespace B
open PySem L2 Evl
/-- a def of the module as the top has left it -/
def Here (K : PySem.W.Frag) (x : Str) (st : Stmt) : Prop := ∃ (f : Addr) (fd : FuncData), PySem.W.nsIn K mainGlobals x = some (some (.ref f)) ∧ Fun K x x st f fd
theorem here_mk {K : PySem.W.Frag} {x : Str} {st : Stmt} {f : Addr} {oc : Value} {od an : Option Addr} {osl : Array (Option Value)} {kV doc pm cdv ct : Value} (a : PySem.W.nsIn K mainGlobals x = some (some (.ref f)))
    (l : K.lookup f = some ⟨oc, od, .func (PySem.W.fnOf x x (defArgs st) (defBody st) (defScope st) .none kV doc pm an cdv ct), osl⟩) (c : PySem.W.codeIn K cdv x = true) (k : PySem.W.keepIn K (.ref f) = true) : Here K x st := ⟨f, _, a, fun_mk l c k⟩
def HereF (K : PySem.W.Frag) (x : Str) (st : Stmt) (f : Addr) : Prop := ∃ fd : FuncData, Fun K x x st f fd
theorem hereF_mk {K : PySem.W.Frag} {x : Str} {st : Stmt} {f : Addr} {oc : Value} {od an : Option Addr} {osl : Array (Option Value)} {kV doc pm cdv ct : Value} (a : PySem.W.nsIn K mainGlobals x = some (some (.ref f)))
    (l : K.lookup f = some ⟨oc, od, .func (PySem.W.fnOf x x (defArgs st) (defBody st) (defScope st) .none kV doc pm an cdv ct), osl⟩) (c : PySem.W.codeIn K cdv x = true) (k : PySem.W.keepIn K (.ref f) = true) : HereF K x st f := ⟨_, fun_mk l c k⟩
theorem held_of {P : Program} {w : World} {K : PySem.W.Frag} {mg : Str → Option Value} {base : Heap} {x : Str} {st : Stmt} {f : Addr} {ps : List Str} {k : Nat} {sp : Sp} (H : HereF K x st f) (ok : ∀ fd, Fun K x x st f fd → FnOk P w K mg base CX0 k f fd ps sp) (hb : ∀ fd, Fun K x x st f fd → Binds K fd ps []) : Held P w K mg base k f sp := by
  obtain ⟨fd, F⟩ := H
  exact ⟨fd, ps, ok fd F, F.kp, hb fd F⟩
/-- a class of the module, its __init__ -/
structure HereC (K : PySem.W.Frag) (x qual : Str) (C : Addr) (st : Stmt) : Prop where
  ns : PySem.W.nsIn K mainGlobals x = some (some (.ref C))
  cl : Cls K C
  made : ∃ (f : Addr) (fd : FuncData), Mk K C f ∧ Fun K "__init__" qual st f fd
theorem hereC_mk {K : PySem.W.Frag} {x qual : Str} {C : Addr} {st : Stmt} {f : Addr} {oc : Value} {od an : Option Addr} {osl : Array (Option Value)} {kV doc pm cdv ct : Value} (a : PySem.W.nsIn K mainGlobals x = some (some (.ref C)))
    (i : PySem.W.findIn K (.ref C) "__init__" = some (some (.ref f))) (j : PySem.W.isFn K (.ref f) = true)
    (l : K.lookup f = some ⟨oc, od, .func (PySem.W.fnOf "__init__" qual (defArgs st) (defBody st) (defScope st) .none kV doc pm an cdv ct), osl⟩) (c : PySem.W.codeIn K cdv qual = true) (k : PySem.W.keepIn K (.ref f) = true)
    (pg : PySem.W.plainGet K C Str.empty = true) (hd : PySem.W.hasDictIn K C = true) (po : PySem.W.plainOver K C = true) (sa : PySem.W.findIn K (.ref C) "__setattr__" = some (some (.builtin "object.__setattr__"))) (mk : PySem.W.makesIn K C = true) (kc : PySem.W.keepIn K (.ref C) = true) : HereC K x qual C st :=
  ⟨a, ⟨pg, hd, po, sa⟩, f, _, ⟨mk, i, j, kc⟩, fun_mk l c k⟩
section
variable {P : Program} {w : World} {K : PySem.W.Frag} {mg : Str → Option Value} {base h : Heap}
theorem has_of {x : Str} {st : Stmt} {ps : List Str} {k : Nat} {sp : Sp} (X : K.In h) (G : h.Ns mainGlobals mg) (H : Here K x st) (ok : ∀ f fd, Fun K x x st f fd → FnOk P w K mg base CX0 k f fd ps sp) (hb : ∀ f fd, Fun K x x st f fd → Binds K fd ps []) : Has P w K mg base x ps k sp := by
  obtain ⟨f, fd, a, F⟩ := H
  exact ⟨f, fd, ok f fd F, PySem.W.mg_of X G a, F.kp, hb f fd F⟩
theorem hasC_of {x qual : Str} {C : Addr} {st : Stmt} {ps : List Str} {k : Nat} {sp : Sp} (X : K.In h) (G : h.Ns mainGlobals mg) (H : HereC K x qual C st) (ok : ∀ f fd, Fun K "__init__" qual st f fd → FnOk P w K mg base CX0 k f fd ps sp) (hb : ∀ f fd, Fun K "__init__" qual st f fd → Binds K fd ps []) : HasC P w K mg base x C ps k sp := by
  obtain ⟨f, fd, M, F⟩ := H.made
  exact ⟨f, fd, M, ok f fd F, PySem.W.mg_of X G H.ns, hb f fd F⟩
theorem const_of {x : Str} {i : Int} (X : K.In h) (G : h.Ns mainGlobals mg) (H : ∃ t, PySem.W.nsIn K mainGlobals x = some (some (.int i t))) : ∃ u, mg x = some u ∧ RelV (.int i) u := by
  obtain ⟨t, a⟩ := H
  exact ⟨_, PySem.W.mg_of X G a, t, rfl⟩
theorem kinds_of {a : Addr} {od : Option Addr} {sl : Array (Option Value)} {t0 t1 t2 t3 : Tok} {n : Nat} (l : K.lookup a = some ⟨.type "tuple", od, .seq #[.int 0 t0, .int 1 t1, .int 2 t2, .int 3 t3] n, sl⟩) : ∀ H, SqT K H a [.int 0, .int 1, .int 2, .int 3] := fun H =>
  .inr ⟨_, _, _, l, rfl, rfl, by show 4 ≤ sizeLine; decide, .cons ⟨_, rfl⟩ (.cons ⟨_, rfl⟩ (.cons ⟨_, rfl⟩ (.cons ⟨_, rfl⟩ .nil)))⟩
end
end B

end

section
set_option Elab.async false
set_option linter.all false
set_option maxRecDepth 100000
set_option maxHeartbeats 2000000
namespace B
open PySem L2 Evl
open Wp01 (callOf Call)
open PyFlat (putRow putRows)
open PyWide (put put1)
/-! ### The calls, one after another -/
theorem co_num {p : Int} {ns : List Int} {xs : List (List Int)} {c : Call} (h : callOf ((p :: ns) :: xs) = some c) : 0 ≤ p ∧ p ≤ 12 := by
  unfold callOf at h
  split at h <;> simp_all
theorem co_old (s : Wp01.State) (c : Call) : (Wp01.step s c).1.old.length ≤ s.old.length + 1 := by
  obtain ⟨now, old, kept⟩ := s
  cases c with
  | undo =>
    cases old with
    | nil => exact Nat.zero_le _
    | cons t l => show l.length ≤ l.length + 1 + 1; omega
  | strip h r => simp only [Wp01.step]; split <;> simp [Wp01.changed]
  | paint x y c => simp only [Wp01.step]; split <;> simp [Wp01.changed]
  | set_ x y c => simp only [Wp01.step]; split <;> simp [Wp01.changed]
  | make x y => simp only [Wp01.step]; split <;> simp [Wp01.changed]
  | swap r => simp only [Wp01.step]; split <;> simp [Wp01.changed]
  | _ => exact Nat.le_succ _
def after (s : Wp01.State) (cs : List (List (List Int))) : Wp01.State := cs.foldl (fun s c => (Wp01Neutral.step s c).1) s
theorem played_app : ∀ (a b : List (List (List Int))) (s : Wp01.State), PyFlat.played Wp01Neutral.step s (a ++ b) = PyFlat.played Wp01Neutral.step s a ++ PyFlat.played Wp01Neutral.step (after s a) b
  | [], b, s => rfl
  | c :: a, b, s => by
    show (Wp01Neutral.step s c).2 :: PyFlat.played Wp01Neutral.step (Wp01Neutral.step s c).1 (a ++ b) = _
    rw [played_app a b]
    rfl
theorem told_app (a b : List (List Int)) : PyFlat.told (a ++ b) = PyFlat.told a ++ PyFlat.told b := by
  unfold PyFlat.told
  rw [List.flatMap_append]
def outN (cs : List (List (List Int))) (i : Nat) : List Int := PyFlat.told (PyFlat.played Wp01Neutral.step Wp01Neutral.start (cs.take i))
def stN (cs : List (List (List Int))) (i : Nat) : Wp01.State := after Wp01Neutral.start (cs.take i)
theorem outN_succ {cs : List (List (List Int))} {i : Nat} {c : List (List Int)} {x : Call} (h : cs[i]? = some c) (hx : callOf c = some x) : outN cs (i + 1) = outN cs i ++ (((Wp01.step (stN cs i) x).2.length : Int) :: (Wp01.step (stN cs i) x).2) := by
  have e : Wp01Neutral.step (stN cs i) c = Wp01.step (stN cs i) x := by
    unfold Wp01Neutral.step Wp01Neutral.callOf
    rw [hx]
  unfold outN
  rw [List.take_add_one, h]
  show PyFlat.told (PyFlat.played Wp01Neutral.step Wp01Neutral.start (cs.take i ++ [c])) = _
  rw [played_app, told_app]
  show _ ++ PyFlat.told [(Wp01Neutral.step (stN cs i) c).2] = _
  rw [e]
  unfold PyFlat.told
  simp
theorem stN_succ {cs : List (List (List Int))} {i : Nat} {c : List (List Int)} {x : Call} (h : cs[i]? = some c) (hx : callOf c = some x) : stN cs (i + 1) = (Wp01.step (stN cs i) x).1 := by
  have e : Wp01Neutral.step (stN cs i) c = Wp01.step (stN cs i) x := by
    unfold Wp01Neutral.step Wp01Neutral.callOf
    rw [hx]
  rw [← e]
  unfold stN after
  rw [List.take_add_one, h]
  simp
theorem outN_le (cs : List (List (List Int))) (i : Nat) : (outN cs i).length ≤ (PyFlat.told (PyFlat.played Wp01Neutral.step Wp01Neutral.start cs)).length := by
  have e : PyFlat.told (PyFlat.played Wp01Neutral.step Wp01Neutral.start cs) = outN cs i ++ PyFlat.told (PyFlat.played Wp01Neutral.step (stN cs i) (cs.drop i)) := by
    conv => lhs; rw [← List.take_append_drop i cs, played_app, told_app]
    rfl
  rw [e, List.length_append]
  omega
theorem rows_each : ∀ {xs : List (List Int)} {x : List Int}, x ∈ xs → x.length ≤ (putRows xs).length
  | y :: r, x, h => by
    show _ ≤ ((y.length : Int) :: y ++ putRows r).length
    rw [List.length_append, List.length_cons]
    rcases List.mem_cons.1 h with e | e
    · subst e; omega
    · have := rows_each e; omega
theorem put_each : ∀ {cs : List (List (List Int))} {p : Int} {ns : List Int} {xs : List (List Int)}, ((p :: ns) :: xs) ∈ cs → ns.length ≤ (put cs).length ∧ ∀ x ∈ xs, x.length ≤ (put cs).length
  | c :: r, p, ns, xs, h => by
    show _ ≤ (put1 c ++ put r).length ∧ ∀ x ∈ xs, x.length ≤ (put1 c ++ put r).length
    rw [List.length_append]
    rcases List.mem_cons.1 h with e | e
    · subst e
      have e1 : (put1 ((p :: ns) :: xs)).length = ns.length + (putRows xs).length + 3 := by
        show ((ns.length : Int) :: ns ++ ((xs.length : Int) :: putRows xs)).length + 1 = _
        rw [List.length_append, List.length_cons, List.length_cons]
        omega
      rw [e1]
      exact ⟨by omega, fun x hx => by have := rows_each hx; omega⟩
    · obtain ⟨a, b⟩ := put_each e
      exact ⟨by omega, fun x hx => by have := b x hx; omega⟩
section
variable {P : Program} {w : World} {K : PySem.W.Frag} {mg : Str → Option Value} {base : Heap} {C CL kA : Addr}
theorem LineB.updg {q p g : Addr} {H : Hp} {s : Wp01.State} {dx c k : Addr} {al : List Addr} {gl o : HO} (L : LineB K C CL q p g H s dx c k al gl) : LineB K C CL q p g (upd H g o) s dx c k al o := by
  have e : rest q p g (upd H g o) = rest q p g H := by
    funext a
    unfold rest
    by_cases z : a = q ∨ a = p ∨ a = g
    · rw [if_pos z, if_pos z]
    · rw [if_neg z, if_neg z, upd_ne (fun y => z (.inr (.inr y)))]
  exact ⟨by rw [upd_ne L.qg]; exact L.hq, by rw [upd_ne L.pg]; exact L.hp, upd_same, L.qp, L.qg, L.pg, by rw [e]; exact L.now, by rw [e]; exact L.kept, by rw [e]; exact L.olds⟩

/-! ### answers -/
abbrev s_answers : Stmt := top 51
abbrev N_answers : List Str := ["calls", "line", "given", "call", "numbers", "lists", "answer"]
theorem sc_answers : FnScope N_answers ["calls"] (defScope s_answers) := ⟨rfl, rfl, rfl, by decide +kernel, rfl, by decide +kernel, by decide +kernel⟩
def spAns (K : PySem.W.Frag) : Sp := fun vs H Q _ => ∃ (a : Addr) (ns : List Int), vs = [.ref a] ∧ SqL K H a (ns.map V.int) ∧ ns.length ≤ 5000 ∧ PyWp01.answers_asked ns = true ∧
  ∀ (H' : Hp) (p : Addr), H' p = some (.lst ((PyWp01.answers ns).map V.int)) → Q (.ref p) H'
/-- the module's table of answerers -/
structure Tab (P : Program) (w : World) (K : PySem.W.Frag) (mg : Str → Option Value) (base : Heap) (C CL dA : Addr) (fA : Int → Addr) : Prop where
  c_ANSWERERS : ∃ u, mg "ANSWERERS" = some u ∧ RelV (.ref dA) u
  at_ : ∀ z : Int, 0 ≤ z → z ≤ 12 → KDI K dA z (.ref (fA z))
  held : ∀ z : Int, 0 ≤ z → z ≤ 12 → Held P w K mg base 9 (fA z) (spA K C CL z)
theorem ok_answers {f : Addr} {fd : FuncData} {dA : Addr} {fA : Int → Addr} (F : Fun K "answers" "answers" s_answers f fd) (T : Txt K mg C CL kA) (U : Tab P w K mg base C CL dA fA) (G_Line : HasC P w K mg base "Line" CL ["self"] 3 (spLine K C CL)) (G_calls_apart : Has P w K mg base "calls_apart" ["calls"] 1 (spApart K)) : FnOk P w K mg base CX0 10 f fd ["calls"] (spAns K) := by
  refine F.ok sc_answers (fun vs H Q E h => ?_) (fun cdv A outer s H vs Q E hr h => ?_)
  · obtain ⟨a, ns, rfl, _⟩ := h
    rfl
  · obtain ⟨a, ns, rfl, hL, hlen, hask, k⟩ := h
    have A_ANSWERERS : ∀ f sp, (∃ z : Int, 0 ≤ z ∧ z ≤ 12 ∧ f = fA z ∧ sp = spA K C CL z) → Held P w K mg base 9 f sp := by
      rintro f sp ⟨z, z0, z1, rfl, rfl⟩
      exact U.held z z0 z1
    -- what is asked
    unfold PyWp01.answers_asked at hask
    cases hcs : PyWp01.calls ns with
    | none => rw [hcs] at hask; cases hask
    | some cs =>
    rw [hcs] at hask
    simp only [Bool.and_eq_true] at hask
    obtain ⟨⟨⟨⟨_, _⟩, h40⟩, has⟩, hsh⟩ := hask
    have hans : PyWp01.answers ns = PyFlat.told (PyFlat.played Wp01Neutral.step Wp01Neutral.start cs) := by
      unfold PyWp01.answers
      rw [hcs]
    have h40 : cs.length ≤ 40 := of_decide_eq_true h40
    have hsh : (PyWp01.answers ns).length ≤ 10000000 := of_decide_eq_true hsh
    rw [hans] at k hsh
    obtain ⟨hput, hok⟩ := PyWide.put_calls _ _ _ hcs
    unfold Wp01Neutral.asked at has
    rw [Bool.and_eq_true] at has
    have hcall : ∀ c ∈ cs, ∃ x, callOf c = some x := fun c hc => by
      have z := List.all_eq_true.1 has.1 c hc
      unfold Wp01Neutral.asked1 at z
      rw [Bool.and_eq_true] at z
      exact Option.isSome_iff_exists.1 z.1
    refine ⟨_, (pss_cons (ps_set (i := 1) sc_answers.nd rfl (Or.inl rfl) (pmake0 G_Line (hr.mono (by decide)) (by rfl)))
      (pss_cons (ps_set (i := 2) sc_answers.nd rfl (Or.inl rfl) (pe_lst pa_nil))
      (pss_cons (ps_for PassesOwn.never rfl (pi_list (pcall G_calls_apart (hr.mono (by decide)) (by rfl) (pa_cons (pv 0) pa_nil))) (pg_tup rfl (pgs_cons (pg_name (i := 3) sc_answers.nd rfl (Or.inl rfl)) (pgs_cons (pg_name (i := 4) sc_answers.nd rfl (Or.inl rfl)) (pgs_cons (pg_name (i := 5) sc_answers.nd rfl (Or.inl rfl)) pgs_nil)))) (pss_cons (ps_set (i := 6) sc_answers.nd rfl (Or.inl rfl) (pe_callX (pe_ix ix_kdictI (pglob (by rfl) U.c_ANSWERERS) (pv 3) (fun _ _ => rfl)) A_ANSWERERS (hr.mono (by decide)) (pa_cons (pv 1) (pa_cons (pv 4) (pa_cons (pv 5) pa_nil)))))
      (pss_cons (ps_expr (pe_bm PySem.F.plainAttrs_list PySem.F.slot_list_append PySem.F.type_list_append mt_append (pv 2) (pa_cons (pe_callB call_len_seq (by rfl) T.b_len PySem.boot_len (pa_cons (pv 6) pa_nil)) pa_nil)))
      (pss_one (ps_expr (pe_bm PySem.F.plainAttrs_list PySem.F.slot_list_extend PySem.F.type_list_extend mt_extend (pv 2) (pa_cons (pv 6) pa_nil)))))))
      (pss_one (ps_ret (pv 2)))))), ?_⟩
    intro q dx nq nd ne
    refine ⟨q, dx, rfl, upd_same, fun H1 x p np eh hq hp hS => ⟨rfl, ?_⟩⟩
    have e01 : Ex H H1 := fun b o hb => eh b o (by
      have nb := ne_of_none hb nq
      rw [hide_ne nb, upd_ne nb, upd_ne (ne_of_none hb nd)]
      exact hb)
    refine q_asgL (xs := []) (el_lst ea_nil (by decide)) fun g H2 ng e2 hg => ?_
    have qp : q ≠ p := fun z => by rw [z, hp] at hq; cases hq
    have qg : q ≠ g := fun z => by rw [← z, hq] at ng; cases ng
    have pg : p ≠ g := fun z => by rw [← z, hp] at ng; cases ng
    have hS2 : StripA K C (rest q p g H2) x Wp01.start := hS.ex fun b o hb => by
      have bp : b ≠ p := fun z => by unfold hide at hb; rw [if_pos z] at hb; cases hb
      rw [hide_ne bp] at hb
      have bq : b ≠ q := fun z => by unfold hide at hb; rw [if_pos z] at hb; cases hb
      rw [hide_ne bq] at hb
      rw [rest_ne bq bp (ne_of_none hb ng)]
      exact e2 _ _ hb
    have L2 : LineB K C CL q p g H2 Wp01.init dx x x [] (.lst []) := ⟨e2 _ _ hq, e2 _ _ hp, hg, qp, qg, pg, hS2, hS2, trivial⟩
    have hL2 : SqL K H2 a ((put cs).map V.int) := by
      rw [← hput]
      exact ex_l (e01.trans e2) hL
    refine ⟨_, rfl, a, cs, rfl, hL2, by rw [← hput]; exact hlen, hok, fun pc H3 vs npc e3 hpc hC => ?_⟩
    have F0 : ∀ H', Fr q p H3 H' → Ex (hide pc (off H2 H3)) (rest q p g H') := fun H' fr b o hb => by
      have bp : b ≠ pc := fun z => by unfold hide at hb; rw [if_pos z] at hb; cases hb
      rw [hide_ne bp] at hb
      obtain ⟨h1, h2⟩ := off_some hb
      have n1 : b ≠ q := fun z => by rw [z, L2.hq] at h1; cases h1
      have n2 : b ≠ p := fun z => by rw [z, L2.hp] at h1; cases h1
      have n3 : b ≠ g := fun z => by rw [z, L2.hg] at h1; cases h1
      rw [rest_ne n1 n2 n3]
      exact fr b o n1 n2 h2
    have pq : pc ≠ q := fun z => by rw [z, L2.hq] at npc; cases npc
    have pp : pc ≠ p := fun z => by rw [z, L2.hp] at npc; cases npc
    have pgg : pc ≠ g := fun z => by rw [z, L2.hg] at npc; cases npc
    refine ⟨pc, rfl, ⟨_, SqL.of hpc⟩, for_list (K := K) (a := pc) (xs := vs) (fun i σ H' => (∃ v3 v4 v5 v6 : Option V, σ = [some (.ref a), some (.ref q), some (.ref g), v3, v4, v5, v6]) ∧ LineA K C CL q p g H' (stN cs i) ∧ H' g = some (.lst ((outN cs i).map V.int)) ∧ H' pc = some (.lst vs) ∧ Ex (hide pc (off H2 H3)) (rest q p g H') ∧ (stN cs i).old.length ≤ i)
      ⟨⟨none, none, none, none, rfl⟩, ⟨_, _, _, _, _, L2.ex e3⟩, e3 _ _ hg, hpc, F0 H3 (Fr.of (Ex.refl H3)), Nat.le_refl _⟩ (fun i σ H' _ z => SqL.of z.2.2.2.1) ?_ ?_⟩
    · rintro i v σ' H' hi ⟨⟨v3, v4, v5, v6, rfl⟩, hLi, hgi, hpci, hEx, hold⟩
      have hil : i < cs.length := by
        have := (List.getElem?_eq_some_iff.mp hi).1
        rw [hC.1] at this
        exact this
      obtain ⟨c, hc⟩ : ∃ c, cs[i]? = some c := ⟨cs[i], List.getElem?_eq_getElem hil⟩
      obtain ⟨v', hv', t, num, nn, xs, av, bv, rfl, rfl, hT, hA, hB⟩ := (hC.ex hEx).2 i c hc
      rw [hi] at hv'
      cases hv'
      have hmem := List.mem_of_getElem? hc
      obtain ⟨cl, hcl⟩ := hcall _ hmem
      obtain ⟨z0, z1⟩ := co_num hcl
      obtain ⟨ln, lx⟩ := put_each hmem
      rw [← hput] at ln lx
      refine ⟨t, _, rfl, ex_t rest_ex hT, rfl, _, _, rfl, _, _, rfl, _, _, rfl, rfl, ?_⟩
      refine ⟨_, rfl, dA, num, _, rfl, rfl, U.at_ num z0 z1, fA num, _, rfl, ⟨num, z0, z1, rfl, rfl⟩, _, rfl, _, rfl, _, rfl, q, p, g, av, bv, stN cs i, nn, xs, cl, rfl, hLi, hA, hB, hcl, by omega, fun x hx => by have := lx x hx; omega, by omega, fun r H4 nr f4 L4 h4 => ?_⟩
      have ho := co_old (stN cs i) cl
      have e1 := outN_succ hc hcl
      have e2' := stN_succ hc hcl
      have l1 := outN_le cs (i + 1)
      rw [e1, List.length_append, List.length_cons] at l1
      have gq : g ≠ q := Ne.symm qg
      have gp : g ≠ p := Ne.symm pg
      have hg4 := f4 g _ gq gp hgi
      have rg : r ≠ g := fun z => by rw [z, hgi] at nr; cases nr
      refine ⟨_, rfl, .inl ⟨rfl, _, sq_of hg4⟩, _, rfl, _, _, rfl, .inl (sq_of h4), g, _, _, rfl, rfl, hg4, (by rw [List.length_map, sizeLine_eq]; omega), ?_⟩
      have h5 : upd H4 g (.lst ((outN cs i).map V.int ++ [.int ((((Wp01.step (stN cs i) cl).2.map V.int).length : Nat) : Int)])) r = some (.lst ((Wp01.step (stN cs i) cl).2.map V.int)) := by rw [upd_ne rg]; exact h4
      refine ⟨_, rfl, .inl ⟨rfl, _, sq_of upd_same⟩, _, rfl, g, r, _, _, rfl, rfl, upd_same, h5, (by rw [List.length_append, List.length_map, List.length_map, List.length_singleton, sizeLine_eq]; omega), ?_⟩
      rw [upd_upd]
      obtain ⟨dz, cz, kz, az, gz, LZ⟩ := L4
      refine ⟨⟨_, _, _, _, rfl⟩, ?_, ?_, ?_, ?_, ?_⟩
      · rw [e2']
        exact ⟨_, _, _, _, _, LZ.updg⟩
      · rw [upd_same, e1, List.map_append, List.append_assoc, List.map_cons, List.length_map]
        rfl
      · rw [upd_ne pgg]
        exact f4 pc _ pq pp hpci
      · refine (hEx.trans f4.rest).trans fun b o hb => ?_
        obtain ⟨⟨b1, b2, b3⟩, hb⟩ := rest_some hb
        rw [rest_ne b1 b2 b3, upd_ne b3]
        exact hb
      · rw [e2']
        omega
    · rintro σ' H' ⟨⟨v3, v4, v5, v6, rfl⟩, hLi, hgi, hpci, hEx, hold⟩
      refine ⟨_, rfl, k H' g ?_⟩
      rw [hgi, hC.1]
      unfold outN
      rw [List.take_length]
end
end B

end

set_option Elab.async false
set_option linter.all false
set_option maxRecDepth 100000
set_option maxHeartbeats 2000000
namespace B
open PySem L2 Evl
theorem all_mk {P : Program} {w : World} {K : PySem.W.Frag} {h : Heap} {mg : Str → Option Value} {fa C CL kA dA : Addr} {od : Option Addr} {sl : Array (Option Value)} {t0 t1 t2 t3 : Tok} {n nd : Nat} {es : Array DictEntry} (X : K.In h) (G : h.Ns mainGlobals mg) (hfa : mg "answers" = some (.ref fa))
    (hC : HereC K "Strip" "Strip.__init__" C s_Strip__init__) (n_h : PySem.W.findIn K (.ref C) "h" = some none) (n_w : PySem.W.findIn K (.ref C) "w" = some none) (n_c : PySem.W.findIn K (.ref C) "colours" = some none)
    (hCL : HereC K "Line" "Line.__init__" CL s_Line__init__) (n_cur : PySem.W.findIn K (.ref CL) "current" = some none) (n_kept : PySem.W.findIn K (.ref CL) "kept" = some none) (n_past : PySem.W.findIn K (.ref CL) "past" = some none)
    (b_len : PySem.W.nsIn K mainGlobals "len" = some none) (b_range : PySem.W.nsIn K mainGlobals "range" = some none) (b_enumerate : PySem.W.nsIn K mainGlobals "enumerate" = some none) (b_sorted : PySem.W.nsIn K mainGlobals "sorted" = some none) (b_all : PySem.W.nsIn K mainGlobals "all" = some none) (b_list : PySem.W.nsIn K mainGlobals "list" = some none)
    {u_STEP : Value} (c_STEP : PySem.W.nsIn K mainGlobals "STEP" = some (some u_STEP)) (r_STEP : RelV (.int 0) u_STEP) {u_MIRROR : Value} (c_MIRROR : PySem.W.nsIn K mainGlobals "MIRROR" = some (some u_MIRROR)) (r_MIRROR : RelV (.int 1) u_MIRROR) {u_FLIPPED_STEP : Value} (c_FLIPPED_STEP : PySem.W.nsIn K mainGlobals "FLIPPED_STEP" = some (some u_FLIPPED_STEP)) (r_FLIPPED_STEP : RelV (.int 2) u_FLIPPED_STEP) {u_HALF_TURN : Value} (c_HALF_TURN : PySem.W.nsIn K mainGlobals "HALF_TURN" = some (some u_HALF_TURN)) (r_HALF_TURN : RelV (.int 3) u_HALF_TURN) {u_MOST_ROWS : Value} (c_MOST_ROWS : PySem.W.nsIn K mainGlobals "MOST_ROWS" = some (some u_MOST_ROWS)) (r_MOST_ROWS : RelV (.int 6) u_MOST_ROWS) {u_MOST_COLUMNS : Value} (c_MOST_COLUMNS : PySem.W.nsIn K mainGlobals "MOST_COLUMNS" = some (some u_MOST_COLUMNS)) (r_MOST_COLUMNS : RelV (.int 12) u_MOST_COLUMNS) {u_MOST_COLOUR : Value} (c_MOST_COLOUR : PySem.W.nsIn K mainGlobals "MOST_COLOUR" = some (some u_MOST_COLOUR)) (r_MOST_COLOUR : RelV (.int 9) u_MOST_COLOUR) {u_HOW_MANY_COLOURS : Value} (c_HOW_MANY_COLOURS : PySem.W.nsIn K mainGlobals "HOW_MANY_COLOURS" = some (some u_HOW_MANY_COLOURS)) (r_HOW_MANY_COLOURS : RelV (.int 10) u_HOW_MANY_COLOURS) {u_FARTHEST : Value} (c_FARTHEST : PySem.W.nsIn K mainGlobals "FARTHEST" = some (some u_FARTHEST)) (r_FARTHEST : RelV (.int 1000) u_FARTHEST)
    (c_KINDS : PySem.W.nsIn K mainGlobals "KINDS" = some (some (.ref kA))) (l_KINDS : K.lookup kA = some ⟨.type "tuple", od, .seq #[.int 0 t0, .int 1 t1, .int 2 t2, .int 3 t3] n, sl⟩)
    {f_answer_strip f_answer_period f_answer_kinds f_answer_sort f_answer_least f_answer_paint f_answer_set_cell f_answer_make f_answer_swap f_answer_keep f_answer_same f_answer_undo f_answer_show : Addr} (h_answer_strip : HereF K "answer_strip" s_answer_strip f_answer_strip) (h_answer_period : HereF K "answer_period" s_answer_period f_answer_period) (h_answer_kinds : HereF K "answer_kinds" s_answer_kinds f_answer_kinds) (h_answer_sort : HereF K "answer_sort" s_answer_sort f_answer_sort) (h_answer_least : HereF K "answer_least" s_answer_least f_answer_least) (h_answer_paint : HereF K "answer_paint" s_answer_paint f_answer_paint) (h_answer_set_cell : HereF K "answer_set_cell" s_answer_set_cell f_answer_set_cell) (h_answer_make : HereF K "answer_make" s_answer_make f_answer_make) (h_answer_swap : HereF K "answer_swap" s_answer_swap f_answer_swap) (h_answer_keep : HereF K "answer_keep" s_answer_keep f_answer_keep) (h_answer_same : HereF K "answer_same" s_answer_same f_answer_same) (h_answer_undo : HereF K "answer_undo" s_answer_undo f_answer_undo) (h_answer_show : HereF K "answer_show" s_answer_show f_answer_show)
    (c_ANSWERERS : PySem.W.nsIn K mainGlobals "ANSWERERS" = some (some (.ref dA))) (l_ANSWERERS : K.lookup dA = some ⟨.type "dict", none, .dict es nd, #[]⟩) (ki : keysInt es.toList = true)
    (k0 : findBy Value.isInt es 0 = some (.ref f_answer_strip)) (k1 : findBy Value.isInt es 1 = some (.ref f_answer_period)) (k2 : findBy Value.isInt es 2 = some (.ref f_answer_kinds)) (k3 : findBy Value.isInt es 3 = some (.ref f_answer_sort)) (k4 : findBy Value.isInt es 4 = some (.ref f_answer_least)) (k5 : findBy Value.isInt es 5 = some (.ref f_answer_paint)) (k6 : findBy Value.isInt es 6 = some (.ref f_answer_set_cell)) (k7 : findBy Value.isInt es 7 = some (.ref f_answer_make)) (k8 : findBy Value.isInt es 8 = some (.ref f_answer_swap)) (k9 : findBy Value.isInt es 9 = some (.ref f_answer_keep)) (k10 : findBy Value.isInt es 10 = some (.ref f_answer_same)) (k11 : findBy Value.isInt es 11 = some (.ref f_answer_undo)) (k12 : findBy Value.isInt es 12 = some (.ref f_answer_show))
    (h_cells_within : Here K "cells_within" s_cells_within) (h_number_of : Here K "number_of" s_number_of) (h_colour_at : Here K "colour_at" s_colour_at) (h_moved : Here K "moved" s_moved) (h_takes : Here K "takes" s_takes) (h_keeps : Here K "keeps" s_keeps) (h_period : Here K "period" s_period) (h_keeping : Here K "keeping" s_keeping) (h_motions_within : Here K "motions_within" s_motions_within) (h_sort_of : Here K "sort_of" s_sort_of) (h_numbers_along : Here K "numbers_along" s_numbers_along) (h_least_numbers : Here K "least_numbers" s_least_numbers) (h_numbers_reached : Here K "numbers_reached" s_numbers_reached) (h_with_motion : Here K "with_motion" s_with_motion) (h_first_motion : Here K "first_motion" s_first_motion) (h_coloured : Here K "coloured" s_coloured) (h_how_it_is : Here K "how_it_is" s_how_it_is) (h_changed : Here K "changed" s_changed) (h_is_colour : Here K "is_colour" s_is_colour) (h_are_colours : Here K "are_colours" s_are_colours) (h_is_near : Here K "is_near" s_is_near) (h_strip_fits : Here K "strip_fits" s_strip_fits) (h_colouring_fits : Here K "colouring_fits" s_colouring_fits) (h_calls_apart : Here K "calls_apart" s_calls_apart) (h_answers : Here K "answers" s_answers) :
    ∃ fd : FuncData, (∀ (s : Shared) (us : List Value), us.length = (["calls"] : List Str).length → BindsTo s fd ⟨us, []⟩ ((["calls"] : List Str).zip us)) ∧ ∀ base : Heap, K.In base → base.Ns mainGlobals mg → FnOk P w K mg base CX0 10 fa fd ["calls"] (spAns K) := by
  have T : Txt K mg C CL kA := ⟨⟨hC.cl, n_h, n_w, n_c⟩, ⟨hCL.cl, n_cur, n_kept, n_past⟩, PySem.W.mg_none_of X G b_len, PySem.W.mg_none_of X G b_range, PySem.W.mg_none_of X G b_enumerate, PySem.W.mg_none_of X G b_sorted, PySem.W.mg_none_of X G b_all, PySem.W.mg_none_of X G b_list,
    ⟨_, PySem.W.mg_of X G c_STEP, r_STEP⟩, ⟨_, PySem.W.mg_of X G c_MIRROR, r_MIRROR⟩, ⟨_, PySem.W.mg_of X G c_FLIPPED_STEP, r_FLIPPED_STEP⟩, ⟨_, PySem.W.mg_of X G c_HALF_TURN, r_HALF_TURN⟩, ⟨_, PySem.W.mg_of X G c_MOST_ROWS, r_MOST_ROWS⟩, ⟨_, PySem.W.mg_of X G c_MOST_COLUMNS, r_MOST_COLUMNS⟩, ⟨_, PySem.W.mg_of X G c_MOST_COLOUR, r_MOST_COLOUR⟩, ⟨_, PySem.W.mg_of X G c_HOW_MANY_COLOURS, r_HOW_MANY_COLOURS⟩, ⟨_, PySem.W.mg_of X G c_FARTHEST, r_FARTHEST⟩, ⟨_, PySem.W.mg_of X G c_KINDS, rfl⟩, kinds_of l_KINDS⟩
  obtain ⟨f, fd, a, F⟩ := h_answers
  have e := hfa.symm.trans (PySem.W.mg_of X G a)
  cases e
  have F' := F
  obtain ⟨oc', od', kV', doc', pm', an', cdv', ct', osl', rfl, lk', hcd'⟩ := F.ex
  refine ⟨PySem.W.fnOf "answers" "answers" (defArgs s_answers) (defBody s_answers) (defScope s_answers) .none kV' doc' pm' an' cdv' ct', fun s us hu => match us, hu with | [_], _ => BindsTo.of_eq rfl, fun base _ _ => ?_⟩
  have G_number_of : Has P w K mg base "number_of" ["cell", "width"] 1 (spNum K) := has_of X G h_number_of (fun f fd F => ok_number_of F ) (fun f fd F => F.binds (ps := ["cell", "width"]) fun _ _ _ _ _ _ us hl => match us, hl with | [_, _], _ => rfl)
  have G_colour_at : Has P w K mg base "colour_at" ["strip", "cell"] 2 (spColour K C) := has_of X G h_colour_at (fun f fd F => ok_colour_at F T G_number_of) (fun f fd F => F.binds (ps := ["strip", "cell"]) fun _ _ _ _ _ _ us hl => match us, hl with | [_, _], _ => rfl)
  have G_moved : Has P w K mg base "moved" ["kind", "k", "cell", "h"] 1 (spMoved K) := has_of X G h_moved (fun f fd F => ok_moved F T) (fun f fd F => F.binds (ps := ["kind", "k", "cell", "h"]) fun _ _ _ _ _ _ us hl => match us, hl with | [_, _, _, _], _ => rfl)
  have G_cells_within : Has P w K mg base "cells_within" ["h", "width"] 1 (spCells K) := has_of X G h_cells_within (fun f fd F => ok_cells_within F T) (fun f fd F => F.binds (ps := ["h", "width"]) fun _ _ _ _ _ _ us hl => match us, hl with | [_, _], _ => rfl)
  have G_takes : Has P w K mg base "takes" ["strip", "other", "kind", "k", "width"] 3 (spTakes K C) := has_of X G h_takes (fun f fd F => ok_takes F T G_cells_within G_colour_at G_moved) (fun f fd F => F.binds (ps := ["strip", "other", "kind", "k", "width"]) fun _ _ _ _ _ _ us hl => match us, hl with | [_, _, _, _, _], _ => rfl)
  have G_keeps : Has P w K mg base "keeps" ["strip", "kind", "k"] 4 (spKeeps K C) := has_of X G h_keeps (fun f fd F => ok_keeps F T G_takes) (fun f fd F => F.binds (ps := ["strip", "kind", "k"]) fun _ _ _ _ _ _ us hl => match us, hl with | [_, _, _], _ => rfl)
  have G_period : Has P w K mg base "period" ["strip"] 5 (spPeriod K C) := has_of X G h_period (fun f fd F => ok_period F T G_keeps) (fun f fd F => F.binds (ps := ["strip"]) fun _ _ _ _ _ _ us hl => match us, hl with | [_], _ => rfl)
  have G_keeping : Has P w K mg base "keeping" ["strip", "kind", "width"] 5 (spKeeping K C) := has_of X G h_keeping (fun f fd F => ok_keeping F T G_keeps) (fun f fd F => F.binds (ps := ["strip", "kind", "width"]) fun _ _ _ _ _ _ us hl => match us, hl with | [_, _, _], _ => rfl)
  have G_motions_within : Has P w K mg base "motions_within" ["strip", "width"] 6 (spMotions K C) := has_of X G h_motions_within (fun f fd F => ok_motions_within F T G_keeping) (fun f fd F => F.binds (ps := ["strip", "width"]) fun _ _ _ _ _ _ us hl => match us, hl with | [_, _], _ => rfl)
  have G_sort_of : Has P w K mg base "sort_of" ["strip"] 6 (spSort K C) := has_of X G h_sort_of (fun f fd F => ok_sort_of F T G_period G_keeping) (fun f fd F => F.binds (ps := ["strip"]) fun _ _ _ _ _ _ us hl => match us, hl with | [_], _ => rfl)
  have G_numbers_along : Has P w K mg base "numbers_along" ["strip", "motions", "cell", "width"] 2 (spAlong K C) := has_of X G h_numbers_along (fun f fd F => ok_numbers_along F T G_number_of G_moved) (fun f fd F => F.binds (ps := ["strip", "motions", "cell", "width"]) fun _ _ _ _ _ _ us hl => match us, hl with | [_, _, _, _], _ => rfl)
  have G_least_numbers : Has P w K mg base "least_numbers" ["strip"] 7 (spLeast K C) := has_of X G h_least_numbers (fun f fd F => ok_least_numbers F T G_period G_motions_within G_cells_within G_numbers_along) (fun f fd F => F.binds (ps := ["strip"]) fun _ _ _ _ _ _ us hl => match us, hl with | [_], _ => rfl)
  have G_numbers_reached : Has P w K mg base "numbers_reached" ["strip", "motions", "number"] 3 (spReached K C) := has_of X G h_numbers_reached (fun f fd F => ok_numbers_reached F T G_cells_within G_numbers_along) (fun f fd F => F.binds (ps := ["strip", "motions", "number"]) fun _ _ _ _ _ _ us hl => match us, hl with | [_, _, _], _ => rfl)
  have G_Strip : HasC P w K mg base "Strip" C ["self", "h", "w", "colours"] 1 (spStrip C) := hasC_of X G hC (fun f fd F => ok_Strip F T) (fun f fd F => F.binds (ps := ["self", "h", "w", "colours"]) fun _ _ _ _ _ _ us hl => match us, hl with | [_, _, _, _], _ => rfl)
  have G_Line : HasC P w K mg base "Line" CL ["self"] 3 (spLine K C CL) := hasC_of X G hCL (fun f fd F => ok_Line F T G_Strip) (fun f fd F => F.binds (ps := ["self"]) fun _ _ _ _ _ _ us hl => match us, hl with | [_], _ => rfl)
  have G_with_motion : Has P w K mg base "with_motion" ["strip", "kind", "k"] 7 (spWith K C) := has_of X G h_with_motion (fun f fd F => ok_with_motion F T G_motions_within G_numbers_reached G_Strip) (fun f fd F => F.binds (ps := ["strip", "kind", "k"]) fun _ _ _ _ _ _ us hl => match us, hl with | [_, _, _], _ => rfl)
  have G_first_motion : Has P w K mg base "first_motion" ["strip", "other"] 6 (spFirst K C) := has_of X G h_first_motion (fun f fd F => ok_first_motion F T G_period G_takes) (fun f fd F => F.binds (ps := ["strip", "other"]) fun _ _ _ _ _ _ us hl => match us, hl with | [_, _], _ => rfl)
  have G_coloured : Has P w K mg base "coloured" ["strip", "numbers", "colour"] 3 (spColoured K C) := has_of X G h_coloured (fun f fd F => ok_coloured F T G_Strip) (fun f fd F => F.binds (ps := ["strip", "numbers", "colour"]) fun _ _ _ _ _ _ us hl => match us, hl with | [_, _, _], _ => rfl)
  have G_how_it_is : Has P w K mg base "how_it_is" ["strip"] 7 (spHow K C) := has_of X G h_how_it_is (fun f fd F => ok_how_it_is F T G_period G_sort_of) (fun f fd F => F.binds (ps := ["strip"]) fun _ _ _ _ _ _ us hl => match us, hl with | [_], _ => rfl)
  have G_changed : Has P w K mg base "changed" ["line", "strip"] 8 (spChanged K C CL) := has_of X G h_changed (fun f fd F => ok_changed F T G_how_it_is) (fun f fd F => F.binds (ps := ["line", "strip"]) fun _ _ _ _ _ _ us hl => match us, hl with | [_, _], _ => rfl)
  have G_is_colour : Has P w K mg base "is_colour" ["number"] 1 spIsColour := has_of X G h_is_colour (fun f fd F => ok_is_colour F T) (fun f fd F => F.binds (ps := ["number"]) fun _ _ _ _ _ _ us hl => match us, hl with | [_], _ => rfl)
  have G_are_colours : Has P w K mg base "are_colours" ["numbers"] 2 (spAre K) := has_of X G h_are_colours (fun f fd F => ok_are_colours F T G_is_colour) (fun f fd F => F.binds (ps := ["numbers"]) fun _ _ _ _ _ _ us hl => match us, hl with | [_], _ => rfl)
  have G_is_near : Has P w K mg base "is_near" ["number"] 1 spIsNear := has_of X G h_is_near (fun f fd F => ok_is_near F T) (fun f fd F => F.binds (ps := ["number"]) fun _ _ _ _ _ _ us hl => match us, hl with | [_], _ => rfl)
  have G_strip_fits : Has P w K mg base "strip_fits" ["h", "colours"] 3 (spFitsS K) := has_of X G h_strip_fits (fun f fd F => ok_strip_fits F T G_are_colours) (fun f fd F => F.binds (ps := ["h", "colours"]) fun _ _ _ _ _ _ us hl => match us, hl with | [_, _], _ => rfl)
  have G_colouring_fits : Has P w K mg base "colouring_fits" ["strip", "x", "y", "colour"] 2 (spFitsC K C) := has_of X G h_colouring_fits (fun f fd F => ok_colouring_fits F T G_is_near G_is_colour) (fun f fd F => F.binds (ps := ["strip", "x", "y", "colour"]) fun _ _ _ _ _ _ us hl => match us, hl with | [_, _, _, _], _ => rfl)
  have G_calls_apart : Has P w K mg base "calls_apart" ["calls"] 1 (spApart K) := has_of X G h_calls_apart (fun f fd F => ok_calls_apart F T) (fun f fd F => F.binds (ps := ["calls"]) fun _ _ _ _ _ _ us hl => match us, hl with | [_], _ => rfl)
  have B_strip : Held P w K mg base 9 f_answer_strip (spA K C CL 0) := held_of h_answer_strip (fun fd F => ok_answer_strip F T G_strip_fits G_changed G_Strip) (fun fd F => F.binds (ps := ["line", "numbers", "lists"]) fun _ _ _ _ _ _ us hl => match us, hl with | [_, _, _], _ => rfl)
  have B_period : Held P w K mg base 9 f_answer_period (spA K C CL 1) := held_of h_answer_period (fun fd F => ok_answer_period F T G_period) (fun fd F => F.binds (ps := ["line", "numbers", "lists"]) fun _ _ _ _ _ _ us hl => match us, hl with | [_, _, _], _ => rfl)
  have B_kinds : Held P w K mg base 9 f_answer_kinds (spA K C CL 2) := held_of h_answer_kinds (fun fd F => ok_answer_kinds F T G_period G_keeping) (fun fd F => F.binds (ps := ["line", "numbers", "lists"]) fun _ _ _ _ _ _ us hl => match us, hl with | [_, _, _], _ => rfl)
  have B_sort : Held P w K mg base 9 f_answer_sort (spA K C CL 3) := held_of h_answer_sort (fun fd F => ok_answer_sort F T G_sort_of) (fun fd F => F.binds (ps := ["line", "numbers", "lists"]) fun _ _ _ _ _ _ us hl => match us, hl with | [_, _, _], _ => rfl)
  have B_least : Held P w K mg base 9 f_answer_least (spA K C CL 4) := held_of h_answer_least (fun fd F => ok_answer_least F T G_least_numbers) (fun fd F => F.binds (ps := ["line", "numbers", "lists"]) fun _ _ _ _ _ _ us hl => match us, hl with | [_, _, _], _ => rfl)
  have B_paint : Held P w K mg base 9 f_answer_paint (spA K C CL 5) := held_of h_answer_paint (fun fd F => ok_answer_paint F T G_colouring_fits G_changed G_coloured G_numbers_along G_motions_within) (fun fd F => F.binds (ps := ["line", "numbers", "lists"]) fun _ _ _ _ _ _ us hl => match us, hl with | [_, _, _], _ => rfl)
  have B_set_cell : Held P w K mg base 9 f_answer_set_cell (spA K C CL 6) := held_of h_answer_set_cell (fun fd F => ok_answer_set_cell F T G_colouring_fits G_changed G_coloured G_number_of) (fun fd F => F.binds (ps := ["line", "numbers", "lists"]) fun _ _ _ _ _ _ us hl => match us, hl with | [_, _, _], _ => rfl)
  have B_make : Held P w K mg base 9 f_answer_make (spA K C CL 7) := held_of h_answer_make (fun fd F => ok_answer_make F T G_is_near G_changed G_with_motion) (fun fd F => F.binds (ps := ["line", "numbers", "lists"]) fun _ _ _ _ _ _ us hl => match us, hl with | [_, _, _], _ => rfl)
  have B_swap : Held P w K mg base 9 f_answer_swap (spA K C CL 8) := held_of h_answer_swap (fun fd F => ok_answer_swap F T G_are_colours G_changed G_Strip) (fun fd F => F.binds (ps := ["line", "numbers", "lists"]) fun _ _ _ _ _ _ us hl => match us, hl with | [_, _, _], _ => rfl)
  have B_keep : Held P w K mg base 9 f_answer_keep (spA K C CL 9) := held_of h_answer_keep (fun fd F => ok_answer_keep F T G_period) (fun fd F => F.binds (ps := ["line", "numbers", "lists"]) fun _ _ _ _ _ _ us hl => match us, hl with | [_, _, _], _ => rfl)
  have B_same : Held P w K mg base 9 f_answer_same (spA K C CL 10) := held_of h_answer_same (fun fd F => ok_answer_same F T G_first_motion) (fun fd F => F.binds (ps := ["line", "numbers", "lists"]) fun _ _ _ _ _ _ us hl => match us, hl with | [_, _, _], _ => rfl)
  have B_undo : Held P w K mg base 9 f_answer_undo (spA K C CL 11) := held_of h_answer_undo (fun fd F => ok_answer_undo F T G_how_it_is) (fun fd F => F.binds (ps := ["line", "numbers", "lists"]) fun _ _ _ _ _ _ us hl => match us, hl with | [_, _, _], _ => rfl)
  have B_show : Held P w K mg base 9 f_answer_show (spA K C CL 12) := held_of h_answer_show (fun fd F => ok_answer_show F T) (fun fd F => F.binds (ps := ["line", "numbers", "lists"]) fun _ _ _ _ _ _ us hl => match us, hl with | [_, _, _], _ => rfl)
  have U : Tab P w K mg base C CL dA (fun z => ([f_answer_strip, f_answer_period, f_answer_kinds, f_answer_sort, f_answer_least, f_answer_paint, f_answer_set_cell, f_answer_make, f_answer_swap, f_answer_keep, f_answer_same, f_answer_undo, f_answer_show] : List Addr).getD z.toNat 0) := by
    refine ⟨⟨_, PySem.W.mg_of X G c_ANSWERERS, rfl⟩, fun z z0 z1 => ?_, fun z z0 z1 => ?_⟩
    · have hz : z = 0 ∨ z = 1 ∨ z = 2 ∨ z = 3 ∨ z = 4 ∨ z = 5 ∨ z = 6 ∨ z = 7 ∨ z = 8 ∨ z = 9 ∨ z = 10 ∨ z = 11 ∨ z = 12 := by omega
      rcases hz with rfl | rfl | rfl | rfl | rfl | rfl | rfl | rfl | rfl | rfl | rfl | rfl | rfl
      · exact ⟨_, _, _, l_ANSWERERS, ki, k0, rfl⟩
      · exact ⟨_, _, _, l_ANSWERERS, ki, k1, rfl⟩
      · exact ⟨_, _, _, l_ANSWERERS, ki, k2, rfl⟩
      · exact ⟨_, _, _, l_ANSWERERS, ki, k3, rfl⟩
      · exact ⟨_, _, _, l_ANSWERERS, ki, k4, rfl⟩
      · exact ⟨_, _, _, l_ANSWERERS, ki, k5, rfl⟩
      · exact ⟨_, _, _, l_ANSWERERS, ki, k6, rfl⟩
      · exact ⟨_, _, _, l_ANSWERERS, ki, k7, rfl⟩
      · exact ⟨_, _, _, l_ANSWERERS, ki, k8, rfl⟩
      · exact ⟨_, _, _, l_ANSWERERS, ki, k9, rfl⟩
      · exact ⟨_, _, _, l_ANSWERERS, ki, k10, rfl⟩
      · exact ⟨_, _, _, l_ANSWERERS, ki, k11, rfl⟩
      · exact ⟨_, _, _, l_ANSWERERS, ki, k12, rfl⟩
    · have hz : z = 0 ∨ z = 1 ∨ z = 2 ∨ z = 3 ∨ z = 4 ∨ z = 5 ∨ z = 6 ∨ z = 7 ∨ z = 8 ∨ z = 9 ∨ z = 10 ∨ z = 11 ∨ z = 12 := by omega
      rcases hz with rfl | rfl | rfl | rfl | rfl | rfl | rfl | rfl | rfl | rfl | rfl | rfl | rfl
      · exact B_strip
      · exact B_period
      · exact B_kinds
      · exact B_sort
      · exact B_least
      · exact B_paint
      · exact B_set_cell
      · exact B_make
      · exact B_swap
      · exact B_keep
      · exact B_same
      · exact B_undo
      · exact B_show
  exact ok_answers F' T U G_Line G_calls_apart
end B
open PySem PySem.W PyProof.Rows
set_option maxRecDepth 100000 in
set_option maxHeartbeats 8000000 in
theorem PySem.Challenge.cw_borders_s01_answers_holds : PySem.Challenge.rw_borders_s01_answers.Holds := by
  w_on; k_headS; (case hw => exact ⟨[.list [.int 1, .int 0, .int 0]], by decide +kernel, by decide +kernel⟩)
  k_fillS
  refine L2.walk_specK (r := PySem.Challenge.rw_borders_s01_answers) (k := 10) (CX := L2.CX0) (ps := ["calls"]) (sp := B.spAns) (by decide +kernel) rfl rfl ⟨rfl, by decide, by decide⟩ (fun w h Y => PySem.W.kIn_of Y) ?F ?S (fun _ _ _ _ z => z)
  case F =>
    intro w mg fa h Y KX G hmg
    refine' B.all_mk KX G hmg (B.hereC_mk ?qa ?qi ?qj ?ql ?qc ?qk ?qpg ?qhd ?qpo ?qsa ?qmk ?qkc) ?nh ?nw ?nc (B.hereC_mk ?xa ?xi ?xj ?xl ?xc ?xk ?xpg ?xhd ?xpo ?xsa ?xmk ?xkc) ?ncu ?nke ?npa ?b1 ?b2 ?b3 ?b4 ?b5 ?b6 ?c1 ?r1 ?c2 ?r2 ?c3 ?r3 ?c4 ?r4 ?c5 ?r5 ?c6 ?r6 ?c7 ?r7 ?c8 ?r8 ?c9 ?r9 ?ck ?lk ?h_answer_strip ?h_answer_period ?h_answer_kinds ?h_answer_sort ?h_answer_least ?h_answer_paint ?h_answer_set_cell ?h_answer_make ?h_answer_swap ?h_answer_keep ?h_answer_same ?h_answer_undo ?h_answer_show ?ca ?la ?ki ?k0 ?k1 ?k2 ?k3 ?k4 ?k5 ?k6 ?k7 ?k8 ?k9 ?k10 ?k11 ?k12 ?h_cells_within ?h_number_of ?h_colour_at ?h_moved ?h_takes ?h_keeps ?h_period ?h_keeping ?h_motions_within ?h_sort_of ?h_numbers_along ?h_least_numbers ?h_numbers_reached ?h_with_motion ?h_first_motion ?h_coloured ?h_how_it_is ?h_changed ?h_is_colour ?h_are_colours ?h_is_near ?h_strip_fits ?h_colouring_fits ?h_calls_apart ?h_answers
    (case qa => k_is); (case qi => k_is); (case qj => k_is); (case ql => k_is); (case qc => k_is); (case qk => k_is); (case qpg => k_is); (case qhd => k_is); (case qpo => k_is); (case qsa => k_is); (case qmk => k_is); (case qkc => k_is)
    (case nh => k_is); (case nw => k_is); (case nc => k_is)
    (case xa => k_is); (case xi => k_is); (case xj => k_is); (case xl => k_is); (case xc => k_is); (case xk => k_is); (case xpg => k_is); (case xhd => k_is); (case xpo => k_is); (case xsa => k_is); (case xmk => k_is); (case xkc => k_is)
    (case ncu => k_is); (case nke => k_is); (case npa => k_is)
    (case b1 => k_is); (case b2 => k_is); (case b3 => k_is); (case b4 => k_is); (case b5 => k_is); (case b6 => k_is)
    (case c1 => k_is); (case r1 => exact ⟨_, rfl⟩); (case c2 => k_is); (case r2 => exact ⟨_, rfl⟩); (case c3 => k_is); (case r3 => exact ⟨_, rfl⟩); (case c4 => k_is); (case r4 => exact ⟨_, rfl⟩); (case c5 => k_is); (case r5 => exact ⟨_, rfl⟩); (case c6 => k_is); (case r6 => exact ⟨_, rfl⟩); (case c7 => k_is); (case r7 => exact ⟨_, rfl⟩); (case c8 => k_is); (case r8 => exact ⟨_, rfl⟩); (case c9 => k_is); (case r9 => exact ⟨_, rfl⟩)
    (case ck => k_is); (case lk => k_is)
    (case h_answer_strip => refine' B.hereF_mk ?a ?l ?c ?k; (case a => k_is); (case l => k_is); (case c => k_is); (case k => k_is))
    (case h_answer_period => refine' B.hereF_mk ?a ?l ?c ?k; (case a => k_is); (case l => k_is); (case c => k_is); (case k => k_is))
    (case h_answer_kinds => refine' B.hereF_mk ?a ?l ?c ?k; (case a => k_is); (case l => k_is); (case c => k_is); (case k => k_is))
    (case h_answer_sort => refine' B.hereF_mk ?a ?l ?c ?k; (case a => k_is); (case l => k_is); (case c => k_is); (case k => k_is))
    (case h_answer_least => refine' B.hereF_mk ?a ?l ?c ?k; (case a => k_is); (case l => k_is); (case c => k_is); (case k => k_is))
    (case h_answer_paint => refine' B.hereF_mk ?a ?l ?c ?k; (case a => k_is); (case l => k_is); (case c => k_is); (case k => k_is))
    (case h_answer_set_cell => refine' B.hereF_mk ?a ?l ?c ?k; (case a => k_is); (case l => k_is); (case c => k_is); (case k => k_is))
    (case h_answer_make => refine' B.hereF_mk ?a ?l ?c ?k; (case a => k_is); (case l => k_is); (case c => k_is); (case k => k_is))
    (case h_answer_swap => refine' B.hereF_mk ?a ?l ?c ?k; (case a => k_is); (case l => k_is); (case c => k_is); (case k => k_is))
    (case h_answer_keep => refine' B.hereF_mk ?a ?l ?c ?k; (case a => k_is); (case l => k_is); (case c => k_is); (case k => k_is))
    (case h_answer_same => refine' B.hereF_mk ?a ?l ?c ?k; (case a => k_is); (case l => k_is); (case c => k_is); (case k => k_is))
    (case h_answer_undo => refine' B.hereF_mk ?a ?l ?c ?k; (case a => k_is); (case l => k_is); (case c => k_is); (case k => k_is))
    (case h_answer_show => refine' B.hereF_mk ?a ?l ?c ?k; (case a => k_is); (case l => k_is); (case c => k_is); (case k => k_is))
    (case ca => k_is); (case la => k_is); (case ki => decide +kernel)
    (case k0 => rfl); (case k1 => rfl); (case k2 => rfl); (case k3 => rfl); (case k4 => rfl); (case k5 => rfl); (case k6 => rfl); (case k7 => rfl); (case k8 => rfl); (case k9 => rfl); (case k10 => rfl); (case k11 => rfl); (case k12 => rfl)
    (case h_cells_within => refine' B.here_mk ?a ?l ?c ?k; (case a => k_is); (case l => k_is); (case c => k_is); (case k => k_is))
    (case h_number_of => refine' B.here_mk ?a ?l ?c ?k; (case a => k_is); (case l => k_is); (case c => k_is); (case k => k_is))
    (case h_colour_at => refine' B.here_mk ?a ?l ?c ?k; (case a => k_is); (case l => k_is); (case c => k_is); (case k => k_is))
    (case h_moved => refine' B.here_mk ?a ?l ?c ?k; (case a => k_is); (case l => k_is); (case c => k_is); (case k => k_is))
    (case h_takes => refine' B.here_mk ?a ?l ?c ?k; (case a => k_is); (case l => k_is); (case c => k_is); (case k => k_is))
    (case h_keeps => refine' B.here_mk ?a ?l ?c ?k; (case a => k_is); (case l => k_is); (case c => k_is); (case k => k_is))
    (case h_period => refine' B.here_mk ?a ?l ?c ?k; (case a => k_is); (case l => k_is); (case c => k_is); (case k => k_is))
    (case h_keeping => refine' B.here_mk ?a ?l ?c ?k; (case a => k_is); (case l => k_is); (case c => k_is); (case k => k_is))
    (case h_motions_within => refine' B.here_mk ?a ?l ?c ?k; (case a => k_is); (case l => k_is); (case c => k_is); (case k => k_is))
    (case h_sort_of => refine' B.here_mk ?a ?l ?c ?k; (case a => k_is); (case l => k_is); (case c => k_is); (case k => k_is))
    (case h_numbers_along => refine' B.here_mk ?a ?l ?c ?k; (case a => k_is); (case l => k_is); (case c => k_is); (case k => k_is))
    (case h_least_numbers => refine' B.here_mk ?a ?l ?c ?k; (case a => k_is); (case l => k_is); (case c => k_is); (case k => k_is))
    (case h_numbers_reached => refine' B.here_mk ?a ?l ?c ?k; (case a => k_is); (case l => k_is); (case c => k_is); (case k => k_is))
    (case h_with_motion => refine' B.here_mk ?a ?l ?c ?k; (case a => k_is); (case l => k_is); (case c => k_is); (case k => k_is))
    (case h_first_motion => refine' B.here_mk ?a ?l ?c ?k; (case a => k_is); (case l => k_is); (case c => k_is); (case k => k_is))
    (case h_coloured => refine' B.here_mk ?a ?l ?c ?k; (case a => k_is); (case l => k_is); (case c => k_is); (case k => k_is))
    (case h_how_it_is => refine' B.here_mk ?a ?l ?c ?k; (case a => k_is); (case l => k_is); (case c => k_is); (case k => k_is))
    (case h_changed => refine' B.here_mk ?a ?l ?c ?k; (case a => k_is); (case l => k_is); (case c => k_is); (case k => k_is))
    (case h_is_colour => refine' B.here_mk ?a ?l ?c ?k; (case a => k_is); (case l => k_is); (case c => k_is); (case k => k_is))
    (case h_are_colours => refine' B.here_mk ?a ?l ?c ?k; (case a => k_is); (case l => k_is); (case c => k_is); (case k => k_is))
    (case h_is_near => refine' B.here_mk ?a ?l ?c ?k; (case a => k_is); (case l => k_is); (case c => k_is); (case k => k_is))
    (case h_strip_fits => refine' B.here_mk ?a ?l ?c ?k; (case a => k_is); (case l => k_is); (case c => k_is); (case k => k_is))
    (case h_colouring_fits => refine' B.here_mk ?a ?l ?c ?k; (case a => k_is); (case l => k_is); (case c => k_is); (case k => k_is))
    (case h_calls_apart => refine' B.here_mk ?a ?l ?c ?k; (case a => k_is); (case l => k_is); (case c => k_is); (case k => k_is))
    (case h_answers => refine' B.here_mk ?a ?l ?c ?k; (case a => k_is); (case l => k_is); (case c => k_is); (case k => k_is))
  case S =>
    intro K H xs a hO hwi hask hx
    cases hx with
    | cons h1 h2 =>
      cases h2
      cases h1 with
      | lst hs ha =>
        have e := L2.ints_dw a.1 _ ha
        subst e
        have q : ((Codec.inLen 0 5000 a.1 && a.1.all (Codec.inInt (-4294967295) 4294967295)) && true) = true := hwi
        rw [Bool.and_eq_true, Bool.and_eq_true] at q
        exact ⟨_, a.1, rfl, hs, (Codec.inNat_iff.mp q.1.1).2, hask, fun H' p hp => .lst (L2.SqL.of hp) (L2.dw_ints _)⟩
