import PyProof.Rows.All
import Wide.All
import OpenK.AllK
import Wide.FinOn
import Open.SpecLaws
import KE.OsGo
import HandS.ForSpec
import HandS.Comp
import HandS.SortInts
import HandS.CallLocal
import HandS.Iter
import HandS.Walk
import PySem.Challenge.RW_treatyforce_s01_answers
set_option autoImplicit false
namespace TF
open Km479

/-! ### rising lists -/
theorem mem_insert {a x : Nat} : ∀ {l : List Nat}, x ∈ Km479.insert a l ↔ x = a ∨ x ∈ l
  | [] => by simp [Km479.insert]
  | b :: l => by
    unfold Km479.insert
    split
    · simp
    · split
      · rename_i h; subst h; simp
      · rw [List.mem_cons, mem_insert, List.mem_cons]
        constructor
        · rintro (h | h | h)
          · exact .inr (.inl h)
          · exact .inl h
          · exact .inr (.inr h)
        · rintro (h | h | h)
          · exact .inr (.inl h)
          · exact .inl h
          · exact .inr (.inr h)
theorem mem_rising {x : Nat} : ∀ {l : List Nat}, x ∈ rising l ↔ x ∈ l
  | [] => by simp [rising]
  | a :: l => by
    show x ∈ Km479.insert a (rising l) ↔ _
    rw [mem_insert, mem_rising, List.mem_cons]
theorem insert_pw {a : Nat} : ∀ {l : List Nat}, l.Pairwise (· < ·) → (Km479.insert a l).Pairwise (· < ·)
  | [], _ => by simp [Km479.insert]
  | b :: l, h => by
    obtain ⟨h1, h2⟩ := List.pairwise_cons.mp h
    unfold Km479.insert
    split
    · rename_i hab
      refine List.pairwise_cons.mpr ⟨fun x hx => ?_, h⟩
      rcases List.mem_cons.mp hx with rfl | hx
      · exact hab
      · exact Nat.lt_trans hab (h1 x hx)
    · split
      · exact h
      · refine List.pairwise_cons.mpr ⟨fun x hx => ?_, insert_pw h2⟩
        rcases mem_insert.mp hx with rfl | hx
        · omega
        · exact h1 x hx
theorem rising_pw : ∀ (l : List Nat), (rising l).Pairwise (· < ·)
  | [] => by simp [rising]
  | _ :: l => insert_pw (rising_pw l)
theorem pw_le_of_lt {l : List Nat} (h : l.Pairwise (· < ·)) : l.Pairwise (· ≤ ·) := h.imp Nat.le_of_lt

/-! ### the least day -/
def Least (P : Nat → Bool) : Option Nat → Prop
  | none => ∀ d, P d = false
  | some d => P d = true ∧ ∀ x, x < d → P x = false
theorem Least.uniq {P : Nat → Bool} : ∀ {o o' : Option Nat}, Least P o → Least P o' → o = o'
  | none, none, _, _ => rfl
  | none, some d, h, h' => by have := h d; rw [h'.1] at this; cases this
  | some d, none, h, h' => by have := h' d; rw [h.1] at this; cases this
  | some d, some d', h, h' => by
    rcases Nat.lt_trichotomy d d' with c | c | c
    · have := h'.2 d c; rw [h.1] at this; cases this
    · rw [c]
    · have := h.2 d' c; rw [h'.1] at this; cases this
/-- the first of a list in order is the least of all, where each has one of the list at or ahead of it -/
theorem least_find {P : Nat → Bool} : ∀ {l : List Nat}, l.Pairwise (· ≤ ·) → (∀ d, P d = true → ∃ x ∈ l, x ≤ d ∧ P x = true) → Least P (l.find? P)
  | l, hs, hc => by
    cases e : l.find? P with
    | none =>
      intro d
      cases hd : P d with
      | false => rfl
      | true =>
        obtain ⟨x, hx, _, px⟩ := hc d hd
        have := List.find?_eq_none.mp e x hx
        exact absurd px this
    | some d =>
      obtain ⟨hp, as, bs, rfl, hn⟩ := List.find?_eq_some_iff_append.mp e
      refine ⟨hp, fun x hx => ?_⟩
      cases hd : P x with
      | false => rfl
      | true =>
        obtain ⟨y, hy, yx, py⟩ := hc x hd
        rw [List.pairwise_append] at hs
        rcases List.mem_append.mp hy with hy | hy
        · have := hn y hy; rw [py] at this; cases this
        · rcases List.mem_cons.mp hy with rfl | hy
          · omega
          · have := (List.pairwise_cons.mp hs.2.1).1 y hy; omega
theorem last_le (d : Nat) : ∀ (l : List Nat), (∀ x ∈ l, d < x) ∨ ∃ c ∈ l, c ≤ d ∧ ∀ x ∈ l, x ≤ d → x ≤ c
  | [] => .inl (fun _ h => nomatch h)
  | a :: l => by
    rcases last_le d l with h | ⟨c, hc, hcd, hm⟩
    · by_cases ha : a ≤ d
      · refine .inr ⟨a, List.mem_cons_self, ha, fun x hx hxd => ?_⟩
        rcases List.mem_cons.mp hx with rfl | hx
        · exact Nat.le_refl _
        · have := h x hx; omega
      · refine .inl (fun x hx => ?_)
        rcases List.mem_cons.mp hx with rfl | hx
        · omega
        · exact h x hx
    · by_cases ha : a ≤ d ∧ c < a
      · refine .inr ⟨a, List.mem_cons_self, ha.1, fun x hx hxd => ?_⟩
        rcases List.mem_cons.mp hx with rfl | hx
        · exact Nat.le_refl _
        · have := hm x hx hxd; omega
      · refine .inr ⟨c, List.mem_cons_of_mem _ hc, hcd, fun x hx hxd => ?_⟩
        rcases List.mem_cons.mp hx with rfl | hx
        · omega
        · exact hm x hx hxd

/-! ### the days on which something may change -/
theorem day_mem {b : Book} {e : Event} (h : e ∈ b.events) : e.day ∈ b.days := by
  refine mem_rising.mpr (List.mem_flatMap.mpr ⟨e, h, ?_⟩)
  split <;> simp
theorem out_mem {b : Book} {e : Event} (h : e ∈ b.events) (hr : e.ratifies = false) : e.day + b.treaty.notice ∈ b.days := by
  refine mem_rising.mpr (List.mem_flatMap.mpr ⟨e, h, ?_⟩)
  rw [hr]; simp
theorem mem_days {b : Book} {x : Nat} (h : x ∈ b.days) : ∃ e ∈ b.events, x = e.day ∨ (e.ratifies = false ∧ x = e.day + b.treaty.notice) := by
  obtain ⟨e, he, hx⟩ := List.mem_flatMap.mp (mem_rising.mp h)
  refine ⟨e, he, ?_⟩
  cases hr : e.ratifies with
  | true => rw [hr] at hx; simp at hx; exact .inl hx
  | false => rw [hr] at hx; simp at hx; rcases hx with h | h
             · exact .inl h
             · exact .inr ⟨rfl, h⟩
theorem last_mem {b : Book} {i d : Nat} {e : Event} (h : (b.events.filter fun e => e.state == i && decide (e.day ≤ d)).getLast? = some e) : e ∈ b.events ∧ e.state = i ∧ e.day ≤ d := by
  have := List.mem_of_getLast? h
  have := List.mem_filter.mp this
  refine ⟨this.1, ?_⟩
  have h2 := this.2
  rw [Bool.and_eq_true] at h2
  exact ⟨eq_of_beq h2.1, of_decide_eq_true h2.2⟩
/-- nothing changes from c to d -/
def Quiet (b : Book) (c d : Nat) : Prop := ∀ x ∈ b.days, c < x → d < x
theorem filter_quiet {b : Book} {c d i : Nat} (hcd : c ≤ d) (q : Quiet b c d) :
    (b.events.filter fun e => e.state == i && decide (e.day ≤ d)) = b.events.filter fun e => e.state == i && decide (e.day ≤ c) := by
  refine List.filter_congr fun e he => ?_
  have h1 := q e.day (day_mem he)
  have : decide (e.day ≤ d) = decide (e.day ≤ c) := by
    rw [decide_eq_decide]; omega
  rw [this]
theorem ratified_quiet {b : Book} {c d i : Nat} (hcd : c ≤ d) (q : Quiet b c d) : b.ratified i d = b.ratified i c := by
  unfold Book.ratified
  rw [filter_quiet hcd q]
  cases e : (b.events.filter fun e => e.state == i && decide (e.day ≤ c)).getLast? with
  | none => rfl
  | some ev =>
    obtain ⟨hm, _, _⟩ := last_mem e
    show (ev.ratifies || decide (d < ev.day + b.treaty.notice)) = (ev.ratifies || decide (c < ev.day + b.treaty.notice))
    cases hr : ev.ratifies with
    | true => rfl
    | false =>
      have := q _ (out_mem hm hr)
      have : decide (d < ev.day + b.treaty.notice) = decide (c < ev.day + b.treaty.notice) := by
        rw [decide_eq_decide]; omega
      rw [this]
theorem leaving_quiet {b : Book} {c d i : Nat} (hcd : c ≤ d) (q : Quiet b c d) : b.leaving i d = b.leaving i c := by
  unfold Book.leaving
  rw [filter_quiet hcd q]
  cases e : (b.events.filter fun e => e.state == i && decide (e.day ≤ c)).getLast? with
  | none => rfl
  | some ev =>
    obtain ⟨hm, _, _⟩ := last_mem e
    show (!ev.ratifies && decide (d < ev.day + b.treaty.notice)) = (!ev.ratifies && decide (c < ev.day + b.treaty.notice))
    cases hr : ev.ratifies with
    | true => rfl
    | false =>
      have := q _ (out_mem hm hr)
      have : decide (d < ev.day + b.treaty.notice) = decide (c < ev.day + b.treaty.notice) := by
        rw [decide_eq_decide]; omega
      rw [this]
theorem set_quiet {b : Book} {c d : Nat} (hcd : c ≤ d) (q : Quiet b c d) : b.set d = b.set c := by
  unfold Book.set
  exact List.filter_congr fun i _ => ratified_quiet hcd q
theorem enough_quiet {b : Book} {c d : Nat} (hcd : c ≤ d) (q : Quiet b c d) : b.enough d = b.enough c := by
  unfold Book.enough
  rw [set_quiet hcd q]
  congr 1
  exact congrArg (List.all (List.range b.treaty.n)) (funext fun i => by rw [ratified_quiet hcd q])
theorem ratified_before {b : Book} {d i : Nat} (h : ∀ x ∈ b.days, d < x) : b.ratified i d = false := by
  unfold Book.ratified
  cases e : (b.events.filter fun e => e.state == i && decide (e.day ≤ d)).getLast? with
  | none => rfl
  | some ev =>
    obtain ⟨hm, _, hl⟩ := last_mem e
    have := h _ (day_mem hm); omega
theorem set_before {b : Book} {d : Nat} (h : ∀ x ∈ b.days, d < x) : b.set d = [] := by
  unfold Book.set
  rw [List.filter_eq_nil_iff]
  intro i _; rw [ratified_before h]; exact Bool.false_ne_true
/-- a day is like the last day, at or ahead of it, on which something changed -/
theorem quiet_at (b : Book) (d : Nat) : (∀ x ∈ b.days, d < x) ∨ ∃ c ∈ b.days, c ≤ d ∧ Quiet b c d := by
  rcases last_le d b.days with h | ⟨c, hc, hcd, hm⟩
  · exact .inl h
  · exact .inr ⟨c, hc, hcd, fun x hx cx => by
      rcases Nat.lt_or_ge d x with h | h
      · exact h
      · have := hm x hx h; omega⟩

/-! ### in force from; ends -/
theorem enough_need {b : Book} {d : Nat} (h : b.enough d = true) : b.treaty.need ≤ (b.set d).length := by
  unfold Book.enough at h
  rw [Bool.and_eq_true] at h
  exact of_decide_eq_true h.1
theorem least_enough {b : Book} (hn : 1 ≤ b.treaty.need) : Least b.enough (b.days.find? b.enough) := by
  refine least_find (pw_le_of_lt (rising_pw _)) fun d hd => ?_
  rcases quiet_at b d with h | ⟨c, hc, hcd, q⟩
  · have := enough_need hd
    rw [set_before h] at this
    exact absurd this (by simp; omega)
  · exact ⟨c, hc, hcd, by rw [← enough_quiet hcd q]; exact hd⟩
/-- in force from the day so many behind the least -/
theorem from_of_least {b : Book} (hn : 1 ≤ b.treaty.need) {o : Option Nat} (h : Least b.enough o) : b.from_ = o.map fun d => d + b.treaty.wait := by
  unfold Book.from_
  rw [(least_enough hn).uniq h]
theorem least_of_from {b : Book} (hn : 1 ≤ b.treaty.need) : ∃ o, Least b.enough o ∧ b.from_ = o.map fun d => d + b.treaty.wait := ⟨_, least_enough hn, rfl⟩
def few (b : Book) (f d : Nat) : Bool := decide (f ≤ d) && decide ((b.set d).length < b.treaty.floor)
theorem find_congr {P Q : Nat → Bool} : ∀ {l : List Nat}, (∀ x ∈ l, P x = Q x) → l.find? P = l.find? Q
  | [], _ => rfl
  | a :: l, h => by
    rw [List.find?_cons, List.find?_cons, h a List.mem_cons_self, find_congr fun x hx => h x (List.mem_cons_of_mem _ hx)]
theorem least_ends {b : Book} {f : Nat} (hf : b.from_ = some f) : Least (few b f) b.ends := by
  unfold Book.ends
  rw [hf]
  show Least (few b f) ((rising (f :: b.days.filter fun d => decide (f ≤ d))).find? fun d => decide ((b.set d).length < b.treaty.floor))
  rw [find_congr (Q := few b f) fun x hx => ?_]
  · refine least_find (pw_le_of_lt (rising_pw _)) fun d hd => ?_
    unfold few at hd
    rw [Bool.and_eq_true, decide_eq_true_eq, decide_eq_true_eq] at hd
    have key : ∀ c, c ≤ d → f ≤ c → Quiet b c d → few b f c = true := fun c hcd hfc q => by
      unfold few
      rw [Bool.and_eq_true, decide_eq_true_eq, decide_eq_true_eq, ← set_quiet hcd q]
      exact ⟨hfc, hd.2⟩
    by_cases hc : ∃ c ∈ b.days, c ≤ d ∧ f ≤ c ∧ Quiet b c d
    · obtain ⟨c, hc, hcd, hfc, q⟩ := hc
      refine ⟨c, mem_rising.mpr (List.mem_cons_of_mem _ (List.mem_filter.mpr ⟨hc, decide_eq_true hfc⟩)), hcd, key c hcd hfc q⟩
    · refine ⟨f, mem_rising.mpr List.mem_cons_self, hd.1, key f hd.1 (Nat.le_refl _) fun x hx hfx => ?_⟩
      rcases quiet_at b d with h | ⟨c, hc', hcd, q⟩
      · exact h x hx
      · rcases Nat.lt_or_ge d x with h | h
        · exact h
        · exfalso
          refine hc ⟨c, hc', hcd, ?_, q⟩
          rcases Nat.lt_or_ge c x with h2 | h2
          · have := q x hx h2; omega
          · omega
  · have := mem_rising.mp hx
    have hfx : f ≤ x := by
      rcases List.mem_cons.mp this with rfl | h
      · exact Nat.le_refl _
      · exact of_decide_eq_true (List.mem_filter.mp h).2
    unfold few
    rw [decide_eq_true hfx, Bool.true_and]
theorem ends_of_least {b : Book} {f : Nat} (hf : b.from_ = some f) {o : Option Nat} (h : Least (few b f) o) : b.ends = o := (least_ends hf).uniq h
theorem ends_none {b : Book} (hf : b.from_ = none) : b.ends = none := by
  unfold Book.ends
  rw [hf]; rfl

/-! ### since, until, by all days -/
theorem days_sub_all {b : Book} {x : Nat} (h : x ∈ b.days) : x ∈ b.all :=
  mem_rising.mpr (List.mem_append_left _ (List.mem_append_left _ h))
theorem from_mem_all {b : Book} {f : Nat} (h : b.from_ = some f) : f ∈ b.all :=
  mem_rising.mpr (List.mem_append_left _ (List.mem_append_right _ (by rw [h]; simp)))
theorem ends_mem_all {b : Book} {f : Nat} (h : b.ends = some f) : f ∈ b.all :=
  mem_rising.mpr (List.mem_append_right _ (by rw [h]; simp))
def QuietA (b : Book) (c d : Nat) : Prop := ∀ x ∈ b.all, c < x → d < x
theorem QuietA.quiet {b : Book} {c d : Nat} (q : QuietA b c d) : Quiet b c d := fun x hx => q x (days_sub_all hx)
theorem inForce_quiet {b : Book} {c d : Nat} (hcd : c ≤ d) (q : QuietA b c d) : b.inForce d = b.inForce c := by
  unfold Book.inForce
  cases hf : b.from_ with
  | none => rfl
  | some f =>
    have h1 := q f (from_mem_all hf)
    have e1 : decide (f ≤ d) = decide (f ≤ c) := by rw [decide_eq_decide]; omega
    cases he : b.ends with
    | none => show (decide (f ≤ d) && true) = (decide (f ≤ c) && true); rw [e1]
    | some e =>
      have h2 := q e (ends_mem_all he)
      have e2 : decide (d < e) = decide (c < e) := by rw [decide_eq_decide]; omega
      show (decide (f ≤ d) && decide (d < e)) = (decide (f ≤ c) && decide (c < e))
      rw [e1, e2]
theorem bound_quiet {b : Book} {c d i : Nat} (hcd : c ≤ d) (q : QuietA b c d) : b.bound i d = b.bound i c := by
  unfold Book.bound
  rw [inForce_quiet hcd q, ratified_quiet hcd q.quiet]
theorem quietA_at (b : Book) (d : Nat) : (∀ x ∈ b.all, d < x) ∨ ∃ c ∈ b.all, c ≤ d ∧ QuietA b c d := by
  rcases last_le d b.all with h | ⟨c, hc, hcd, hm⟩
  · exact .inl h
  · exact .inr ⟨c, hc, hcd, fun x hx cx => by
      rcases Nat.lt_or_ge d x with h | h
      · exact h
      · have := hm x hx h; omega⟩
theorem bound_before {b : Book} {d i : Nat} (h : ∀ x ∈ b.all, d < x) : b.bound i d = false := by
  unfold Book.bound
  rw [ratified_before fun x hx => h x (days_sub_all hx), Bool.and_false]
theorem least_since (b : Book) (i : Nat) : Least (b.bound i) (b.since i) := by
  refine least_find (pw_le_of_lt (rising_pw _)) fun d hd => ?_
  rcases quietA_at b d with h | ⟨c, hc, hcd, q⟩
  · rw [bound_before h] at hd; cases hd
  · exact ⟨c, hc, hcd, by rw [← bound_quiet hcd q]; exact hd⟩
def unbound (b : Book) (i s d : Nat) : Bool := decide (s < d) && !b.bound i d
theorem least_until {b : Book} {i s : Nat} (hs : b.since i = some s) : Least (unbound b i s) (b.until_ i) := by
  unfold Book.until_
  rw [hs]
  have hb : b.bound i s = true := by have := least_since b i; rw [hs] at this; exact this.1
  refine least_find (pw_le_of_lt (rising_pw _)) fun d hd => ?_
  have hd' := hd
  unfold unbound at hd'
  rw [Bool.and_eq_true, decide_eq_true_eq, Bool.not_eq_true'] at hd'
  rcases quietA_at b d with h | ⟨c, hc, hcd, q⟩
  · have := bound_before (i := i) (d := s) fun x hx => by have := h x hx; omega
    rw [hb] at this; cases this
  · refine ⟨c, hc, hcd, ?_⟩
    unfold unbound
    rw [Bool.and_eq_true, decide_eq_true_eq, Bool.not_eq_true', ← bound_quiet hcd q]
    refine ⟨?_, hd'.2⟩
    rcases Nat.lt_or_ge s c with h | h
    · exact h
    · exfalso
      have : b.bound i s = b.bound i d := by
        rw [bound_quiet h fun x hx hcx => by have := q x hx hcx; omega, bound_quiet hcd q]
      rw [hb, hd'.2] at this; cases this

/-! ### how many days -/
def segs (P : Nat → Bool) (N : Nat) : List Nat → Nat
  | [] => 0
  | a :: l => (if P a = true then (l.head?.getD (N + 1)) - a else 0) + segs P N l
theorem foldl_add (l : List Nat) : ∀ (z : Nat), l.foldl (· + ·) z = z + l.foldl (· + ·) 0 := by
  induction l with
  | nil => intro z; rfl
  | cons a l ih => intro z; rw [List.foldl_cons, List.foldl_cons, ih, ih (0 + a)]; omega
theorem segs_zip (P : Nat → Bool) (N : Nat) : ∀ (l : List Nat), ((l.zip (l.drop 1 ++ [N + 1])).map fun x => if P x.1 = true then x.2 - x.1 else 0).foldl (· + ·) 0 = segs P N l
  | [] => rfl
  | [a] => by
    show 0 + (if P a = true then N + 1 - a else 0) = (if P a = true then N + 1 - a else 0) + 0
    omega
  | a :: c :: l => by
    have ih := segs_zip P N (c :: l)
    show ((if P a = true then c - a else 0) :: (((c :: l).zip ((c :: l).drop 1 ++ [N + 1])).map fun x => if P x.1 = true then x.2 - x.1 else 0)).foldl (· + ·) 0 = (if P a = true then c - a else 0) + segs P N (c :: l)
    rw [List.foldl_cons, foldl_add, ih]
    omega
theorem countP_const {P : Nat → Bool} {v : Bool} : ∀ (k a : Nat), (∀ d, a ≤ d → d < a + k → P d = v) → (List.range' a k).countP P = if v = true then k else 0
  | 0, _, _ => by simp
  | k + 1, a, h => by
    rw [List.range'_succ, List.countP_cons, countP_const k (a + 1) fun d h1 h2 => h d (by omega) (by omega), h a (Nat.le_refl _) (by omega)]
    cases v <;> simp
theorem segs_count {P : Nat → Bool} {N : Nat} : ∀ (l : List Nat) (a : Nat), (a :: l).Pairwise (· < ·) → (∀ x ∈ a :: l, x ≤ N) →
    (∀ c d, c ∈ a :: l → c ≤ d → d ≤ N → (∀ x ∈ a :: l, c < x → d < x) → P d = P c) → segs P N (a :: l) = (List.range' a (N + 1 - a)).countP P
  | [], a, _, hN, hq => by
    have h := countP_const (P := P) (v := P a) (N + 1 - a) a fun d h1 h2 => hq a d List.mem_cons_self h1 (by omega) fun x hx => by
      rcases List.mem_cons.mp hx with rfl | hx
      · omega
      · cases hx
    rw [h]
    show (if P a = true then N + 1 - a else 0) + 0 = _
    omega
  | c :: l, a, hp, hN, hq => by
    obtain ⟨h1, h2⟩ := List.pairwise_cons.mp hp
    have hac := h1 c List.mem_cons_self
    have hcN := hN c (by simp)
    have ih := segs_count (P := P) (N := N) l c h2 (fun x hx => hN x (List.mem_cons_of_mem _ hx)) fun c' d hc' hcd hdN hx => hq c' d (List.mem_cons_of_mem _ hc') hcd hdN fun x hx' hlt => by
      rcases List.mem_cons.mp hx' with rfl | hx'
      · have := h1 c' hc'; omega
      · exact hx x hx' hlt
    have h := countP_const (P := P) (v := P a) (c - a) a fun d h3 h4 => hq a d List.mem_cons_self h3 (by omega) fun x hx hlt => by
      rcases List.mem_cons.mp hx with rfl | hx
      · omega
      · rcases List.mem_cons.mp hx with rfl | hx
        · omega
        · have := (List.pairwise_cons.mp h2).1 x hx; omega
    have e : N + 1 - a = (c - a) + (N + 1 - c) := by omega
    have e2 : a + (c - a) = c := by omega
    rw [e, ← List.range'_append_1, List.countP_append, h, e2, ← ih]
    rfl
theorem pw_filter {l : List Nat} {p : Nat → Bool} (h : l.Pairwise (· < ·)) : (l.filter p).Pairwise (· < ·) := h.sublist List.filter_sublist
/-- **how many days**: those of 0 to the last on which it is bound -/
theorem count_eq (b : Book) (i : Nat) : b.count i = (List.range (LAST + 1)).countP (b.bound i) := by
  unfold Book.count
  show ((((rising (0 :: b.all)).filter fun d => decide (d ≤ LAST)).zip (((rising (0 :: b.all)).filter fun d => decide (d ≤ LAST)).drop 1 ++ [LAST + 1])).map fun x => if b.bound i x.1 = true then x.2 - x.1 else 0).foldl (· + ·) 0 = _
  rw [segs_zip]
  have hp := pw_filter (p := fun d => decide (d ≤ LAST)) (rising_pw (0 :: b.all))
  have hm0 : 0 ∈ (rising (0 :: b.all)).filter fun d => decide (d ≤ LAST) := List.mem_filter.mpr ⟨mem_rising.mpr List.mem_cons_self, decide_eq_true (Nat.zero_le _)⟩
  generalize hl : ((rising (0 :: b.all)).filter fun d => decide (d ≤ LAST)) = l at *
  have hmem : ∀ x, x ∈ l ↔ (x = 0 ∨ x ∈ b.all) ∧ x ≤ LAST := fun x => by
    rw [← hl, List.mem_filter, mem_rising, List.mem_cons, decide_eq_true_eq]
  cases l with
  | nil => cases hm0
  | cons a l =>
    have ha : a = 0 := by
      rcases List.mem_cons.mp hm0 with h | h
      · exact h.symm
      · have := (List.pairwise_cons.mp hp).1 0 h; omega
    subst ha
    rw [List.range_eq_range']
    refine segs_count l 0 hp (fun x hx => ((hmem x).mp hx).2) fun c d hc hcd hdN hx => ?_
    · rcases quietA_at b d with h | ⟨c', hc', hcd', q⟩
      · rw [bound_before h, bound_before fun x hx => by have := h x hx; omega]
      · have hle : c' ≤ c := by
          rcases Nat.lt_or_ge c c' with h | h
          · have := hx c' ((hmem c').mpr ⟨.inr hc', by omega⟩) h; omega
          · exact h
        rw [bound_quiet hcd' q, bound_quiet hle fun x hx h => by have := q x hx h; omega]

/-! ### the first with the most -/
/-- x is the first of the list with the most -/
def FirstMost (f : Nat → Nat) (l : List Nat) : Option Nat → Prop
  | none => l = []
  | some x => x ∈ l ∧ (∀ y ∈ l, f y ≤ f x) ∧ ∀ y ∈ l, y < x → f y < f x
theorem FirstMost.uniq {f : Nat → Nat} {l l' : List Nat} (hl : ∀ x, x ∈ l ↔ x ∈ l') : ∀ {o o' : Option Nat}, FirstMost f l o → FirstMost f l' o' → o = o'
  | none, none, _, _ => rfl
  | none, some d, h, h' => by
    have : d ∈ l := (hl d).mpr h'.1
    rw [show l = [] from h] at this; cases this
  | some d, none, h, h' => by
    have : d ∈ l' := (hl d).mp h.1
    rw [show l' = [] from h'] at this; cases this
  | some d, some d', h, h' => by
    rcases Nat.lt_trichotomy d d' with c | c | c
    · have h1 := h'.2.2 d ((hl d).mp h.1) c
      have h2 := h.2.1 d' ((hl d').mpr h'.1)
      omega
    · rw [c]
    · have h1 := h.2.2 d' ((hl d').mpr h'.1) c
      have h2 := h'.2.1 d ((hl d).mp h.1)
      omega
def best (f : Nat → Nat) (o : Option Nat) (s : Nat) : Option Nat := match o with
  | none => some s
  | some b => if f b < f s then some s else some b
theorem first_go {f : Nat → Nat} : ∀ (r p : List Nat) (o : Option Nat), (p ++ r).Pairwise (· ≤ ·) → FirstMost f p o → FirstMost f (p ++ r) (r.foldl (best f) o)
  | [], p, o, _, h => by rw [List.append_nil]; exact h
  | a :: r, p, o, hp, h => by
    have e : p ++ a :: r = (p ++ [a]) ++ r := by simp
    rw [e] at hp ⊢
    refine first_go r (p ++ [a]) (best f o a) hp ?_
    have hpa := (List.pairwise_append.mp (List.pairwise_append.mp hp).1).2.2
    cases o with
    | none =>
      have : p = [] := h
      subst this
      refine ⟨List.mem_cons_self, fun y hy => ?_, fun y hy hlt => ?_⟩
      · rcases List.mem_cons.mp hy with rfl | hy
        · exact Nat.le_refl _
        · cases hy
      · rcases List.mem_cons.mp hy with rfl | hy
        · omega
        · cases hy
    | some x =>
      obtain ⟨h1, h2, h3⟩ := h
      by_cases c : f x < f a
      · show FirstMost f (p ++ [a]) (if f x < f a then some a else some x)
        rw [if_pos c]
        refine ⟨by simp, fun y hy => ?_, fun y hy hlt => ?_⟩
        · rcases List.mem_append.mp hy with hy | hy
          · have := h2 y hy; omega
          · rw [List.mem_singleton.mp hy]; exact Nat.le_refl _
        · rcases List.mem_append.mp hy with hy | hy
          · have := h2 y hy; omega
          · rw [List.mem_singleton.mp hy] at hlt; omega
      · show FirstMost f (p ++ [a]) (if f x < f a then some a else some x)
        rw [if_neg c]
        refine ⟨List.mem_append_left _ h1, fun y hy => ?_, fun y hy hlt => ?_⟩
        · rcases List.mem_append.mp hy with hy | hy
          · exact h2 y hy
          · rw [List.mem_singleton.mp hy]; omega
        · rcases List.mem_append.mp hy with hy | hy
          · exact h3 y hy hlt
          · have := hpa x h1 a (by simp)
            rw [List.mem_singleton.mp hy] at hlt; omega
theorem first_most {f : Nat → Nat} {l : List Nat} (h : l.Pairwise (· ≤ ·)) : FirstMost f l (l.foldl (best f) none) := first_go l [] none h rfl
theorem first_is (f : Nat → Nat) (l : List Nat) : first f l = l.foldl (best f) none := rfl
theorem most_of {b : Book} {l : List Nat} (hl : ∀ x, x ∈ l ↔ x ∈ b.all) {o : Option Nat} (h : FirstMost (fun x => (b.parties x).length) l o) : first (fun x => (b.parties x).length) b.all = o := by
  rw [first_is]
  exact (FirstMost.uniq hl h (first_most (pw_le_of_lt (rising_pw _)))).symm
theorem mem_all {b : Book} {x : Nat} : x ∈ b.all ↔ x ∈ b.days ∨ b.from_ = some x ∨ b.ends = some x := by
  unfold Book.all
  rw [mem_rising, List.mem_append, List.mem_append, Option.mem_toList, Option.mem_toList, or_assoc]

/-! ### the fewest -/
def okSet (b : Book) (d s : Nat) : Bool := (List.range b.treaty.n).all (fun i => !s.testBit i || !b.ratified i d) && (b.with_ s d).enough d
/-- s is of those that will do one of fewest states, of like ones the least number -/
def Fewest (n : Nat) (ok : Nat → Bool) : Option Nat → Prop
  | none => ∀ s, s < 2 ^ n → ok s = false
  | some s => s < 2 ^ n ∧ ok s = true ∧ ∀ t, t < 2 ^ n → ok t = true → size n s < size n t ∨ (size n s = size n t ∧ s ≤ t)
theorem Fewest.uniq {n : Nat} {ok : Nat → Bool} : ∀ {o o' : Option Nat}, Fewest n ok o → Fewest n ok o' → o = o'
  | none, none, _, _ => rfl
  | none, some d, h, h' => by have := h d h'.1; rw [h'.2.1] at this; cases this
  | some d, none, h, h' => by have := h' d h.1; rw [h.2.1] at this; cases this
  | some d, some d', h, h' => by
    have h1 := h.2.2 d' h'.1 h'.2.1
    have h2 := h'.2.2 d h.1 h.2.1
    have : d = d' := by omega
    rw [this]
def fewer (n : Nat) (o : Option Nat) (s : Nat) : Option Nat := match o with
  | none => some s
  | some t => if size n s < size n t then some s else some t
def FewIn (n : Nat) (l : List Nat) : Option Nat → Prop
  | none => l = []
  | some s => s ∈ l ∧ ∀ t ∈ l, size n s < size n t ∨ (size n s = size n t ∧ s ≤ t)
theorem fewer_go {n : Nat} : ∀ (r p : List Nat) (o : Option Nat), (p ++ r).Pairwise (· < ·) → FewIn n p o → FewIn n (p ++ r) (r.foldl (fewer n) o)
  | [], p, o, _, h => by rw [List.append_nil]; exact h
  | a :: r, p, o, hp, h => by
    have e : p ++ a :: r = (p ++ [a]) ++ r := by simp
    rw [e] at hp ⊢
    refine fewer_go r (p ++ [a]) (fewer n o a) hp ?_
    have hpa := (List.pairwise_append.mp (List.pairwise_append.mp hp).1).2.2
    cases o with
    | none =>
      have : p = [] := h
      subst this
      refine ⟨List.mem_cons_self, fun y hy => ?_⟩
      rcases List.mem_cons.mp hy with rfl | hy
      · exact .inr ⟨rfl, Nat.le_refl _⟩
      · cases hy
    | some x =>
      obtain ⟨h1, h2⟩ := h
      have hxa := hpa x h1 a (by simp)
      by_cases c : size n a < size n x
      · show FewIn n (p ++ [a]) (if size n a < size n x then some a else some x)
        rw [if_pos c]
        refine ⟨by simp, fun y hy => ?_⟩
        rcases List.mem_append.mp hy with hy | hy
        · have := h2 y hy; omega
        · rw [List.mem_singleton.mp hy]; exact .inr ⟨rfl, Nat.le_refl _⟩
      · show FewIn n (p ++ [a]) (if size n a < size n x then some a else some x)
        rw [if_neg c]
        refine ⟨List.mem_append_left _ h1, fun y hy => ?_⟩
        rcases List.mem_append.mp hy with hy | hy
        · exact h2 y hy
        · rw [List.mem_singleton.mp hy]; omega
theorem fewest_is (b : Book) (d : Nat) : Fewest b.treaty.n (okSet b d) (b.fewest d) := by
  have hp : ((List.range (2 ^ b.treaty.n)).filter (okSet b d)).Pairwise (· < ·) := pw_filter List.pairwise_lt_range
  have h := fewer_go (n := b.treaty.n) _ [] none hp rfl
  rw [List.nil_append] at h
  have e : b.fewest d = ((List.range (2 ^ b.treaty.n)).filter (okSet b d)).foldl (fewer b.treaty.n) none := rfl
  rw [e]
  generalize ho : ((List.range (2 ^ b.treaty.n)).filter (okSet b d)).foldl (fewer b.treaty.n) none = o at h ⊢
  cases o with
  | none =>
    intro s hs
    cases c : okSet b d s with
    | false => rfl
    | true =>
      have : s ∈ (List.range (2 ^ b.treaty.n)).filter (okSet b d) := List.mem_filter.mpr ⟨List.mem_range.mpr hs, c⟩
      rw [show (List.range (2 ^ b.treaty.n)).filter (okSet b d) = [] from h] at this
      cases this
  | some s =>
    obtain ⟨h1, h2⟩ := h
    obtain ⟨h3, h4⟩ := List.mem_filter.mp h1
    exact ⟨List.mem_range.mp h3, h4, fun t ht hk => h2 t (List.mem_filter.mpr ⟨List.mem_range.mpr ht, hk⟩)⟩
end TF
set_option autoImplicit false
namespace TF
open Km479
/-! ### sets as numbers -/
def bitsR (n : Nat) (p : Nat → Bool) : Nat := bits ((List.range n).filter p)
theorem bits_append (l : List Nat) (a : Nat) : bits (l ++ [a]) = bits l + 2 ^ a := by
  unfold bits
  rw [List.map_append, List.foldl_append]
  rfl
theorem bitsR_succ (n : Nat) (p : Nat → Bool) : bitsR (n + 1) p = bitsR n p + if p n = true then 2 ^ n else 0 := by
  unfold bitsR
  rw [List.range_succ, List.filter_append]
  by_cases h : p n = true
  · rw [if_pos h, List.filter_cons, if_pos h, List.filter_nil, bits_append]
  · rw [if_neg h, List.filter_cons, if_neg h, List.filter_nil, List.append_nil, Nat.add_zero]
theorem bitsR_zero (p : Nat → Bool) : bitsR 0 p = 0 := rfl
theorem bitsR_lt (p : Nat → Bool) : ∀ (n : Nat), bitsR n p < 2 ^ n
  | 0 => by rw [bitsR_zero]; decide
  | n + 1 => by
    have := bitsR_lt p n
    rw [bitsR_succ, Nat.pow_succ]
    split <;> omega
theorem testBit_bitsR (p : Nat → Bool) : ∀ (n i : Nat), (bitsR n p).testBit i = (decide (i < n) && p i)
  | 0, i => by rw [bitsR_zero, Nat.zero_testBit]; simp
  | n + 1, i => by
    have ih := testBit_bitsR p n i
    have hl := bitsR_lt p n
    rw [bitsR_succ]
    rcases Nat.lt_trichotomy i n with h | h | h
    · rw [show decide (i < n + 1) = true from decide_eq_true (by omega), Bool.true_and]
      rw [show decide (i < n) = true from decide_eq_true h, Bool.true_and] at ih
      split
      · rw [Nat.add_comm, Nat.testBit_two_pow_add_gt h]; exact ih
      · rw [Nat.add_zero]; exact ih
    · subst h
      rw [show decide (i < i + 1) = true from decide_eq_true (by omega), Bool.true_and]
      rw [show decide (i < i) = false from decide_eq_false (by omega), Bool.false_and] at ih
      split
      · rename_i hp
        rw [Nat.add_comm, Nat.testBit_two_pow_add_eq, ih, hp]; rfl
      · rename_i hp
        rw [Nat.add_zero, ih]
        cases hp' : p i with
        | true => exact absurd hp' hp
        | false => rfl
    · rw [show decide (i < n + 1) = false from decide_eq_false (by omega), Bool.false_and]
      refine Nat.testBit_lt_two_pow ?_
      have h2 : 2 ^ (n + 1) ≤ 2 ^ i := Nat.pow_le_pow_right (by decide) h
      rw [Nat.pow_succ] at h2
      split <;> omega
theorem bitsR_congr {n : Nat} {p q : Nat → Bool} (h : ∀ i, i < n → p i = q i) : bitsR n p = bitsR n q := by
  unfold bitsR
  rw [List.filter_congr fun i hi => h i (List.mem_range.mp hi)]
theorem bitsR_testBit {n s : Nat} (h : s < 2 ^ n) : bitsR n s.testBit = s := by
  refine Nat.eq_of_testBit_eq fun i => ?_
  rw [testBit_bitsR]
  by_cases hi : i < n
  · rw [decide_eq_true hi, Bool.true_and]
  · rw [decide_eq_false hi, Bool.false_and]
    exact (Nat.testBit_lt_two_pow (Nat.lt_of_lt_of_le h (Nat.pow_le_pow_right (by decide) (by omega)))).symm
theorem bitsR_split (p q : Nat → Bool) : ∀ (n : Nat), bitsR n (fun i => p i && q i) + bitsR n (fun i => p i && !q i) = bitsR n p
  | 0 => rfl
  | n + 1 => by
    have ih := bitsR_split p q n
    rw [bitsR_succ, bitsR_succ, bitsR_succ, ← ih]
    cases p n <;> cases q n <;> simp <;> omega
theorem and_bitsR {n s : Nat} (p : Nat → Bool) (h : s < 2 ^ n) : s &&& bitsR n p = bitsR n (fun i => s.testBit i && p i) := by
  refine Nat.eq_of_testBit_eq fun i => ?_
  rw [Nat.testBit_and, testBit_bitsR, testBit_bitsR]
  cases s.testBit i <;> cases decide (i < n) <;> cases p i <;> rfl
/-- what is named, and not among these -/
theorem lacks_bits {n s : Nat} (p : Nat → Bool) (h : s < 2 ^ n) : s - (s &&& bitsR n p) = bitsR n (fun i => s.testBit i && !p i) := by
  have h1 := bitsR_split s.testBit p n
  rw [bitsR_testBit h] at h1
  rw [and_bitsR p h]
  omega
theorem named_in {n s : Nat} (p : Nat → Bool) (h : s < 2 ^ n) : (s &&& bitsR n p = s) ↔ ((List.range n).all fun i => !s.testBit i || p i) = true := by
  rw [List.all_eq_true]
  constructor
  · intro e i hi
    have hi := List.mem_range.mp hi
    have : (s &&& bitsR n p).testBit i = s.testBit i := by rw [e]
    rw [Nat.testBit_and, testBit_bitsR, decide_eq_true hi, Bool.true_and] at this
    revert this
    cases s.testBit i <;> cases p i <;> simp
  · intro e
    refine Nat.eq_of_testBit_eq fun i => ?_
    rw [Nat.testBit_and, testBit_bitsR]
    by_cases hi : i < n
    · have := e i (List.mem_range.mpr hi)
      rw [decide_eq_true hi, Bool.true_and]
      revert this
      cases s.testBit i <;> cases p i <;> simp
    · have : s.testBit i = false := Nat.testBit_lt_two_pow (Nat.lt_of_lt_of_le h (Nat.pow_le_pow_right (by decide) (by omega)))
      rw [this]; rfl
/-- how many there are -/
def cntR (n : Nat) (p : Nat → Bool) : Nat := ((List.range n).filter p).length
theorem cntR_succ (n : Nat) (p : Nat → Bool) : cntR (n + 1) p = cntR n p + if p n = true then 1 else 0 := by
  unfold cntR
  rw [List.range_succ, List.filter_append, List.length_append]
  by_cases h : p n = true
  · rw [if_pos h, List.filter_cons, if_pos h]; rfl
  · rw [if_neg h, List.filter_cons, if_neg h]; rfl
theorem cntR_le (p : Nat → Bool) (n : Nat) : cntR n p ≤ n := by
  unfold cntR
  have := List.length_filter_le p (List.range n)
  rw [List.length_range] at this
  exact this
theorem size_bitsR (n : Nat) (p : Nat → Bool) : size n (bitsR n p) = cntR n p := by
  unfold size cntR
  rw [List.filter_congr fun i hi => by rw [testBit_bitsR, decide_eq_true (List.mem_range.mp hi), Bool.true_and]]
theorem enough_bits {b : Book} {d : Nat} (h : b.treaty.named < 2 ^ b.treaty.n) :
    b.enough d = (decide (b.treaty.need ≤ (b.set d).length) && decide (b.treaty.named &&& bits (b.set d) = b.treaty.named)) := by
  unfold Book.enough
  congr 1
  have := named_in (fun i => b.ratified i d) h
  rw [Bool.eq_iff_iff, decide_eq_true_eq]
  exact this.symm
/-- the sum of the powers, as the program has it -/
theorem sum_pow : ∀ (l : List Nat), (l.map fun (i : Nat) => (1 : Int) * 2 ^ ((i : Int).toNat)).sum = (bits l : Int) := by
  intro l
  have gen : ∀ (l : List Nat) (z : Nat), ((l.map fun i => 2 ^ i).foldl (· + ·) z : Nat) = (z : Int) + (l.map fun (i : Nat) => (1 : Int) * 2 ^ ((i : Int).toNat)).sum := by
    intro l
    induction l with
    | nil => intro z; simp
    | cons a l ih =>
      intro z
      rw [List.map_cons, List.foldl_cons, ih, List.map_cons, List.sum_cons]
      have : ((2 ^ a : Nat) : Int) = (1 : Int) * 2 ^ ((a : Int).toNat) := by
        rw [Int.one_mul, Int.toNat_natCast, Int.natCast_pow]; rfl
      rw [Int.natCast_add, this]
      omega
  have := gen l 0
  unfold bits
  rw [this]; simp
end TF
set_option autoImplicit false
namespace TF
open Km479
/-! ### a book as the calls make it -/
structure WF (b : Book) : Prop where
  n1 : 1 ≤ b.treaty.n
  n10 : b.treaty.n ≤ 10
  need1 : 1 ≤ b.treaty.need
  need : b.treaty.need ≤ b.treaty.n
  named : b.treaty.named < 2 ^ b.treaty.n
  wait : b.treaty.wait ≤ 365
  notice1 : 1 ≤ b.treaty.notice
  notice : b.treaty.notice ≤ 365
  floor : b.treaty.floor ≤ b.treaty.n
  len : b.events.length ≤ 34
  ord : (b.events.map Event.day).Pairwise (· ≤ ·)
  st : ∀ e ∈ b.events, e.state < b.treaty.n
  dy : ∀ e ∈ b.events, e.day ≤ 10000
/-- .. of which at most 24 things are done -/
def WF4 (b : Book) : Prop := WF b ∧ b.events.length ≤ 24
theorem ok_iff {n k s w v f : Nat} : okTreaty ⟨n, k, s, w, v, f⟩ = true ↔ 1 ≤ n ∧ n ≤ 10 ∧ 1 ≤ k ∧ k ≤ n ∧ s < 2 ^ n ∧ w ≤ 365 ∧ 1 ≤ v ∧ v ≤ 365 ∧ f ≤ n := by
  unfold okTreaty STATES YEAR
  simp only [Bool.and_eq_true, decide_eq_true_eq]
theorem wf_start {n k s w v f : Nat} (h : okTreaty ⟨n, k, s, w, v, f⟩ = true) : WF ⟨⟨n, k, s, w, v, f⟩, []⟩ := by
  obtain ⟨h1, h2, h3, h4, h5, h6, h7, h8, h9⟩ := ok_iff.mp h
  exact ⟨h1, h2, h3, h4, h5, h6, h7, h8, h9, by simp, by simp, by simp, by simp⟩
theorem lastDay_is (b : Book) : b.lastDay = (b.events.getLast?.map Event.day).getD 0 := rfl
theorem le_lastDay {b : Book} (w : WF b) : ∀ e ∈ b.events, e.day ≤ b.lastDay := by
  intro e he
  have ho := w.ord
  rw [lastDay_is]
  rcases List.eq_nil_or_concat b.events with h | ⟨i, z, h⟩
  · rw [h] at he; cases he
  · rw [h] at he ho ⊢
    rw [List.concat_eq_append] at he ho ⊢
    rw [List.getLast?_append, List.getLast?_singleton]
    show e.day ≤ z.day
    rw [List.map_append, List.pairwise_append] at ho
    rcases List.mem_append.mp he with h2 | h2
    · exact ho.2.2 e.day (List.mem_map.mpr ⟨e, h2, rfl⟩) z.day (by simp)
    · rw [List.mem_singleton.mp h2]; exact Nat.le_refl _
theorem wf_push {b : Book} (w : WF b) {i d : Nat} {r : Bool} (hi : i < b.treaty.n) (hd : d ≤ 10000) (hl : b.lastDay ≤ d) (h24 : b.events.length < 24) :
    WF { b with events := b.events ++ [⟨i, d, r⟩] } := by
  refine ⟨w.n1, w.n10, w.need1, w.need, w.named, w.wait, w.notice1, w.notice, w.floor, ?_, ?_, ?_, ?_⟩
  · show (b.events ++ _).length ≤ 34
    rw [List.length_append]; simp; omega
  · show ((b.events ++ [(⟨i, d, r⟩ : Event)]).map Event.day).Pairwise (· ≤ ·)
    rw [List.map_append, List.pairwise_append]
    refine ⟨w.ord, by simp, fun x hx y hy => ?_⟩
    obtain ⟨e, he, rfl⟩ := List.mem_map.mp hx
    have := le_lastDay w e he
    have hy : y = d := by simpa using hy
    omega
  · intro e he
    rcases List.mem_append.mp he with h | h
    · exact w.st e h
    · rw [List.mem_singleton.mp h]; exact hi
  · intro e he
    rcases List.mem_append.mp he with h | h
    · exact w.dy e h
    · rw [List.mem_singleton.mp h]; exact hd
theorem wf_back {b : Book} (w : WF b) : WF { b with events := b.events.dropLast } := by
  have sub : b.events.dropLast.Sublist b.events := List.dropLast_sublist _
  refine ⟨w.n1, w.n10, w.need1, w.need, w.named, w.wait, w.notice1, w.notice, w.floor, ?_, ?_, ?_, ?_⟩
  · exact Nat.le_trans sub.length_le w.len
  · exact w.ord.sublist (sub.map _)
  · exact fun e he => w.st e (sub.subset he)
  · exact fun e he => w.dy e (sub.subset he)
/-! ### the last that a state did -/
def lastOf (b : Book) (i d : Nat) : Option Event := (b.events.filter fun e => e.state == i && decide (e.day ≤ d)).getLast?
theorem lastOf_mem {b : Book} {i d : Nat} {e : Event} (h : lastOf b i d = some e) : e ∈ b.events ∧ e.state = i ∧ e.day ≤ d := last_mem h
theorem ratified_is (b : Book) (i d : Nat) : b.ratified i d = match lastOf b i d with
    | none => false
    | some e => e.ratifies || decide (d < e.day + b.treaty.notice) := rfl
theorem leaving_is (b : Book) (i d : Nat) : b.leaving i d = match lastOf b i d with
    | none => false
    | some e => !e.ratifies && decide (d < e.day + b.treaty.notice) := rfl
theorem last_go {α : Type} (p : α → Bool) : ∀ (l : List α) (o : Option α), l.foldl (fun o e => if p e = true then some e else o) o = ((l.filter p).getLast?).or o
  | [], o => by simp
  | a :: l, o => by
    rw [List.foldl_cons, last_go p l, List.filter_cons]
    by_cases h : p a = true
    · rw [if_pos h, if_pos h]
      cases hl : l.filter p with
      | nil => simp
      | cons c r =>
        rw [List.getLast?_cons_cons]
        cases hg : (c :: r).getLast? with
        | none => simp at hg
        | some z => rfl
    · rw [if_neg h, if_neg h]
/-- the last so far, after one more -/
theorem last_snoc {α : Type} (p : α → Bool) (l : List α) (a : α) : ((l ++ [a]).filter p).getLast? = if p a = true then some a else (l.filter p).getLast? := by
  rw [List.filter_append, List.filter_cons]
  by_cases h : p a = true
  · rw [if_pos h, if_pos h, List.filter_nil, List.getLast?_append, List.getLast?_singleton]; rfl
  · rw [if_neg h, if_neg h, List.filter_nil, List.append_nil]
theorem last_filter {α : Type} {p q : α → Bool} (hpq : ∀ e, p e = true → q e = true) {l : List α} {e : α} (h : (l.filter q).getLast? = some e) (he : p e = true) : (l.filter p).getLast? = some e := by
  have e1 : l.filter p = (l.filter q).filter p := by
    rw [List.filter_filter]
    refine List.filter_congr fun x _ => ?_
    cases hp : p x with
    | false => rfl
    | true => rw [hpq x hp]; rfl
  obtain ⟨ys, hy⟩ := List.getLast?_eq_some_iff.mp h
  rw [e1, hy, last_snoc, if_pos he]
theorem lastOf_earlier {b : Book} {i c d : Nat} {e : Event} (hcd : c ≤ d) (h : lastOf b i d = some e) (he : e.day ≤ c) : lastOf b i c = some e := by
  obtain ⟨_, hs, _⟩ := lastOf_mem h
  refine last_filter (p := fun e : Event => e.state == i && decide (e.day ≤ c)) (q := fun e : Event => e.state == i && decide (e.day ≤ d)) (fun x hx => ?_) h ?_
  · rw [Bool.and_eq_true, decide_eq_true_eq] at hx ⊢
    exact ⟨hx.1, Nat.le_trans hx.2 hcd⟩
  · rw [Bool.and_eq_true, decide_eq_true_eq]
    exact ⟨by rw [hs]; exact beq_self_eq_true i, he⟩
/-! ### only a deed adds a state; only an out takes one -/
theorem ratified_down {b : Book} {i c d : Nat} (hcd : c ≤ d) (hn : ∀ e ∈ b.events, c < e.day → d < e.day) (h : b.ratified i d = true) : b.ratified i c = true := by
  rw [ratified_is] at h ⊢
  cases hl : lastOf b i d with
  | none => rw [hl] at h; cases h
  | some e =>
    rw [hl] at h
    obtain ⟨hm, _, hd⟩ := lastOf_mem hl
    have hc : e.day ≤ c := by
      rcases Nat.lt_or_ge c e.day with q | q
      · have := hn e hm q; omega
      · exact q
    rw [lastOf_earlier hcd hl hc]
    show (e.ratifies || decide (c < e.day + b.treaty.notice)) = true
    have h : (e.ratifies || decide (d < e.day + b.treaty.notice)) = true := h
    rw [Bool.or_eq_true, decide_eq_true_eq] at h ⊢
    rcases h with h | h
    · exact .inl h
    · exact .inr (by omega)
theorem ratified_up {b : Book} {i c d : Nat} (hcd : c ≤ d) (hn : ∀ e ∈ b.events, e.ratifies = false → c < e.day + b.treaty.notice → d < e.day + b.treaty.notice) (h : b.ratified i c = true) : b.ratified i d = true := by
  rw [ratified_is] at h ⊢
  cases hl : lastOf b i d with
  | none =>
    exfalso
    cases hc : lastOf b i c with
    | none => rw [hc] at h; cases h
    | some e =>
      obtain ⟨hm, hs, hd⟩ := lastOf_mem hc
      have := List.getLast?_eq_none_iff.mp hl
      rw [List.filter_eq_nil_iff] at this
      refine this e hm ?_
      rw [Bool.and_eq_true, decide_eq_true_eq]
      exact ⟨by rw [hs]; exact beq_self_eq_true i, by omega⟩
  | some e =>
    obtain ⟨hm, _, hd⟩ := lastOf_mem hl
    show (e.ratifies || decide (d < e.day + b.treaty.notice)) = true
    cases hr : e.ratifies with
    | true => rfl
    | false =>
      rw [Bool.false_or, decide_eq_true_eq]
      refine hn e hm hr ?_
      rcases Nat.lt_or_ge c e.day with q | q
      · omega
      · rw [lastOf_earlier hcd hl q] at h
        have h : (e.ratifies || decide (c < e.day + b.treaty.notice)) = true := h
        rw [hr, Bool.false_or, decide_eq_true_eq] at h
        exact h
theorem filter_len_mono {l : List Nat} {p q : Nat → Bool} (h : ∀ i ∈ l, p i = true → q i = true) : (l.filter p).length ≤ (l.filter q).length := by
  rw [← List.countP_eq_length_filter, ← List.countP_eq_length_filter]
  exact List.countP_mono_left h
theorem enough_down {b : Book} {c d : Nat} (hr : ∀ i, b.ratified i d = true → b.ratified i c = true) (h : b.enough d = true) : b.enough c = true := by
  unfold Book.enough at h ⊢
  rw [Bool.and_eq_true, decide_eq_true_eq, List.all_eq_true] at h ⊢
  refine ⟨Nat.le_trans h.1 (filter_len_mono fun i _ => hr i), fun i hi => ?_⟩
  have := h.2 i hi
  rw [Bool.or_eq_true] at this ⊢
  exact this.imp id (hr i)
/-- the first deed on whose day enough have ratified tells the first day -/
theorem first_deed {b : Book} (w : WF b) : Least b.enough ((b.events.map Event.day).find? b.enough) := by
  refine least_find w.ord fun d hd => ?_
  rcases last_le d (b.events.map Event.day) with h | ⟨c, hc, hcd, hm⟩
  · exfalso
    have h1 := enough_need hd
    have h2 := w.need1
    have : b.set d = [] := by
      unfold Book.set
      rw [List.filter_eq_nil_iff]
      intro i _ hr
      rw [ratified_is] at hr
      cases hl : lastOf b i d with
      | none => rw [hl] at hr; cases hr
      | some e =>
        obtain ⟨hm, _, hle⟩ := lastOf_mem hl
        have := h e.day (List.mem_map.mpr ⟨e, hm, rfl⟩)
        omega
    rw [this] at h1
    simp at h1; omega
  · refine ⟨c, hc, hcd, enough_down (d := d) (fun i hr => ratified_down hcd (fun e he hlt => ?_) hr) hd⟩
    rcases Nat.lt_or_ge d e.day with q | q
    · exact q
    · have := hm e.day (List.mem_map.mpr ⟨e, he, rfl⟩) q; omega
theorem from_first {b : Book} (w : WF b) : b.from_ = ((b.events.map Event.day).find? b.enough).map fun d => d + b.treaty.wait := from_of_least w.need1 (first_deed w)
/-- the days on which one is out -/
def outs (b : Book) : List Nat := (b.events.filter fun e => !e.ratifies).map fun e => e.day + b.treaty.notice
theorem end_sorted {b : Book} {f : Nat} (hf : b.from_ = some f) {l : List Nat} (hp : l.Pairwise (· ≤ ·)) (hl : ∀ x, x ∈ l ↔ x = f ∨ (x ∈ outs b ∧ f < x)) :
    b.ends = l.find? fun d => decide ((b.set d).length < b.treaty.floor) := by
  refine ends_of_least hf ?_
  rw [find_congr (Q := few b f) fun x hx => ?_]
  · refine least_find hp fun d hd => ?_
    unfold few at hd
    rw [Bool.and_eq_true, decide_eq_true_eq, decide_eq_true_eq] at hd
    rcases last_le d l with h | ⟨c, hc, hcd, hm⟩
    · have := h f ((hl f).mpr (.inl rfl)); omega
    · refine ⟨c, hc, hcd, ?_⟩
      have hfc : f ≤ c := hm f ((hl f).mpr (.inl rfl)) hd.1
      unfold few
      rw [Bool.and_eq_true, decide_eq_true_eq, decide_eq_true_eq]
      refine ⟨hfc, Nat.lt_of_le_of_lt ?_ hd.2⟩
      refine filter_len_mono fun i _ hr => ratified_up hcd (fun e he hr' hlt => ?_) hr
      rcases Nat.lt_or_ge d (e.day + b.treaty.notice) with q | q
      · exact q
      · have : e.day + b.treaty.notice ∈ outs b := List.mem_map.mpr ⟨e, List.mem_filter.mpr ⟨he, by rw [hr']; rfl⟩, rfl⟩
        have := hm _ ((hl _).mpr (.inr ⟨this, by omega⟩)) q
        omega
  · have hfx : f ≤ x := by
      rcases (hl x).mp hx with rfl | h
      · exact Nat.le_refl _
      · omega
    unfold few
    rw [decide_eq_true hfx, Bool.true_and]
end TF
set_option autoImplicit false
namespace TF
open Km479
/-! ### the list of calls, in parts -/
def widths : List Nat := [6, 2, 2, 0, 0, 2, 1, 1, 1, 1, 1, 2, 1, 1, 0, 1, 0, 0]
def intsOf (l : List Nat) : List Int := l.map fun (n : Nat) => (n : Int)
abbrev Part := Nat × List Nat
def rawOf (p : Part) : List (List Int) := [(p.1 : Int) :: intsOf p.2]
def flat (ps : List Part) : List Nat := ps.flatMap fun p => p.1 :: p.2
def Shaped (p : Part) : Prop := widths[p.1]? = some p.2.length
theorem shape_some {p : Int} {n k : Nat} (h : PyKm479.shape p = some (n, k)) : k = 0 ∧ ∃ j : Nat, p = (j : Int) ∧ widths[j]? = some n := by
  unfold PyKm479.shape at h
  have go : ∀ (j m : Nat), p = (j : Int) → some (m, 0) = some (n, k) → widths[j]? = some m → k = 0 ∧ ∃ j : Nat, p = (j : Int) ∧ widths[j]? = some n := fun j m e1 e2 e3 => by
    cases e2
    exact ⟨rfl, j, e1, e3⟩
  by_cases h0 : p = 0
  · rw [if_pos h0] at h
    exact go 0 _ h0 h rfl
  rw [if_neg h0] at h
  by_cases h1 : p = 1
  · rw [if_pos h1] at h
    exact go 1 _ h1 h rfl
  rw [if_neg h1] at h
  by_cases h2 : p = 2
  · rw [if_pos h2] at h
    exact go 2 _ h2 h rfl
  rw [if_neg h2] at h
  by_cases h3 : p = 3
  · rw [if_pos h3] at h
    exact go 3 _ h3 h rfl
  rw [if_neg h3] at h
  by_cases h4 : p = 4
  · rw [if_pos h4] at h
    exact go 4 _ h4 h rfl
  rw [if_neg h4] at h
  by_cases h5 : p = 5
  · rw [if_pos h5] at h
    exact go 5 _ h5 h rfl
  rw [if_neg h5] at h
  by_cases h6 : p = 6
  · rw [if_pos h6] at h
    exact go 6 _ h6 h rfl
  rw [if_neg h6] at h
  by_cases h7 : p = 7
  · rw [if_pos h7] at h
    exact go 7 _ h7 h rfl
  rw [if_neg h7] at h
  by_cases h8 : p = 8
  · rw [if_pos h8] at h
    exact go 8 _ h8 h rfl
  rw [if_neg h8] at h
  by_cases h9 : p = 9
  · rw [if_pos h9] at h
    exact go 9 _ h9 h rfl
  rw [if_neg h9] at h
  by_cases h10 : p = 10
  · rw [if_pos h10] at h
    exact go 10 _ h10 h rfl
  rw [if_neg h10] at h
  by_cases h11 : p = 11
  · rw [if_pos h11] at h
    exact go 11 _ h11 h rfl
  rw [if_neg h11] at h
  by_cases h12 : p = 12
  · rw [if_pos h12] at h
    exact go 12 _ h12 h rfl
  rw [if_neg h12] at h
  by_cases h13 : p = 13
  · rw [if_pos h13] at h
    exact go 13 _ h13 h rfl
  rw [if_neg h13] at h
  by_cases h14 : p = 14
  · rw [if_pos h14] at h
    exact go 14 _ h14 h rfl
  rw [if_neg h14] at h
  by_cases h15 : p = 15
  · rw [if_pos h15] at h
    exact go 15 _ h15 h rfl
  rw [if_neg h15] at h
  by_cases h16 : p = 16
  · rw [if_pos h16] at h
    exact go 16 _ h16 h rfl
  rw [if_neg h16] at h
  by_cases h17 : p = 17
  · rw [if_pos h17] at h
    exact go 17 _ h17 h rfl
  rw [if_neg h17] at h
  cases h
theorem calls_parts : ∀ (f : Nat) (ms : List Nat) (raw : List (List (List Int))), PyFlat.calls PyKm479.shape f (intsOf ms) = some raw → ∃ ps : List Part, raw = ps.map rawOf ∧ flat ps = ms ∧ ∀ p ∈ ps, Shaped p
  | _, [], raw, h => by
    have : raw = [] := by
      cases f : (0 : Nat) <;> (unfold PyFlat.calls at h; exact (Option.some.inj h).symm)
    exact ⟨[], this, rfl, fun _ h => nomatch h⟩
  | 0, m :: ms, raw, h => by
    unfold PyFlat.calls at h
    cases h
  | f + 1, m :: ms, raw, h => by
    have h : (match PyFlat.call PyKm479.shape ((m : Int) :: intsOf ms) with
      | none => none
      | some (c, t) => match PyFlat.calls PyKm479.shape f t with
        | none => none
        | some cs => some (c :: cs)) = some raw := h
    have hc : PyFlat.call PyKm479.shape ((m : Int) :: intsOf ms) = match PyKm479.shape (m : Int) with
      | none => none
      | some (n, k) => if (intsOf ms).length < n then none else match PyFlat.rows k ((intsOf ms).drop n) with
        | none => none
        | some (xs, t) => some (((m : Int) :: (intsOf ms).take n) :: xs, t) := rfl
    cases hs : PyKm479.shape (m : Int) with
    | none =>
      rw [hs] at hc
      rw [hc] at h
      cases h
    | some nk =>
      obtain ⟨n, k⟩ := nk
      rw [hs] at hc
      obtain ⟨rfl, j, ej, hw⟩ := shape_some hs
      have ej : m = j := by omega
      subst ej
      by_cases hl : (intsOf ms).length < n
      · have hc : _ = if (intsOf ms).length < n then none else _ := hc
        rw [if_pos hl] at hc
        rw [hc] at h
        cases h
      · have hc : PyFlat.call PyKm479.shape ((m : Int) :: intsOf ms) = if (intsOf ms).length < n then none else some ([(m : Int) :: (intsOf ms).take n], (intsOf ms).drop n) := hc
        rw [if_neg hl] at hc
        rw [hc] at h
        have h : (match PyFlat.calls PyKm479.shape f ((intsOf ms).drop n) with
          | none => none
          | some cs => some ([(m : Int) :: (intsOf ms).take n] :: cs)) = some raw := h
        have ed : (intsOf ms).drop n = intsOf (ms.drop n) := by unfold intsOf; rw [List.map_drop]
        have et : (intsOf ms).take n = intsOf (ms.take n) := by unfold intsOf; rw [List.map_take]
        cases hcs : PyFlat.calls PyKm479.shape f ((intsOf ms).drop n) with
        | none => rw [hcs] at h; cases h
        | some cs =>
          rw [hcs] at h
          have h := Option.some.inj h
          rw [ed] at hcs
          obtain ⟨ps, e1, e2, e3⟩ := calls_parts f (ms.drop n) cs hcs
          refine ⟨(m, ms.take n) :: ps, ?_, ?_, ?_⟩
          · rw [← h, e1, et]
            rfl
          · show (m :: ms.take n) ++ flat ps = m :: ms
            rw [e2, List.cons_append, List.take_append_drop]
          · intro p hp
            rcases List.mem_cons.mp hp with rfl | hp
            · show widths[m]? = some (ms.take n).length
              rw [hw, List.length_take]
              unfold intsOf at hl
              rw [List.length_map] at hl
              congr 1
              omega
            · exact e3 p hp
/-! ### which call a part is -/
def cStart : List Nat → Option Km479.Call
  | [n, k, s, w, v, f] => some (.start n k s w v f)
  | _ => none
def c1 (c : Nat → Km479.Call) : List Nat → Option Km479.Call
  | [i] => some (c i)
  | _ => none
def c2 (c : Nat → Nat → Km479.Call) : List Nat → Option Km479.Call
  | [i, d] => some (c i d)
  | _ => none
def c0 (c : Km479.Call) : List Nat → Option Km479.Call
  | [] => some c
  | _ => none
def callFns : List (List Nat → Option Km479.Call) :=
  [cStart, c2 .ratify, c2 .notice, c0 .day, c0 .ends, c2 .bound, c1 .parties, c1 .ratified, c1 .lacks, c1 .since, c1 .until_, c2 .would, c1 .fewest, c1 .days, c0 .most, c1 .event, c0 .back, c0 .state]
theorem len0 {xs : List Nat} (h : 0 = xs.length) : xs = [] := List.length_eq_zero_iff.mp h.symm
theorem len1 {xs : List Nat} (h : 1 = xs.length) : ∃ a, xs = [a] := by
  match xs, h with
  | [a], _ => exact ⟨a, rfl⟩
theorem len2 {xs : List Nat} (h : 2 = xs.length) : ∃ a b, xs = [a, b] := by
  match xs, h with
  | [a, b], _ => exact ⟨a, b, rfl⟩
theorem len6 {xs : List Nat} (h : 6 = xs.length) : ∃ a b c d e f, xs = [a, b, c, d, e, f] := by
  match xs, h with
  | [a, b, c, d, e, f], _ => exact ⟨a, b, c, d, e, f, rfl⟩
/-- the specification's call is the part's -/
theorem callOf_part {p : Part} (h : Shaped p) : ∃ fn c, callFns[p.1]? = some fn ∧ fn p.2 = some c ∧ Km479Neutral.callOf (PyKm479.whole (rawOf p)) = some c := by
  obtain ⟨j, xs⟩ := p
  have h : widths[j]? = some xs.length := h
  match j, h with
  | 0, h => obtain ⟨a, b, c, d, e, f, rfl⟩ := len6 (Option.some.inj h); exact ⟨_, _, rfl, rfl, rfl⟩
  | 1, h => obtain ⟨a, b, rfl⟩ := len2 (Option.some.inj h); exact ⟨_, _, rfl, rfl, rfl⟩
  | 2, h => obtain ⟨a, b, rfl⟩ := len2 (Option.some.inj h); exact ⟨_, _, rfl, rfl, rfl⟩
  | 3, h => obtain rfl := len0 (Option.some.inj h); exact ⟨_, _, rfl, rfl, rfl⟩
  | 4, h => obtain rfl := len0 (Option.some.inj h); exact ⟨_, _, rfl, rfl, rfl⟩
  | 5, h => obtain ⟨a, b, rfl⟩ := len2 (Option.some.inj h); exact ⟨_, _, rfl, rfl, rfl⟩
  | 6, h => obtain ⟨a, rfl⟩ := len1 (Option.some.inj h); exact ⟨_, _, rfl, rfl, rfl⟩
  | 7, h => obtain ⟨a, rfl⟩ := len1 (Option.some.inj h); exact ⟨_, _, rfl, rfl, rfl⟩
  | 8, h => obtain ⟨a, rfl⟩ := len1 (Option.some.inj h); exact ⟨_, _, rfl, rfl, rfl⟩
  | 9, h => obtain ⟨a, rfl⟩ := len1 (Option.some.inj h); exact ⟨_, _, rfl, rfl, rfl⟩
  | 10, h => obtain ⟨a, rfl⟩ := len1 (Option.some.inj h); exact ⟨_, _, rfl, rfl, rfl⟩
  | 11, h => obtain ⟨a, b, rfl⟩ := len2 (Option.some.inj h); exact ⟨_, _, rfl, rfl, rfl⟩
  | 12, h => obtain ⟨a, rfl⟩ := len1 (Option.some.inj h); exact ⟨_, _, rfl, rfl, rfl⟩
  | 13, h => obtain ⟨a, rfl⟩ := len1 (Option.some.inj h); exact ⟨_, _, rfl, rfl, rfl⟩
  | 14, h => obtain rfl := len0 (Option.some.inj h); exact ⟨_, _, rfl, rfl, rfl⟩
  | 15, h => obtain ⟨a, rfl⟩ := len1 (Option.some.inj h); exact ⟨_, _, rfl, rfl, rfl⟩
  | 16, h => obtain rfl := len0 (Option.some.inj h); exact ⟨_, _, rfl, rfl, rfl⟩
  | 17, h => obtain rfl := len0 (Option.some.inj h); exact ⟨_, _, rfl, rfl, rfl⟩
  | j + 18, h => exact absurd h (by unfold widths; simp)
theorem c1_some {c : Nat → Km479.Call} {xs : List Nat} {x : Km479.Call} (h : c1 c xs = some x) : ∃ i, xs = [i] ∧ x = c i := by
  match xs, h with
  | [i], h => exact ⟨i, rfl, (Option.some.inj h).symm⟩
theorem c2_some {c : Nat → Nat → Km479.Call} {xs : List Nat} {x : Km479.Call} (h : c2 c xs = some x) : ∃ i d, xs = [i, d] ∧ x = c i d := by
  match xs, h with
  | [i, d], h => exact ⟨i, d, rfl, (Option.some.inj h).symm⟩
theorem c0_some {c : Km479.Call} {xs : List Nat} {x : Km479.Call} (h : c0 c xs = some x) : xs = [] ∧ x = c := by
  match xs, h with
  | [], h => exact ⟨rfl, (Option.some.inj h).symm⟩
theorem cStart_some {xs : List Nat} {x : Km479.Call} (h : cStart xs = some x) : ∃ n k s w v f, xs = [n, k, s, w, v, f] ∧ x = .start n k s w v f := by
  match xs, h with
  | [n, k, s, w, v, f], h => exact ⟨n, k, s, w, v, f, rfl, (Option.some.inj h).symm⟩
/-! ### the book over the calls -/
/-- the book ahead of a start -/
def noBook : Book := ⟨⟨0, 0, 0, 0, 0, 0⟩, []⟩
def Rel : Km479Neutral.S → Book → Prop
  | none, b => b = noBook
  | some b', b => b' = b ∧ WF4 b
theorem wf_act {b : Book} (w : WF b) (c : Km479.Call) : WF (act b c).1 := by
  cases c with
  | start n k s v t f =>
    show WF (if okTreaty ⟨n, k, s, v, t, f⟩ = false then (b, only (-22)) else (⟨⟨n, k, s, v, t, f⟩, []⟩, only 0)).1
    by_cases h : okTreaty ⟨n, k, s, v, t, f⟩ = false
    · rw [if_pos h]; exact w
    · rw [if_neg h]; exact wf_start (by cases q : okTreaty ⟨n, k, s, v, t, f⟩ with | true => rfl | false => exact absurd q h)
  | ratify i d =>
    show WF (if b.treaty.n ≤ i then (b, only (-2)) else if LAST < d then (b, only (-22)) else if d < b.lastDay then (b, only (-13)) else if b.leaving i d = true then (b, only (-16)) else if b.ratified i d = true then (b, only (-17)) else if EVENTS ≤ b.events.length then (b, only (-28)) else ({ b with events := b.events ++ [⟨i, d, true⟩] }, _)).1
    repeat' (first | split | exact w)
    rename_i h1 h2 h3 _ _ h6
    exact wf_push w (by omega) (by show d ≤ LAST; omega) (by omega) (by show b.events.length < EVENTS; omega)
  | notice i d =>
    show WF (if b.treaty.n ≤ i then (b, only (-2)) else if LAST < d then (b, only (-22)) else if d < b.lastDay then (b, only (-13)) else if b.ratified i d = false then (b, only (-6)) else if b.leaving i d = true then (b, only (-17)) else if EVENTS ≤ b.events.length then (b, only (-28)) else ({ b with events := b.events ++ [⟨i, d, false⟩] }, _)).1
    repeat' (first | split | exact w)
    rename_i h1 h2 h3 _ _ h6
    exact wf_push w (by omega) (by show d ≤ LAST; omega) (by omega) (by show b.events.length < EVENTS; omega)
  | back =>
    show WF (match b.events with
      | [] => (b, only (-2))
      | _ => ({ b with events := b.events.dropLast }, only (n2i (b.events.length - 1)))).1
    split
    · exact w
    · exact wf_back w
  | day | ends | bound _ _ | parties _ | ratified _ | lacks _ | since _ | until_ _ | would _ _ | fewest _ | days _ | most | event _ | state => exact w
theorem len_act {b : Book} (w : b.events.length ≤ 24) (c : Km479.Call) : (act b c).1.events.length ≤ 24 := by
  cases c with
  | start n k s v t f =>
    show (if okTreaty ⟨n, k, s, v, t, f⟩ = false then (b, only (-22)) else (⟨⟨n, k, s, v, t, f⟩, []⟩, only 0)).1.events.length ≤ 24
    by_cases h : okTreaty ⟨n, k, s, v, t, f⟩ = false
    · rw [if_pos h]; exact w
    · rw [if_neg h]; exact Nat.zero_le _
  | ratify i d =>
    show (if b.treaty.n ≤ i then (b, only (-2)) else if LAST < d then (b, only (-22)) else if d < b.lastDay then (b, only (-13)) else if b.leaving i d = true then (b, only (-16)) else if b.ratified i d = true then (b, only (-17)) else if EVENTS ≤ b.events.length then (b, only (-28)) else ({ b with events := b.events ++ [⟨i, d, true⟩] }, _)).1.events.length ≤ 24
    repeat' (first | split | exact w)
    rename_i h1 h2 h3 _ _ h6
    have h6 : ¬ 24 ≤ b.events.length := h6
    show (b.events ++ _).length ≤ 24
    rw [List.length_append]
    simp; omega
  | notice i d =>
    show (if b.treaty.n ≤ i then (b, only (-2)) else if LAST < d then (b, only (-22)) else if d < b.lastDay then (b, only (-13)) else if b.ratified i d = false then (b, only (-6)) else if b.leaving i d = true then (b, only (-17)) else if EVENTS ≤ b.events.length then (b, only (-28)) else ({ b with events := b.events ++ [⟨i, d, false⟩] }, _)).1.events.length ≤ 24
    repeat' (first | split | exact w)
    rename_i h1 h2 h3 _ _ h6
    have h6 : ¬ 24 ≤ b.events.length := h6
    show (b.events ++ _).length ≤ 24
    rw [List.length_append]
    simp; omega
  | back =>
    show (match b.events with
      | [] => (b, only (-2))
      | _ => ({ b with events := b.events.dropLast }, only (n2i (b.events.length - 1)))).1.events.length ≤ 24
    split
    · exact w
    · show b.events.dropLast.length ≤ 24
      rw [List.length_dropLast]
      omega
  | day | ends | bound _ _ | parties _ | ratified _ | lacks _ | since _ | until_ _ | would _ _ | fewest _ | days _ | most | event _ | state => exact w
theorem step_some {b : Book} {c : List (List Int)} {x : Km479.Call} (h : Km479Neutral.callOf c = some x) : Km479Neutral.step (some b) c = (some (act b x).1, Km479Neutral.told (act b x).2) := by
  unfold Km479Neutral.step
  rw [h]
theorem isStart_same (x : Km479.Call) : Km479Neutral.isStart x = Km479.isStart x := by cases x <;> rfl
/-- one call: what is answered, and the book behind it -/
theorem step_rel {s : Km479Neutral.S} {b : Book} {c : List (List Int)} {x : Km479.Call} (r : Rel s b) (h : Km479Neutral.callOf c = some x) (hne : ((Km479Neutral.step s c).2.isEmpty) = false) :
    (Km479Neutral.step s c).2 = Km479Neutral.told (act b x).2 ∧ Rel (Km479Neutral.step s c).1 (act b x).1 ∧ (Km479.isStart x = false → WF4 b) := by
  cases s with
  | some b' =>
    obtain ⟨rfl, w⟩ := r
    rw [step_some h]
    exact ⟨rfl, ⟨rfl, wf_act w.1 x, len_act w.2 x⟩, fun _ => w⟩
  | none =>
    have r : b = noBook := r
    subst r
    have e : Km479Neutral.step none c = if Km479Neutral.isStart x = true then (if (Km479Neutral.told (act (fresh ⟨1, 1, 0, 0, 1, 0⟩) x).2).headD 0 < 0 then none else some (act (fresh ⟨1, 1, 0, 0, 1, 0⟩) x).1, Km479Neutral.told (act (fresh ⟨1, 1, 0, 0, 1, 0⟩) x).2) else (none, []) := by
      unfold Km479Neutral.step
      rw [h]
    cases x with
    | start n k t v u f =>
      have e : Km479Neutral.step none c = (if (Km479Neutral.told (act (fresh ⟨1, 1, 0, 0, 1, 0⟩) (.start n k t v u f)).2).headD 0 < 0 then none else some (act (fresh ⟨1, 1, 0, 0, 1, 0⟩) (.start n k t v u f)).1, Km479Neutral.told (act (fresh ⟨1, 1, 0, 0, 1, 0⟩) (.start n k t v u f)).2) := e
      refine ⟨?_, ?_, fun q => by cases q⟩
      all_goals rw [e]
      all_goals have a1 : ∀ d : Book, act d (.start n k t v u f) = if okTreaty ⟨n, k, t, v, u, f⟩ = false then (d, only (-22)) else (⟨⟨n, k, t, v, u, f⟩, []⟩, only 0) := fun _ => rfl
      all_goals rw [a1, a1]
      all_goals by_cases hk : okTreaty ⟨n, k, t, v, u, f⟩ = false
      · rw [if_pos hk, if_pos hk]
      · rw [if_neg hk, if_neg hk]
      · rw [if_pos hk, if_pos hk]
        rfl
      · rw [if_neg hk, if_neg hk]
        exact ⟨rfl, wf_start (by cases q : okTreaty ⟨n, k, t, v, u, f⟩ with | true => rfl | false => exact absurd q hk), Nat.zero_le _⟩
    | ratify _ _ | notice _ _ | day | ends | bound _ _ | parties _ | ratified _ | lacks _ | since _ | until_ _ | would _ _ | fewest _ | days _ | most | event _ | back | state =>
      have e : Km479Neutral.step none c = (none, []) := e
      rw [e] at hne
      cases hne
/-! ### a line of calls -/
def after (s : Km479Neutral.S) : List (List (List Int)) → Km479Neutral.S
  | [] => s
  | c :: l => after (Km479Neutral.step s c).1 l
theorem after_snoc (c : List (List Int)) : ∀ (l : List (List (List Int))) (s : Km479Neutral.S), after s (l ++ [c]) = (Km479Neutral.step (after s l) c).1
  | [], _ => rfl
  | _ :: l, s => after_snoc c l _
theorem played_snoc (c : List (List Int)) : ∀ (l : List (List (List Int))) (s : Km479Neutral.S), PyFlat.played Km479Neutral.step s (l ++ [c]) = PyFlat.played Km479Neutral.step s l ++ [(Km479Neutral.step (after s l) c).2]
  | [], _ => rfl
  | x :: l, s => by
    show (Km479Neutral.step s x).2 :: PyFlat.played Km479Neutral.step (Km479Neutral.step s x).1 (l ++ [c]) = _
    rw [played_snoc c l]
    rfl
theorem told_append (l r : List (List Int)) : PyFlat.told (l ++ r) = PyFlat.told l ++ PyFlat.told r := List.flatMap_append
theorem told_one (a : List Int) : PyFlat.told [a] = (a.length : Int) :: a := by
  unfold PyFlat.told
  simp
theorem may_at {c : List (List Int)} : ∀ {l : List (List (List Int))} {s : Km479Neutral.S} {j : Nat}, Km479Neutral.may s l = true → l[j]? = some c → (Km479Neutral.step (after s (l.take j)) c).2.isEmpty = false
  | x :: l, s, 0, h, hc => by
    have e : x = c := Option.some.inj hc
    subst e
    have h : (!((Km479Neutral.step s x).2.isEmpty) && Km479Neutral.may (Km479Neutral.step s x).1 l) = true := h
    rw [Bool.and_eq_true, Bool.not_eq_true'] at h
    exact h.1
  | x :: l, s, j + 1, h, hc => by
    have h : (!((Km479Neutral.step s x).2.isEmpty) && Km479Neutral.may (Km479Neutral.step s x).1 l) = true := h
    rw [Bool.and_eq_true] at h
    exact may_at (l := l) h.2 hc
/-- what is told of the first calls is no longer than what is told of all -/
theorem played_take (l : List (List (List Int))) (s : Km479Neutral.S) (j : Nat) : (PyFlat.told (PyFlat.played Km479Neutral.step s (l.take j))).length ≤ (PyFlat.told (PyFlat.played Km479Neutral.step s l)).length := by
  have gen : ∀ (a b : List (List (List Int))) (s : Km479Neutral.S), (PyFlat.told (PyFlat.played Km479Neutral.step s a)).length ≤ (PyFlat.told (PyFlat.played Km479Neutral.step s (a ++ b))).length := by
    intro a
    induction a with
    | nil => intro b s; exact Nat.zero_le _
    | cons x a ih =>
      intro b s
      show (PyFlat.told ((Km479Neutral.step s x).2 :: PyFlat.played Km479Neutral.step (Km479Neutral.step s x).1 a)).length ≤ (PyFlat.told ((Km479Neutral.step s x).2 :: PyFlat.played Km479Neutral.step (Km479Neutral.step s x).1 (a ++ b))).length
      have h := ih b (Km479Neutral.step s x).1
      have e : ∀ (y : List Int) (r : List (List Int)), PyFlat.told (y :: r) = ((y.length : Int) :: y) ++ PyFlat.told r := fun y r => rfl
      rw [e, e, List.length_append, List.length_append]
      omega
  have := gen (l.take j) (l.drop j) s
  rw [List.take_append_drop] at this
  exact this
/-- WHAT IS ASKED, read: the list is parts, each of its call's form; each may come when it comes; what is due is what is played -/
theorem asked_parts {ms : List Nat} (h : PyKm479.answers_asked (intsOf ms) = true) : ∃ ps : List Part, flat ps = ms ∧ (∀ p ∈ ps, Shaped p) ∧ Km479Neutral.may Km479Neutral.start (ps.map fun p => PyKm479.whole (rawOf p)) = true ∧
    PyKm479.answers (intsOf ms) = PyFlat.told (PyFlat.played Km479Neutral.step Km479Neutral.start (ps.map fun p => PyKm479.whole (rawOf p))) ∧ (PyKm479.answers (intsOf ms)).length ≤ 10000000 ∧ ps.length ≤ 1000 := by
  unfold PyKm479.answers_asked at h
  cases hr : PyFlat.calls PyKm479.shape (intsOf ms).length (intsOf ms) with
  | none => rw [hr] at h; cases h
  | some raw =>
    rw [hr] at h
    have h : (!raw.isEmpty && PyFlat.atMost 1000 raw && PyInside.calls PyKm479.bound raw && Km479Neutral.asked (raw.map PyKm479.whole) && PyFlat.short 10000000 (PyKm479.answers (intsOf ms))) = true := h
    rw [Bool.and_eq_true, Bool.and_eq_true, Bool.and_eq_true, Bool.and_eq_true] at h
    obtain ⟨⟨⟨⟨_, h1⟩, _⟩, h2⟩, h3⟩ := h
    obtain ⟨ps, rfl, e2, e3⟩ := calls_parts _ _ _ hr
    have em : (ps.map rawOf).map PyKm479.whole = ps.map fun p => PyKm479.whole (rawOf p) := by rw [List.map_map]; rfl
    refine ⟨ps, e2, e3, ?_, ?_, of_decide_eq_true h3, ?_⟩
    · unfold Km479Neutral.asked at h2
      rw [Bool.and_eq_true, Bool.and_eq_true, Bool.and_eq_true, em] at h2
      exact h2.2.2.2
    · unfold PyKm479.answers PyKm479.calls
      rw [hr]
      show PyFlat.told (PyFlat.played Km479Neutral.step Km479Neutral.start ((ps.map rawOf).map PyKm479.whole)) = _
      rw [em]
    · have := of_decide_eq_true h1
      rw [List.length_map] at this
      exact this
end TF
set_option autoImplicit false
namespace TF
open Km479
/-! ### the last that each state did, deed by deed -/
def lastTo (b : Book) (d j i : Nat) : Option Event := ((b.events.take j).filter fun e => e.state == i && decide (e.day ≤ d)).getLast?
theorem lastTo_zero (b : Book) (d i : Nat) : lastTo b d 0 i = none := rfl
theorem lastTo_all (b : Book) (d i : Nat) : lastTo b d b.events.length i = lastOf b i d := by
  unfold lastTo lastOf
  rw [List.take_length]
theorem takes_snoc {α : Type} : ∀ {l : List α} {i : Nat} {x : α}, l[i]? = some x → l.take (i + 1) = l.take i ++ [x]
  | [], i, x, h => by simp at h
  | a :: l, 0, x, h => by
    have e : a = x := Option.some.inj h
    subst e
    rfl
  | a :: l, i + 1, x, h => by
    have ih := takes_snoc (l := l) (i := i) (x := x) h
    show a :: l.take (i + 1) = a :: l.take i ++ [x]
    rw [ih]
    rfl
theorem lastTo_succ {b : Book} {d j : Nat} {e : Event} (he : b.events[j]? = some e) (i : Nat) : lastTo b d (j + 1) i = if (e.state = i ∧ e.day ≤ d) then some e else lastTo b d j i := by
  unfold lastTo
  rw [takes_snoc he, last_snoc]
  by_cases h : e.state = i ∧ e.day ≤ d
  · rw [if_pos h, if_pos (by rw [Bool.and_eq_true, beq_iff_eq, decide_eq_true_eq]; exact h)]
  · rw [if_neg h, if_neg (by rw [Bool.and_eq_true, beq_iff_eq, decide_eq_true_eq]; exact h)]
/-! ### rows: the days on which who is bound may change, in their order, some of them more than once -/
structure RowDays (b : Book) (L : List Nat) : Prop where
  pw : L.Pairwise (· ≤ ·)
  mem : ∀ x, x ∈ L ↔ x ∈ b.all
theorem mem_parties {b : Book} {i d : Nat} (hi : i < b.treaty.n) : decide (i ∈ b.parties d) = b.bound i d := by
  rw [Bool.eq_iff_iff, decide_eq_true_eq]
  unfold Book.parties
  rw [List.mem_filter, List.mem_range]
  exact ⟨fun h => h.2, fun h => ⟨hi, h⟩⟩
theorem since_rows {b : Book} {L : List Nat} (r : RowDays b L) {i : Nat} (hi : i < b.treaty.n) : L.find? (fun d => decide (i ∈ b.parties d)) = b.since i := by
  have e : L.find? (fun d => decide (i ∈ b.parties d)) = L.find? (b.bound i) := find_congr fun x _ => mem_parties hi
  rw [e]
  refine Least.uniq (least_find r.pw fun d hd => ?_) (least_since b i)
  rcases quietA_at b d with h | ⟨c, hc, hcd, q⟩
  · rw [bound_before h] at hd; cases hd
  · exact ⟨c, (r.mem c).mpr hc, hcd, by rw [← bound_quiet hcd q]; exact hd⟩
theorem until_rows {b : Book} {L : List Nat} (r : RowDays b L) {i s : Nat} (hi : i < b.treaty.n) (hs : b.since i = some s) : L.find? (fun d => decide (s < d) && !decide (i ∈ b.parties d)) = b.until_ i := by
  have e : L.find? (fun d => decide (s < d) && !decide (i ∈ b.parties d)) = L.find? (unbound b i s) := find_congr fun x _ => by
    rw [mem_parties hi]
    rfl
  rw [e]
  refine Least.uniq (least_find r.pw fun d hd => ?_) (least_until hs)
  unfold unbound at hd
  rw [Bool.and_eq_true, decide_eq_true_eq] at hd
  have hb : b.bound i s = true := by have := least_since b i; rw [hs] at this; exact this.1
  have hsl : s ∈ b.all := by
    have := List.mem_of_find?_eq_some hs
    exact this
  rcases quietA_at b d with h | ⟨c, hc, hcd, q⟩
  · have := h s hsl; omega
  · refine ⟨c, (r.mem c).mpr hc, hcd, ?_⟩
    have hsc : s ≤ c := by
      rcases Nat.lt_or_ge c s with z | z
      · have := q s hsl z; omega
      · exact z
    have hq := bound_quiet (i := i) hcd q
    unfold unbound
    rw [Bool.and_eq_true, decide_eq_true_eq, ← hq]
    refine ⟨?_, hd.2⟩
    rcases Nat.lt_or_ge s c with z | z
    · exact z
    · have : c = s := by omega
      subst this
      rw [hb] at hq
      rw [hq] at hd
      cases hd.2
/-- how many days, row by row -/
def csum (P : Nat → Bool) (N : Nat) : List Nat → Nat
  | [] => 0
  | a :: l => (if P a = true then min (l.head?.getD (N + 1)) (N + 1) - min a (N + 1) else 0) + csum P N l
theorem csum_count {P : Nat → Bool} {N : Nat} : ∀ (l : List Nat) (a : Nat), (a :: l).Pairwise (· ≤ ·) →
    (∀ c d, c ∈ a :: l → c ≤ d → d ≤ N → (∀ x ∈ a :: l, c < x → d < x) → P d = P c) → csum P N (a :: l) = (List.range' (min a (N + 1)) (N + 1 - min a (N + 1))).countP P
  | [], a, _, hq => by
    have h := countP_const (P := P) (v := P a) (N + 1 - min a (N + 1)) (min a (N + 1)) fun d h1 h2 => hq a d List.mem_cons_self (by omega) (by omega) fun x hx hlt => by
      rcases List.mem_cons.mp hx with rfl | hx
      · omega
      · cases hx
    rw [h]
    show (if P a = true then min (N + 1) (N + 1) - min a (N + 1) else 0) + 0 = _
    rw [Nat.min_self, Nat.add_zero]
  | c :: l, a, hp, hq => by
    obtain ⟨h1, h2⟩ := List.pairwise_cons.mp hp
    have hac : a ≤ c := h1 c List.mem_cons_self
    have ih := csum_count (P := P) (N := N) l c h2 fun x d hx hxd hdN hz => by
      refine hq x d (List.mem_cons_of_mem _ hx) hxd hdN fun y hy hlt => ?_
      rcases List.mem_cons.mp hy with rfl | hy
      · have hcx : c ≤ x := by
          rcases List.mem_cons.mp hx with rfl | hx'
          · exact Nat.le_refl _
          · exact (List.pairwise_cons.mp h2).1 x hx'
        omega
      · exact hz y hy hlt
    show (if P a = true then min c (N + 1) - min a (N + 1) else 0) + csum P N (c :: l) = _
    rw [ih]
    have e : N + 1 - min a (N + 1) = (min c (N + 1) - min a (N + 1)) + (N + 1 - min c (N + 1)) := by omega
    rw [e, ← List.range'_append_1, List.countP_append]
    have e2 : min a (N + 1) + (min c (N + 1) - min a (N + 1)) = min c (N + 1) := by omega
    rw [e2]
    congr 1
    have h := countP_const (P := P) (v := P a) (min c (N + 1) - min a (N + 1)) (min a (N + 1)) fun d h3 h4 => by
      refine hq a d List.mem_cons_self (by omega) (by omega) fun x hx hlt => ?_
      rcases List.mem_cons.mp hx with rfl | hx
      · omega
      · have : c ≤ x := by
          rcases List.mem_cons.mp hx with rfl | hx'
          · exact Nat.le_refl _
          · exact (List.pairwise_cons.mp h2).1 x hx'
        omega
    rw [h]
theorem csum_congr {P P' : Nat → Bool} {N : Nat} : ∀ {l : List Nat}, (∀ x ∈ l, P x = P' x) → csum P N l = csum P' N l
  | [], _ => rfl
  | a :: l, h => by
    unfold csum
    rw [h a List.mem_cons_self, csum_congr fun x hx => h x (List.mem_cons_of_mem _ hx)]
theorem count_rows {b : Book} {L : List Nat} (r : RowDays b L) {i : Nat} (hi : i < b.treaty.n) : csum (fun d => decide (i ∈ b.parties d)) 10000 L = b.count i := by
  have e : csum (fun d => decide (i ∈ b.parties d)) 10000 L = csum (b.bound i) 10000 L := csum_congr fun x _ => mem_parties hi
  rw [e, count_eq]
  show _ = (List.range 10001).countP (b.bound i)
  cases L with
  | nil =>
    have h0 : ∀ d, b.bound i d = false := fun d => bound_before fun x hx => by have := (r.mem x).mpr hx; cases this
    have : (List.range 10001).countP (b.bound i) = 0 := by
      rw [List.countP_eq_zero]
      intro d _
      rw [h0 d]
      exact Bool.false_ne_true
    rw [this]
    rfl
  | cons a l =>
    rw [csum_count l a r.pw fun c d hc hcd _ hz => bound_quiet hcd fun x hx hlt => hz x ((r.mem x).mpr hx) hlt]
    rw [List.range_eq_range']
    have e1 : (10001 : Nat) = min a 10001 + (10001 - min a 10001) := by omega
    conv => rhs; rw [e1, ← List.range'_append_1, List.countP_append]
    have e2 : 0 + min a 10001 = min a 10001 := by omega
    rw [e2]
    have h := countP_const (P := b.bound i) (v := false) (min a 10001) 0 fun d _ h2 => bound_before fun x hx => by
      rcases List.mem_cons.mp ((r.mem x).mpr hx) with rfl | hx
      · omega
      · have := (List.pairwise_cons.mp r.pw).1 x hx
        omega
    rw [h]
    simp
theorem most_rows {b : Book} {L : List Nat} (r : RowDays b L) : first (fun x => (b.parties x).length) b.all = L.foldl (best fun x => (b.parties x).length) none :=
  most_of r.mem (first_most r.pw)
theorem best_self (f : Nat → Nat) (x : Nat) : best f (some x) x = some x := if_neg (Nat.lt_irrefl _)
theorem rows_nil {b : Book} {L : List Nat} (r : RowDays b L) (h : L = []) : b.events = [] := by
  cases he : b.events with
  | nil => rfl
  | cons e es =>
    have : e.day ∈ b.all := days_sub_all (day_mem (by rw [he]; exact List.mem_cons_self))
    have := (r.mem _).mpr this
    rw [h] at this
    cases this
theorem all_nil {b : Book} (h : b.events = []) : b.all = [] := by
  have hd : b.days = [] := by
    unfold Book.days
    rw [h]; rfl
  have hf : b.from_ = none := by
    unfold Book.from_
    rw [hd]; rfl
  unfold Book.all
  rw [hd, hf, ends_none hf]
  rfl
/-! ### if these ratified that day -/
def joined (b : Book) (J : List Nat) (d : Nat) : Book := { b with events := b.events ++ J.map fun i => ⟨i, d, true⟩ }
theorem with_joined (b : Book) (s d : Nat) : b.with_ s d = joined b ((List.range b.treaty.n).filter fun i => s.testBit i && !b.ratified i d) d := rfl
theorem wf_joined {b : Book} (w : WF4 b) {J : List Nat} {d : Nat} (hJ : ∀ i ∈ J, i < b.treaty.n) (hl : J.length ≤ 10) (hd : d ≤ 10000) (hlast : b.lastDay ≤ d) : WF (joined b J d) := by
  obtain ⟨w, h24⟩ := w
  refine ⟨w.n1, w.n10, w.need1, w.need, w.named, w.wait, w.notice1, w.notice, w.floor, ?_, ?_, ?_, ?_⟩
  · show (b.events ++ _).length ≤ 34
    rw [List.length_append, List.length_map]
    omega
  · show ((b.events ++ J.map fun i => (⟨i, d, true⟩ : Event)).map Event.day).Pairwise (· ≤ ·)
    rw [List.map_append, List.pairwise_append]
    refine ⟨w.ord, ?_, fun x hx y hy => ?_⟩
    · rw [List.map_map, List.pairwise_map]
      exact List.pairwise_of_forall fun x y => Nat.le_refl _
    · obtain ⟨e, he, rfl⟩ := List.mem_map.mp hx
      obtain ⟨e', he', rfl⟩ := List.mem_map.mp hy
      obtain ⟨i, _, rfl⟩ := List.mem_map.mp he'
      have := le_lastDay w e he
      show e.day ≤ d
      omega
  · intro e he
    rcases List.mem_append.mp he with h | h
    · exact w.st e h
    · obtain ⟨i, hi, rfl⟩ := List.mem_map.mp h
      exact hJ i hi
  · intro e he
    rcases List.mem_append.mp he with h | h
    · exact w.dy e h
    · obtain ⟨i, hi, rfl⟩ := List.mem_map.mp h
      exact hd
theorem filter_joined {J : List Nat} {i d : Nat} : ((J.map fun k => (⟨k, d, true⟩ : Event)).filter fun e => e.state == i && decide (e.day ≤ d)) = (J.filter fun k => k == i).map fun k => ⟨k, d, true⟩ := by
  induction J with
  | nil => rfl
  | cons a J ih =>
    have e0 : decide (d ≤ d) = true := decide_eq_true (Nat.le_refl _)
    rw [List.map_cons, List.filter_cons, List.filter_cons, ih]
    show (if (a == i && decide (d ≤ d)) = true then _ else _) = _
    rw [e0, Bool.and_true]
    by_cases h : (a == i) = true
    · rw [if_pos h, if_pos h]; rfl
    · rw [if_neg h, if_neg h]
theorem ratified_joined (b : Book) (J : List Nat) (i d : Nat) : (joined b J d).ratified i d = (decide (i ∈ J) || b.ratified i d) := by
  have e : lastOf (joined b J d) i d = if i ∈ J then some ⟨i, d, true⟩ else lastOf b i d := by
    unfold lastOf joined
    show ((b.events ++ _).filter _).getLast? = _
    rw [List.filter_append, filter_joined]
    by_cases h : i ∈ J
    · rw [if_pos h]
      have hne : (J.filter fun k => k == i) ≠ [] := by
        intro z
        rw [List.filter_eq_nil_iff] at z
        exact z i h (beq_self_eq_true i)
      rcases List.eq_nil_or_concat (J.filter fun k => k == i) with z | ⟨pre, x, z⟩
      · exact absurd z hne
      · rw [List.concat_eq_append] at z
        have hx : x = i := by
          have : x ∈ J.filter fun k => k == i := by rw [z]; simp
          exact eq_of_beq (List.mem_filter.mp this).2
        rw [z, List.map_append, List.getLast?_append, hx]
        simp
    · rw [if_neg h]
      have : (J.filter fun k => k == i) = [] := by
        rw [List.filter_eq_nil_iff]
        intro x hx z
        exact h (eq_of_beq z ▸ hx)
      rw [this, List.map_nil, List.append_nil]
  rw [ratified_is, e]
  by_cases h : i ∈ J
  · rw [if_pos h, decide_eq_true h]; rfl
  · rw [if_neg h, decide_eq_false h, Bool.false_or]
    rfl
/-! ### the fewest -/
theorem bits_cat (l m : List Nat) : bits (l ++ m) = bits l + bits m := by
  unfold bits
  rw [List.map_append, List.foldl_append, foldl_add]
theorem cntR_split (p q : Nat → Bool) : ∀ (n : Nat), cntR n (fun i => p i && q i) + cntR n (fun i => p i && !q i) = cntR n p
  | 0 => rfl
  | n + 1 => by
    have ih := cntR_split p q n
    rw [cntR_succ, cntR_succ, cntR_succ, ← ih]
    cases p n <;> cases q n <;> simp <;> omega
theorem cntR_congr {n : Nat} {p q : Nat → Bool} (h : ∀ i, i < n → p i = q i) : cntR n p = cntR n q := by
  unfold cntR
  rw [List.filter_congr fun i hi => h i (List.mem_range.mp hi)]
theorem cntR_mono {n : Nat} {p q : Nat → Bool} (h : ∀ i, i < n → p i = true → q i = true) : cntR n p ≤ cntR n q :=
  filter_len_mono fun i hi => h i (List.mem_range.mp hi)
theorem range_filter_succ (p : Nat → Bool) (n : Nat) : (List.range (n + 1)).filter p = (List.range n).filter p ++ if p n = true then [n] else [] := by
  rw [List.range_succ, List.filter_append, List.filter_cons]
  by_cases h : p n = true
  · rw [if_pos h, if_pos h]; rfl
  · rw [if_neg h, if_neg h]; rfl
/-- the first m of those of p: a part of p -/
theorem take_pred (p : Nat → Bool) (m : Nat) : ∀ (n : Nat), ∃ q : Nat → Bool, ((List.range n).filter p).take m = (List.range n).filter q ∧ ∀ i, q i = true → p i = true ∧ i < n
  | 0 => ⟨fun _ => false, by simp, fun _ h => by cases h⟩
  | n + 1 => by
    obtain ⟨q, h1, h2⟩ := take_pred p m n
    by_cases hm : m ≤ ((List.range n).filter p).length
    · refine ⟨q, ?_, fun i hi => ⟨(h2 i hi).1, by have := (h2 i hi).2; omega⟩⟩
      rw [range_filter_succ, range_filter_succ, List.take_append_of_le_length hm, h1]
      have : ¬ q n = true := fun z => by have := (h2 n z).2; omega
      rw [if_neg this, List.append_nil]
    · refine ⟨fun i => p i && decide (i < n + 1), ?_, fun i hi => ?_⟩
      · have e : (List.range (n + 1)).filter (fun i => p i && decide (i < n + 1)) = (List.range (n + 1)).filter p := List.filter_congr fun i hi => by
          rw [decide_eq_true (List.mem_range.mp hi), Bool.and_true]
        rw [e, List.take_of_length_le]
        rw [range_filter_succ, List.length_append]
        by_cases hp : p n = true
        · rw [if_pos hp]; show _ + 1 ≤ m; omega
        · rw [if_neg hp]; show _ + 0 ≤ m; omega
      · have hi : (p i && decide (i < n + 1)) = true := hi
        rw [Bool.and_eq_true, decide_eq_true_eq] at hi
        exact hi
/-- the first of them make the least number -/
theorem few_least (p q : Nat → Bool) : ∀ (n : Nat), (∀ i, i < n → q i = true → p i = true) → bits (((List.range n).filter p).take (cntR n q)) ≤ bitsR n q
  | 0, _ => by simp [cntR, bitsR, bits]
  | n + 1, h => by
    have ih := few_least p q n fun i hi => h i (by omega)
    have hle : cntR n q ≤ ((List.range n).filter p).length := cntR_mono fun i hi => h i (by omega)
    rw [range_filter_succ, bitsR_succ]
    by_cases hq : q n = true
    · have hp := h n (Nat.lt_succ_self n) hq
      rw [if_pos hp, if_pos hq]
      rcases Nat.lt_or_ge (cntR n q) ((List.range n).filter p).length with hlt | hge
      · have e : cntR (n + 1) q = cntR n q + 1 := by rw [cntR_succ, if_pos hq]
        rw [e, List.take_append_of_le_length hlt]
        obtain ⟨r, hr, _⟩ := take_pred p (cntR n q + 1) n
        rw [hr]
        have := bitsR_lt r n
        unfold bitsR at this
        omega
      · have e : cntR (n + 1) q = ((List.range n).filter p ++ [n]).length := by
          rw [cntR_succ, if_pos hq, List.length_append]
          show _ = _ + 1
          omega
        rw [e, List.take_length, bits_append]
        have e2 : cntR n q = ((List.range n).filter p).length := by omega
        rw [e2, List.take_length] at ih
        omega
    · have e : cntR (n + 1) q = cntR n q := by rw [cntR_succ, if_neg hq, Nat.add_zero]
      rw [e, if_neg hq, Nat.add_zero, List.take_append_of_le_length hle]
      exact ih
section
variable (b : Book) (d : Nat)
def lackOf : List Nat := (List.range b.treaty.n).filter fun i => !b.ratified i d
def namedOf : List Nat := (lackOf b d).filter b.treaty.named.testBit
def othersOf : List Nat := (lackOf b d).filter fun i => !b.treaty.named.testBit i
def moreOf : Nat := b.treaty.need - (b.set d).length - (namedOf b d).length
def fewOf : List Nat := namedOf b d ++ (othersOf b d).take (moreOf b d)
theorem namedOf_is : namedOf b d = (List.range b.treaty.n).filter fun i => !b.ratified i d && b.treaty.named.testBit i := by
  unfold namedOf lackOf
  rw [List.filter_filter]
  exact List.filter_congr fun i _ => Bool.and_comm _ _
theorem othersOf_is : othersOf b d = (List.range b.treaty.n).filter fun i => !b.ratified i d && !b.treaty.named.testBit i := by
  unfold othersOf lackOf
  rw [List.filter_filter]
  exact List.filter_congr fun i _ => Bool.and_comm _ _
end
/-- what will do -/
theorem okSet_iff {b : Book} {d s : Nat} : okSet b d s = true ↔ (∀ i, i < b.treaty.n → s.testBit i = true → b.ratified i d = false) ∧
    b.treaty.need ≤ (b.set d).length + size b.treaty.n s ∧ ∀ i, i < b.treaty.n → b.treaty.named.testBit i = true → s.testBit i = true ∨ b.ratified i d = true := by
  have hdis : ((List.range b.treaty.n).all fun i => !s.testBit i || !b.ratified i d) = true ↔ ∀ i, i < b.treaty.n → s.testBit i = true → b.ratified i d = false := by
    rw [List.all_eq_true]
    constructor
    · intro h i hi hs
      have := h i (List.mem_range.mpr hi)
      rw [hs] at this
      simpa using this
    · intro h i hi
      have := h i (List.mem_range.mp hi)
      cases hs : s.testBit i with
      | false => rfl
      | true => rw [this hs]; rfl
  unfold okSet
  rw [Bool.and_eq_true, hdis]
  refine and_congr_right fun hd => ?_
  have hr : ∀ i, i < b.treaty.n → (b.with_ s d).ratified i d = (s.testBit i || b.ratified i d) := fun i hi => by
    rw [with_joined, ratified_joined]
    have : decide (i ∈ (List.range b.treaty.n).filter fun i => s.testBit i && !b.ratified i d) = s.testBit i := by
      rw [Bool.eq_iff_iff, decide_eq_true_eq, List.mem_filter, List.mem_range]
      constructor
      · intro h
        rw [Bool.and_eq_true] at h
        exact h.2.1
      · intro h
        rw [h, hd i hi h]
        exact ⟨hi, rfl⟩
    rw [this]
  have hset : ((b.with_ s d).set d).length = (b.set d).length + size b.treaty.n s := by
    show cntR b.treaty.n (fun i => (b.with_ s d).ratified i d) = cntR b.treaty.n (fun i => b.ratified i d) + cntR b.treaty.n s.testBit
    rw [← cntR_split (fun i => (b.with_ s d).ratified i d) s.testBit, Nat.add_comm]
    congr 1
    · refine cntR_congr fun i hi => ?_
      rw [hr i hi]
      cases hs : s.testBit i with
      | false => simp
      | true => rw [hd i hi hs]; rfl
    · refine cntR_congr fun i hi => ?_
      rw [hr i hi]
      cases s.testBit i <;> simp
  unfold Book.enough
  rw [Bool.and_eq_true, decide_eq_true_eq, hset]
  refine and_congr Iff.rfl ?_
  rw [List.all_eq_true]
  constructor
  · intro h i hi hn
    have := h i (List.mem_range.mpr hi)
    rw [hr i hi] at this
    have hn' : (b.with_ s d).treaty.named.testBit i = true := hn
    rw [hn', Bool.not_true, Bool.false_or, Bool.or_eq_true] at this
    exact this
  · intro h i hi
    have hi := List.mem_range.mp hi
    rw [hr i hi]
    cases hn : b.treaty.named.testBit i with
    | false =>
      have hn' : (b.with_ s d).treaty.named.testBit i = false := hn
      rw [hn']; rfl
    | true =>
      have hn' : (b.with_ s d).treaty.named.testBit i = true := hn
      rw [hn', Bool.not_true, Bool.false_or, Bool.or_eq_true]
      exact h i hi hn
/-- **the fewest**: the named that lack, and the first of the others -/
theorem fewest_few {b : Book} (w : WF b) (d : Nat) : b.fewest d = some (bits (fewOf b d)) ∧ size b.treaty.n (bits (fewOf b d)) = (fewOf b d).length := by
  let n := b.treaty.n
  let pN : Nat → Bool := fun i => !b.ratified i d && b.treaty.named.testBit i
  let pO : Nat → Bool := fun i => !b.ratified i d && !b.treaty.named.testBit i
  obtain ⟨q, hq1, hq2⟩ := take_pred pO (moreOf b d) n
  let S : Nat → Bool := fun i => pN i || q i
  have eF : fewOf b d = (List.range n).filter pN ++ (List.range n).filter q := by
    unfold fewOf
    rw [namedOf_is, othersOf_is]
    show (List.range n).filter pN ++ ((List.range n).filter pO).take (moreOf b d) = _
    rw [hq1]
  have hqn : ∀ i, q i = true → b.ratified i d = false ∧ b.treaty.named.testBit i = false := fun i hi => by
    have h1 : (!b.ratified i d && !b.treaty.named.testBit i) = true := (hq2 i hi).1
    simpa using h1
  have eN : ∀ i, i < n → (S i && b.treaty.named.testBit i) = pN i := fun i _ => by
    show ((pN i || q i) && b.treaty.named.testBit i) = pN i
    cases hq : q i with
    | false =>
      rw [Bool.or_false]
      show ((!b.ratified i d && b.treaty.named.testBit i) && b.treaty.named.testBit i) = (!b.ratified i d && b.treaty.named.testBit i)
      cases b.treaty.named.testBit i <;> simp
    | true =>
      rw [(hqn i hq).2]
      show _ = (!b.ratified i d && b.treaty.named.testBit i)
      rw [(hqn i hq).2]
      simp
  have eQ : ∀ i, i < n → (S i && !b.treaty.named.testBit i) = q i := fun i _ => by
    show ((pN i || q i) && !b.treaty.named.testBit i) = q i
    cases hq : q i with
    | true => rw [(hqn i hq).2]; simp
    | false =>
      rw [Bool.or_false]
      show ((!b.ratified i d && b.treaty.named.testBit i) && !b.treaty.named.testBit i) = false
      cases b.treaty.named.testBit i <;> simp
  have eB : bits (fewOf b d) = bitsR n S := by
    rw [eF, bits_cat, ← bitsR_split S b.treaty.named.testBit n]
    show bitsR n pN + bitsR n q = _
    rw [bitsR_congr (p := fun i => S i && b.treaty.named.testBit i) (q := pN) eN, bitsR_congr (p := fun i => S i && !b.treaty.named.testBit i) (q := q) eQ]
  have eL : (fewOf b d).length = cntR n S := by
    rw [eF, List.length_append, ← cntR_split S b.treaty.named.testBit n]
    show cntR n pN + cntR n q = _
    rw [cntR_congr (p := fun i => S i && b.treaty.named.testBit i) (q := pN) eN, cntR_congr (p := fun i => S i && !b.treaty.named.testBit i) (q := q) eQ]
  have hsz : size n (bits (fewOf b d)) = (fewOf b d).length := by rw [eB, size_bitsR, eL]
  -- how many there are in all
  have hset : (b.set d).length = cntR n fun i => b.ratified i d := rfl
  have hall : cntR n (fun i => b.ratified i d) + cntR n (fun i => !b.ratified i d) = n := by
    have := cntR_split (fun _ => true) (fun i => b.ratified i d) n
    simp only [Bool.true_and] at this
    rw [this]
    unfold cntR
    rw [List.filter_eq_self.mpr fun _ _ => rfl, List.length_range]
  have hlack : cntR n pN + cntR n pO = cntR n fun i => !b.ratified i d := cntR_split (fun i => !b.ratified i d) b.treaty.named.testBit n
  have hmore : moreOf b d = b.treaty.need - (b.set d).length - cntR n pN := by
    unfold moreOf
    rw [namedOf_is]
    rfl
  have hcq : cntR n q = moreOf b d := by
    have : ((List.range n).filter q).length = min (moreOf b d) ((List.range n).filter pO).length := by rw [← hq1, List.length_take]
    have h1 : cntR n q = min (moreOf b d) (cntR n pO) := this
    have := w.need
    have hn : b.treaty.need ≤ n := w.need
    omega
  have hcS : cntR n S = cntR n pN + moreOf b d := by rw [← eL, eF, List.length_append]; show cntR n pN + cntR n q = _; rw [hcq]
  have hF : Fewest n (okSet b d) (some (bits (fewOf b d))) := by
    refine ⟨by rw [eB]; exact bitsR_lt S n, okSet_iff.mpr ⟨?_, ?_, ?_⟩, fun t ht hok => ?_⟩
    · intro i hi hs
      rw [eB, testBit_bitsR, Bool.and_eq_true] at hs
      have h2 : (pN i || q i) = true := hs.2
      rw [Bool.or_eq_true] at h2
      rcases h2 with h2 | h2
      · have h2 : (!b.ratified i d && b.treaty.named.testBit i) = true := h2
        rw [Bool.and_eq_true] at h2
        simpa using h2.1
      · exact (hqn i h2).1
    · rw [show size b.treaty.n (bits (fewOf b d)) = _ from hsz, eL, hcS]
      omega
    · intro i hi hn
      cases hr : b.ratified i d with
      | true => exact .inr rfl
      | false =>
        refine .inl ?_
        rw [eB, testBit_bitsR, decide_eq_true (show i < n from hi), Bool.true_and]
        show ((!b.ratified i d && b.treaty.named.testBit i) || q i) = true
        rw [hr, hn]; rfl
    · obtain ⟨t1, t2, t3⟩ := okSet_iff.mp hok
      have tN : ∀ i, i < n → (t.testBit i && b.treaty.named.testBit i) = pN i := fun i hi => by
        show _ = (!b.ratified i d && b.treaty.named.testBit i)
        cases hn : b.treaty.named.testBit i with
        | false => simp
        | true =>
          rw [Bool.and_true, Bool.and_true]
          cases hr : b.ratified i d with
          | false =>
            rcases t3 i hi hn with z | z
            · rw [z]; rfl
            · rw [hr] at z; cases z
          | true =>
            cases hs : t.testBit i with
            | false => rfl
            | true => have := t1 i hi hs; rw [hr] at this; cases this
      have tc : cntR n t.testBit = cntR n pN + cntR n (fun i => t.testBit i && !b.treaty.named.testBit i) := by
        rw [← cntR_split t.testBit b.treaty.named.testBit n, cntR_congr (p := fun i => t.testBit i && b.treaty.named.testBit i) (q := pN) tN]
      have t2 : b.treaty.need ≤ (b.set d).length + cntR n t.testBit := t2
      show size n (bits (fewOf b d)) < cntR n t.testBit ∨ (size n (bits (fewOf b d)) = cntR n t.testBit ∧ bits (fewOf b d) ≤ t)
      rw [hsz, eL, hcS]
      rcases Nat.lt_or_ge (cntR n pN + moreOf b d) (cntR n t.testBit) with hlt | hge
      · exact .inl hlt
      · have heq : cntR n pN + moreOf b d = cntR n t.testBit := by omega
        refine .inr ⟨heq, ?_⟩
        have hm : cntR n (fun i => t.testBit i && !b.treaty.named.testBit i) = moreOf b d := by omega
        have hl := few_least pO (fun i => t.testBit i && !b.treaty.named.testBit i) n fun i hi hz => by
          rw [Bool.and_eq_true] at hz
          show (!b.ratified i d && !b.treaty.named.testBit i) = true
          rw [hz.2, t1 i hi hz.1]; rfl
        rw [hm, hq1] at hl
        have e1 : bitsR n t.testBit = t := bitsR_testBit ht
        rw [eF, bits_cat, ← e1, ← bitsR_split t.testBit b.treaty.named.testBit n, bitsR_congr (p := fun i => t.testBit i && b.treaty.named.testBit i) (q := pN) tN]
        exact Nat.add_le_add_left hl _
  exact ⟨Fewest.uniq (fewest_is b d) hF, hsz⟩
end TF
set_option Elab.async false
namespace TF
open PySem PySem.Spec PyProof.Rows L2
def top (i : Nat) : Stmt := PySem.Challenge.pw_treatyforce_s01_answers.main.body.getD i (.Pass ⟨0, 0, 0, 0⟩)
abbrev sDeedInit : Stmt := inClass (top 1) 0
abbrev sTreatyInit : Stmt := inClass (top 2) 0
abbrev sTermsOf : Stmt := top 3
abbrev sSetTerms : Stmt := top 4
abbrev sSetNumber : Stmt := top 5
abbrev sIsInSet : Stmt := top 6
abbrev sLastDay : Stmt := top 7
abbrev sLastDeeds : Stmt := top 8
abbrev sOutDay : Stmt := top 9
abbrev sIsNoticeRunning : Stmt := top 10
abbrev sCountsAsRatified : Stmt := top 11
abbrev sIsOnNotice : Stmt := top 12
abbrev sHasRatified : Stmt := top 13
abbrev sRatifiedStates : Stmt := top 14
abbrev sEnoughRatified : Stmt := top 15
abbrev sFirstEnoughDay : Stmt := top 16
abbrev sForceDay : Stmt := top 17
abbrev sOutDays : Stmt := top 18
abbrev sEndDay : Stmt := top 19
abbrev sIsWithin : Stmt := top 20
abbrev sBoundStates : Stmt := top 21
abbrev sRatifiedBesides : Stmt := top 22
abbrev sFewestLacking : Stmt := top 23
abbrev sChangeDays : Stmt := top 25
abbrev sBoundRows : Stmt := top 26
abbrev sFirstBoundDay : Stmt := top 27
abbrev sFirstFreeDay : Stmt := top 28
abbrev sCountBoundDays : Stmt := top 29
abbrev sFullestRow : Stmt := top 30
abbrev sAreTerms : Stmt := top 47
abbrev sFoStart : Stmt := top 48
abbrev sDayRefusal : Stmt := top 49
abbrev sDeedRefusal : Stmt := top 50
abbrev sFoRatify : Stmt := top 51
abbrev sFoNotice : Stmt := top 52
abbrev sFoDay : Stmt := top 53
abbrev sFoEnds : Stmt := top 54
abbrev sFoBound : Stmt := top 55
abbrev sFoParties : Stmt := top 56
abbrev sFoRatified : Stmt := top 57
abbrev sFoLacks : Stmt := top 58
abbrev sFoSince : Stmt := top 59
abbrev sFoUntil : Stmt := top 60
abbrev sWouldRefusal : Stmt := top 61
abbrev sFoWould : Stmt := top 62
abbrev sFoFewest : Stmt := top 63
abbrev sFoDays : Stmt := top 64
abbrev sFoMost : Stmt := top 65
abbrev sFoEvent : Stmt := top 66
abbrev sFoBack : Stmt := top 67
abbrev sFoState : Stmt := top 68
abbrev sSplitCalls : Stmt := top 71
abbrev sAnswers : Stmt := top 72
end TF
set_option Elab.async false
set_option maxRecDepth 100000
set_option maxHeartbeats 2000000
namespace TF
open PySem PySem.Spec PyProof.Rows L2
open PySem.W (Codec)
/-! ### what the layer lacks -/
theorem if_true_of {c : Bool} {A B : Prop} (hc : c = true) (h : A) : if c = true then A else B := by
  rw [if_pos hc]
  exact h
theorem if_false_of {c : Bool} {A B : Prop} (hc : c = false) (h : B) : if c = true then A else B := by
  rw [hc, if_neg Bool.false_ne_true]
  exact h
/-- a def of the top, by its name -/
def Def (P : Program) (w : World) (K : PySem.W.Frag) (mg : Str → Option Value) (base : Heap) (x : Str) (k : Nat) (ps : List Str) (sp : Sp) : Prop :=
  ∃ (f : Addr) (fd : FuncData), mg x = some (.ref f) ∧ PySem.W.keepIn K (.ref f) = true ∧ Binds K fd ps [] ∧ FnOk P w K mg base CX0 k f fd ps sp
theorem pe_D {X : Cx} {k j : Nat} {ps : List Str} {sp : Sp} {x : Str} {p pos : Pos} {e : Expr} {es : List Expr} {t : TA} (D : Def X.prog X.w X.K X.mg X.base x k ps sp) (hr : Room j X.A) (ha : PA X (e :: es) t) (hk : k ≤ j := by decide) (hg : Gl X x := by rfl)
    (hdb : (x == ("__debug__" : Str)) = false := by decide)
    (he : starEach (e :: es) X.env = (false, eval e X.env) :: starEach es X.env := by rfl) (hpl : (backTo pos (starEach es X.env)).any (·.1) = false := by rfl) :
    PE X (.Call (.Name x p) (e :: es) [] pos) (tCall sp [] E0 t) := by
  obtain ⟨f, fd, hm, hkp, hb, F⟩ := D
  exact pe_call F (hr.mono hk) hg hm hkp hb .nil pass0 ha (hdb := hdb) (he := he) (hpl := hpl)
theorem lk_here {k : Str} {v : V} {r : List (Str × V)} : List.lookup k ((k, v) :: r) = some v := by
  have e : (k == k) = true := beq_self_eq_true k
  simp only [List.lookup, e]
theorem lk_past {k g : Str} {v : V} {r : List (Str × V)} (h : (k == g) = false) : List.lookup k ((g, v) :: r) = List.lookup k r := by
  simp only [List.lookup, h]
theorem put_here {f : Str} {v x : V} {r : List (Str × V)} : putF f v ((f, x) :: r) = (f, v) :: r := if_pos rfl
theorem put_past {f g : Str} {v x : V} {r : List (Str × V)} (h : ¬ g = f) : putF f v ((g, x) :: r) = (g, x) :: putF f v r := if_neg h
theorem take_snoc {α : Type} : ∀ {l : List α} {i : Nat} {x : α}, l[i]? = some x → l.take (i + 1) = l.take i ++ [x]
  | [], i, x, h => by simp at h
  | a :: l, 0, x, h => by
    have e : a = x := Option.some.inj h
    subst e
    rfl
  | a :: l, i + 1, x, h => by
    have ih := take_snoc (l := l) (i := i) (x := x) h
    show a :: l.take (i + 1) = a :: l.take i ++ [x]
    rw [ih]
    rfl
theorem Same.upd {H H' : Hp} (s : Same H H') {p : Addr} {o : HO} (h : H' p = none) : Same H (upd H' p o) := fun b q e => by
  rw [upd_ne (ne_of_none (s _ _ e) h)]
  exact s _ _ e
/-- a new object p, made over H: all else as it was, p's content free to change -/
theorem Same.over {H H' : Hp} {p : Addr} {o : HO} (h : H p = none) (s : Same H H') : Same H (L2.upd H' p o) := fun b q e => by
  rw [upd_ne (ne_of_none e h)]
  exact s _ _ e
/-- numbers of states, days -/
def nV (n : Nat) : V := .int (n : Int)
def nsV (l : List Nat) : List V := l.map nV
theorem nsV_ints (l : List Nat) : nsV l = (l.map fun (n : Nat) => (n : Int)).map V.int := by
  unfold nsV
  rw [List.map_map]
  rfl
theorem nsV_get {l : List Nat} {i : Nat} {x : V} (h : (nsV l)[i]? = some x) : ∃ n, l[i]? = some n ∧ x = nV n := by
  unfold nsV at h
  rw [List.getElem?_map] at h
  cases e : l[i]? with
  | none => rw [e] at h; cases h
  | some n => rw [e] at h; exact ⟨n, rfl, (Option.some.inj h).symm⟩
theorem nsV_length (l : List Nat) : (nsV l).length = l.length := List.length_map _
theorem nsV_snoc (l : List Nat) (n : Nat) : nsV (l ++ [n]) = nsV l ++ [nV n] := List.map_append
/-! ### the objects -/
open Km479 (Treaty Book)
abbrev Ev := Km479.Event
def deedF (e : Ev) : List (Str × V) := [("state", nV e.state), ("day", nV e.day), ("ratified", .bl e.ratifies)]
def treF (t : Treaty) (l : Addr) : List (Str × V) := [("n", nV t.n), ("need", nV t.need), ("named", nV t.named), ("wait", nV t.wait), ("notice", nV t.notice), ("floor", nV t.floor), ("deeds", .ref l)]
theorem deedF_state (e : Ev) : (deedF e).lookup ("state" : Str) = some (nV e.state) := lk_here
theorem deedF_day (e : Ev) : (deedF e).lookup ("day" : Str) = some (nV e.day) := (lk_past (by decide +kernel)).trans lk_here
theorem deedF_rat (e : Ev) : (deedF e).lookup ("ratified" : Str) = some (.bl e.ratifies) := (lk_past (by decide +kernel)).trans ((lk_past (by decide +kernel)).trans lk_here)
section
variable (t : Treaty) (l : Addr)
theorem treF_n : (treF t l).lookup ("n" : Str) = some (nV t.n) := lk_here
theorem treF_need : (treF t l).lookup ("need" : Str) = some (nV t.need) := (lk_past (by decide +kernel)).trans lk_here
theorem treF_named : (treF t l).lookup ("named" : Str) = some (nV t.named) := (lk_past (by decide +kernel)).trans ((lk_past (by decide +kernel)).trans lk_here)
theorem treF_wait : (treF t l).lookup ("wait" : Str) = some (nV t.wait) := (lk_past (by decide +kernel)).trans ((lk_past (by decide +kernel)).trans ((lk_past (by decide +kernel)).trans lk_here))
theorem treF_notice : (treF t l).lookup ("notice" : Str) = some (nV t.notice) := (lk_past (by decide +kernel)).trans ((lk_past (by decide +kernel)).trans ((lk_past (by decide +kernel)).trans ((lk_past (by decide +kernel)).trans lk_here)))
theorem treF_floor : (treF t l).lookup ("floor" : Str) = some (nV t.floor) := (lk_past (by decide +kernel)).trans ((lk_past (by decide +kernel)).trans ((lk_past (by decide +kernel)).trans ((lk_past (by decide +kernel)).trans ((lk_past (by decide +kernel)).trans lk_here))))
theorem treF_deeds : (treF t l).lookup ("deeds" : Str) = some (.ref l) := (lk_past (by decide +kernel)).trans ((lk_past (by decide +kernel)).trans ((lk_past (by decide +kernel)).trans ((lk_past (by decide +kernel)).trans ((lk_past (by decide +kernel)).trans ((lk_past (by decide +kernel)).trans lk_here)))))
end
def DeedAt (CD : Addr) (H : Hp) (a : Addr) (e : Ev) : Prop := ∃ dx, H a = some (.ins CD dx (deedF e))
/-- the treaty at a, its deeds in the list l, at as -/
structure TrAt (CD CT : Addr) (H : Hp) (a l : Addr) (as : List Addr) (b : Book) : Prop where
  obj : ∃ dx, H a = some (.ins CT dx (treF b.treaty l))
  lst : H l = some (.lst (as.map V.ref))
  len : as.length = b.events.length
  at_ : ∀ (j : Nat) (c : Addr), as[j]? = some c → ∃ e, b.events[j]? = some e ∧ DeedAt CD H c e
/-- the book stands at a -/
def BkAt (CD CT : Addr) (H : Hp) (a : Addr) (b : Book) : Prop := ∃ l as, TrAt CD CT H a l as b
theorem DeedAt.same {CD : Addr} {H H' : Hp} {a : Addr} {e : Ev} (s : Same H H') (h : DeedAt CD H a e) : DeedAt CD H' a e := by
  obtain ⟨dx, h⟩ := h
  exact ⟨dx, s _ _ h⟩
theorem TrAt.same {CD CT : Addr} {H H' : Hp} {a l : Addr} {as : List Addr} {b : Book} (s : Same H H') (h : TrAt CD CT H a l as b) : TrAt CD CT H' a l as b := by
  obtain ⟨⟨dx, h1⟩, h2, h3, h4⟩ := h
  exact ⟨⟨dx, s _ _ h1⟩, s _ _ h2, h3, fun j c hc => by
    obtain ⟨e, he, hd⟩ := h4 j c hc
    exact ⟨e, he, hd.same s⟩⟩
theorem TrAt.item {CD CT : Addr} {H : Hp} {a l : Addr} {as : List Addr} {b : Book} (h : TrAt CD CT H a l as b) {j : Nat} {x : V} (hj : (as.map V.ref)[j]? = some x) : ∃ c e, x = .ref c ∧ b.events[j]? = some e ∧ DeedAt CD H c e := by
  rw [List.getElem?_map] at hj
  cases hc : as[j]? with
  | none => rw [hc] at hj; cases hj
  | some c =>
    rw [hc] at hj
    obtain ⟨e, he, hd⟩ := h.at_ j c hc
    exact ⟨c, e, (Option.some.inj hj).symm, he, hd⟩
theorem BkAt.same {CD CT : Addr} {H H' : Hp} {a : Addr} {b : Book} (s : Same H H') (h : BkAt CD CT H a b) : BkAt CD CT H' a b := by
  obtain ⟨l, as, h⟩ := h
  exact ⟨l, as, h.same s⟩
/-- what the top has written of the two classes -/
structure Txt (K : PySem.W.Frag) (CD CT : Addr) : Prop where
  clD : Cls K CD
  dS : NoAttr K CD "state"
  dD : NoAttr K CD "day"
  dR : NoAttr K CD "ratified"
  clT : Cls K CT
  tN : NoAttr K CT "n"
  tNeed : NoAttr K CT "need"
  tNamed : NoAttr K CT "named"
  tWait : NoAttr K CT "wait"
  tNotice : NoAttr K CT "notice"
  tFloor : NoAttr K CT "floor"
  tDeeds : NoAttr K CT "deeds"
end TF
set_option Elab.async false
set_option maxRecDepth 100000
set_option maxHeartbeats 2000000
namespace TF
open PySem PySem.Spec PyProof.Rows L2
open Km479 (Treaty Book)
/-! ### promises -/
/-- a treaty and a deed: the day on which the state is out -/
def spOutDay (CD CT : Addr) : Sp := fun vs H Q _ => ∃ (a c : Addr) (b : Book) (e : Ev), vs = [.ref a, .ref c] ∧ BkAt CD CT H a b ∧ DeedAt CD H c e ∧ Q (nV (e.day + b.treaty.notice)) H
def spLastDay (CD CT : Addr) : Sp := fun vs H Q _ => ∃ (a : Addr) (b : Book), vs = [.ref a] ∧ BkAt CD CT H a b ∧ Q (nV b.lastDay) H
/-- the address of a deed, or None -/
def LastAt (CD : Addr) (H : Hp) (o : Option Ev) : V → Prop := fun v => match o with
  | none => v = .non
  | some e => ∃ c, v = .ref c ∧ DeedAt CD H c e
theorem LastAt.same {CD : Addr} {H H' : Hp} {o : Option Ev} {v : V} (s : Same H H') (h : LastAt CD H o v) : LastAt CD H' o v := by
  cases o with
  | none => exact h
  | some e =>
    obtain ⟨c, hc, hd⟩ := h
    exact ⟨c, hc, hd.same s⟩
/-- a new list: of each state the last that it did by a day, or None -/
def spLastDeeds (CD CT : Addr) : Sp := fun vs H Q _ => ∃ (a : Addr) (b : Book) (d : Nat), vs = [.ref a, nV d] ∧ BkAt CD CT H a b ∧ WF b ∧
  ∀ (H' : Hp) (p : Addr) (ls : List V), Same H H' → H p = none → H' p = some (.lst ls) → ls.length = b.treaty.n → (∀ i v, ls[i]? = some v → LastAt CD H (lastOf b i d) v) → Q (.ref p) H'
def runsO (b : Book) (d : Nat) (o : Option Ev) : Bool := match o with
  | none => false
  | some e => !e.ratifies && decide (d < e.day + b.treaty.notice)
def countsO (b : Book) (d : Nat) (o : Option Ev) : Bool := match o with
  | none => false
  | some e => e.ratifies || decide (d < e.day + b.treaty.notice)
theorem leaving_o (b : Book) (i d : Nat) : b.leaving i d = runsO b d (lastOf b i d) := rfl
theorem ratified_o (b : Book) (i d : Nat) : b.ratified i d = countsO b d (lastOf b i d) := rfl
def spRuns (CD CT : Addr) : Sp := fun vs H Q _ => ∃ (a : Addr) (b : Book) (v : V) (d : Nat) (o : Option Ev), vs = [.ref a, v, nV d] ∧ BkAt CD CT H a b ∧ LastAt CD H o v ∧ Q (.bl (runsO b d o)) H
def spCounts (CD CT : Addr) : Sp := fun vs H Q _ => ∃ (a : Addr) (b : Book) (v : V) (d : Nat) (o : Option Ev), vs = [.ref a, v, nV d] ∧ BkAt CD CT H a b ∧ LastAt CD H o v ∧ Q (.bl (countsO b d o)) H
theorem ixN_nat {n k : Nat} (h : k < n) : ixN n (k : Int) = some k := by
  unfold ixN
  rw [if_pos (by omega), if_pos (by omega), Int.toNat_natCast]
section
variable {P : Program} {w : World} {K : PySem.W.Frag} {mg : Str → Option Value} {base : Heap} {CD CT : Addr}
theorem scOutDay : FnScope ["treaty", "deed"] ["treaty", "deed"] (defScope sOutDay) := ⟨rfl, rfl, rfl, by decide +kernel, rfl, by decide +kernel, by decide +kernel⟩
theorem ok_out_day {f : Addr} {fd : FuncData} (F : Fun K "out_day" "out_day" sOutDay f fd) (T : Txt K CD CT) : FnOk P w K mg base CX0 1 f fd ["treaty", "deed"] (spOutDay CD CT) := by
  refine F.ok scOutDay (fun vs H Q E h => ?_) (fun cdv A outer s H vs Q E hr h => ?_)
  · obtain ⟨a, c, b, e, rfl, _⟩ := h
    rfl
  · obtain ⟨a, c, b, e, rfl, ⟨l, as, ⟨dx, hT⟩, _⟩, ⟨dc, hD⟩, k⟩ := h
    refine ⟨_, pss_one (ps_ret (pe_op op_add (pe_fld (pv 1) rfl) (pe_fld (pv 0) rfl))), ?_⟩
    refine ⟨_, rfl, c, CD, dc, _, _, rfl, hD, T.clD, T.dD, deedF_day e, _, rfl, a, CT, dx, _, _, rfl, hT, T.clT, T.tNotice, treF_notice _ _, _, _, rfl, rfl, ?_⟩
    exact k
theorem scLastDay : FnScope ["treaty"] ["treaty"] (defScope sLastDay) := ⟨rfl, rfl, rfl, by decide +kernel, rfl, by decide +kernel, by decide +kernel⟩
theorem ok_last_day {f : Addr} {fd : FuncData} (F : Fun K "last_day" "last_day" sLastDay f fd) (T : Txt K CD CT) (mlen : mg "len" = none) : FnOk P w K mg base CX0 1 f fd ["treaty"] (spLastDay CD CT) := by
  refine F.ok scLastDay (fun vs H Q E h => ?_) (fun cdv A outer s H vs Q E hr h => ?_)
  · obtain ⟨a, b, rfl, _⟩ := h
    rfl
  · obtain ⟨a, b, rfl, ⟨l, as, ⟨dx, hT⟩, hl, hn, hat⟩, k⟩ := h
    refine ⟨_, pss_cons (ps_if (pt_cmpR op_eq (pe_callB call_len_seq (by rfl) mlen PySem.boot_len (pa_cons (pe_fld (pv 0) rfl) pa_nil)) pe_int (nomark _)) (pss_one (ps_ret pe_int)) pss_nil)
      (pss_one (ps_ret (pe_fld (pe_ix ix_list (pe_fld (pv 0) rfl) (pe_un un_neg pe_int) (fun _ _ => rfl)) rfl))), ?_⟩
    refine ⟨_, rfl, a, CT, dx, _, _, rfl, hT, T.clT, T.tDeeds, treF_deeds _ _, l, _, rfl, .inl (SqL.of hl), rfl, _, rfl, ?_⟩
    rw [List.length_map]
    rcases List.eq_nil_or_concat b.events with hb | ⟨es, e, hb⟩
    · have h0 : as.length = 0 := by rw [hn, hb]; rfl
      refine if_true_of (decide_eq_true (by rw [h0]; rfl)) ?_
      have e1 : b.lastDay = 0 := by rw [lastDay_is, hb]; rfl
      rw [e1] at k
      exact k
    · rw [List.concat_eq_append] at hb
      have h1 : as.length = es.length + 1 := by rw [hn, hb, List.length_append]; rfl
      refine if_false_of (decide_eq_false (by rw [h1]; intro z; injection z with z; omega)) ?_
      rcases List.eq_nil_or_concat as with ha | ⟨cs, c, ha⟩
      · rw [ha] at h1; simp at h1
      · rw [List.concat_eq_append] at ha
        have h2 : cs.length = es.length := by rw [ha, List.length_append] at h1; simpa using h1
        obtain ⟨e', he', dc, hc⟩ := hat es.length c (by rw [ha, ← h2]; simp)
        have e2 : e' = e := by rw [hb] at he'; simpa using he'.symm
        subst e2
        refine ⟨_, rfl, a, CT, dx, _, _, rfl, hT, T.clT, T.tDeeds, treF_deeds _ _, _, rfl, l, _, _, _, rfl, rfl, SqL.of hl, ?_, c, CD, dc, _, _, rfl, hc, T.clD, T.dD, deedF_day _, ?_⟩
        · rw [ha, List.map_append]
          exact atI_last _ _
        · have e1 : b.lastDay = e'.day := by rw [lastDay_is, hb, List.getLast?_append, List.getLast?_singleton]; rfl
          rw [e1] at k
          exact k
/-! ### the last deeds -/
theorem scLastDeeds : FnScope ["treaty", "d", "last", "deed", "i"] ["treaty", "d"] (defScope sLastDeeds) := ⟨rfl, rfl, rfl, by decide +kernel, rfl, by decide +kernel, by decide +kernel⟩
theorem ok_last_deeds {f : Addr} {fd : FuncData} (F : Fun K "last_deeds" "last_deeds" sLastDeeds f fd) (T : Txt K CD CT) (mrange : mg "range" = none) : FnOk P w K mg base CX0 1 f fd ["treaty", "d"] (spLastDeeds CD CT) := by
  refine F.ok scLastDeeds (fun vs H Q E h => ?_) (fun cdv A outer s H vs Q E hr h => ?_)
  · obtain ⟨a, b, d, rfl, _⟩ := h
    rfl
  · obtain ⟨a, b, d, rfl, hB, hw, k⟩ := h
    refine ⟨_, pss_cons (ps_setLc (i := 2) (own := [("i", 4)]) (g := gName 4) rfl scLastDeeds.nd rfl rfl (sw_true rfl rfl rfl (by decide +kernel)) (pi_range1 rfl mrange (pa_cons (pe_fld (pv 0) rfl) pa_nil)) (blkOk_by (own := [("i", 4)]) (N := ["treaty", "d", "last", "deed", "i"]) (sc := defScope sLastDeeds) (by decide +kernel)) (fun _ _ _ _ _ => pg_name (i := 4) scLastDeeds.nd rfl (Or.inl rfl)) (fun _ _ _ _ _ => pts_nil) (fun _ _ _ _ _ => pe_non))
      (pss_cons (ps_for PassesOwn.never rfl (pi_list (pe_fld (pv 0) rfl)) (pg_name (i := 3) scLastDeeds.nd rfl (Or.inl rfl)) (pss_one (ps_if (pt_cmp (pc_le (pe_fld (pv 3) rfl) (pv 1))) (pss_one (ps_asg (pv 3) (pg_sub (pv 2) (pe_fld (pv 3) rfl) set_list))) pss_nil)))
      (pss_one (ps_ret (pv 2)))), ?_⟩
    obtain ⟨l, as, hTr⟩ := id hB
    obtain ⟨dx, hT⟩ := hTr.obj
    have hl := hTr.lst
    refine ⟨_, rfl, a, CT, dx, _, _, rfl, hT, T.clT, T.tN, treF_n _ _, _, rfl, ?_, ?_, fun D hD => ?_⟩
    · have := hw.n10; omega
    · have := hw.n10; omega
    refine lc_range (lo := 0) (n := b.treaty.n) (fun j H' => Same H H' ∧ H' D = some (.lst (List.replicate j .non))) ⟨Same.over hD (Same.refl _), upd_same⟩ ?_ ?_
    · rintro j H' hj ⟨hs, hlD⟩
      refine ⟨rfl, ?_⟩
      unfold tYes
      refine iteT ?_
      refine ⟨_, hlD, ?_, Same.over hD hs, ?_⟩
      · rw [List.length_replicate]
        have := hw.n10
        exact small1000 (by omega)
      · rw [List.replicate_succ']
        exact upd_same
    rintro H1 ⟨hs1, hl1⟩
    refine ⟨_, rfl, a, CT, dx, _, _, rfl, hs1 _ _ hT, T.clT, T.tDeeds, treF_deeds _ _, l, rfl, ⟨_, SqL.of (hs1 _ _ hl)⟩, ?_⟩
    refine for_list (K := K) (a := l) (xs := as.map V.ref) (fun j σ H' => Same H H' ∧ ∃ (ls : List V) (u : Option V), σ = [some (.ref a), some (nV d), some (.ref D), u, none] ∧ H' D = some (.lst ls) ∧ ls.length = b.treaty.n ∧ ∀ i v, ls[i]? = some v → LastAt CD H (lastTo b d j i) v)
      ⟨hs1, _, none, rfl, hl1, List.length_replicate, fun i v hv => ?_⟩ (fun j σ H' _ h => SqL.of (h.1 _ _ hl)) ?_ ?_
    · rw [lastTo_zero]
      exact List.eq_of_mem_replicate (List.mem_of_getElem? hv)
    · rintro j x σ H' hj ⟨hs, ls, u, rfl, hlD, hlen, hat⟩
      obtain ⟨c, e, rfl, he, hDe⟩ := hTr.item hj
      obtain ⟨dc, hD0⟩ := id hDe
      refine ⟨_, rfl, c, CD, dc, _, _, rfl, hs _ _ hD0, T.clD, T.dD, deedF_day e, _, rfl, _, _, rfl, rfl, _, rfl, ?_⟩
      by_cases h2 : e.day ≤ d
      · refine if_true_of (decide_eq_true (by omega)) ?_
        have hst : e.state < ls.length := by
          rw [hlen]
          exact hw.st e (List.mem_of_getElem? he)
        refine ⟨_, rfl, _, rfl, _, rfl, c, CD, dc, _, _, rfl, hs _ _ hD0, T.clD, T.dS, deedF_state e, D, ls, _, e.state, rfl, rfl, hlD, ixN_nat hst, ?_⟩
        refine ⟨Same.over hD hs, _, _, rfl, upd_same, ?_, fun i v hv => ?_⟩
        · rw [List.length_set]; exact hlen
        · rw [lastTo_succ he]
          by_cases hi : e.state = i
          · subst hi
            rw [List.getElem?_set_self hst] at hv
            rw [if_pos ⟨rfl, h2⟩]
            exact ⟨c, (Option.some.inj hv).symm, hDe⟩
          · rw [List.getElem?_set_ne hi] at hv
            rw [if_neg fun z => hi z.1]
            exact hat i v hv
      · refine if_false_of (decide_eq_false (by omega)) ?_
        refine ⟨hs, ls, _, rfl, hlD, hlen, fun i v hv => ?_⟩
        rw [lastTo_succ he, if_neg fun z => h2 z.2]
        exact hat i v hv
    · rintro σ H' ⟨hs, ls, u, rfl, hlD, hlen, hat⟩
      rw [List.length_map, hTr.len] at hat
      refine ⟨_, rfl, k H' D ls hs hD hlD hlen fun i v hv => ?_⟩
      rw [← lastTo_all]
      exact hat i v hv
theorem scIsNoticeRunning : FnScope ["treaty", "deed", "d"] ["treaty", "deed", "d"] (defScope sIsNoticeRunning) := ⟨rfl, rfl, rfl, by decide +kernel, rfl, by decide +kernel, by decide +kernel⟩
theorem ok_is_notice_running {f : Addr} {fd : FuncData} (F : Fun K "is_notice_running" "is_notice_running" sIsNoticeRunning f fd) (T : Txt K CD CT) (D_out_day : Def P w K mg base "out_day" 1 ["treaty", "deed"] (spOutDay CD CT)) :
    FnOk P w K mg base CX0 2 f fd ["treaty", "deed", "d"] (spRuns CD CT) := by
  refine F.ok scIsNoticeRunning (fun vs H Q E h => ?_) (fun cdv A outer s H vs Q E hr h => ?_)
  · obtain ⟨a, b, v, d, o, rfl, _⟩ := h
    rfl
  · obtain ⟨a, b, v, d, o, rfl, hB, ho, k⟩ := h
    refine ⟨_, pss_one (ps_ret (pe_and (pe_cmp (pc_notN (pv 1)) rfl) (pe_and (pe_not (pe_fld (pv 1) rfl)) (pe_one (pe_cmp (pc_lt (pv 2) (pe_D D_out_day hr (pa_cons (pv 0) (pa_cons (pv 1) pa_nil)))) rfl))))), ?_⟩
    cases o with
    | none =>
      have ho : v = .non := ho
      subst ho
      refine ⟨_, rfl, _, rfl, ?_⟩
      exact if_false_of rfl k
    | some e =>
      obtain ⟨c, rfl, hD⟩ := ho
      obtain ⟨dc, hD0⟩ := id hD
      refine ⟨_, rfl, _, rfl, ?_⟩
      refine if_true_of rfl ?_
      refine ⟨_, rfl, c, CD, dc, _, _, rfl, hD0, T.clD, T.dR, deedF_rat e, _, rfl, _, rfl, ?_⟩
      have k : Q (.bl (!e.ratifies && decide (d < e.day + b.treaty.notice))) H := k
      cases hr' : e.ratifies with
      | true =>
        refine iteF ?_
        rw [hr'] at k
        exact k
      | false =>
        refine iteT ?_
        refine ⟨_, rfl, _, rfl, _, rfl, a, c, b, e, rfl, hB, hD, _, _, rfl, rfl, ?_⟩
        rw [hr'] at k
        have e2 : decide ((d : Int) < ((e.day + b.treaty.notice : Nat) : Int)) = (!false && decide (d < e.day + b.treaty.notice)) := by
          rw [Bool.not_false, Bool.true_and, decide_eq_decide]; omega
        rw [← e2] at k
        exact k
theorem scCountsAsRatified : FnScope ["treaty", "deed", "d"] ["treaty", "deed", "d"] (defScope sCountsAsRatified) := ⟨rfl, rfl, rfl, by decide +kernel, rfl, by decide +kernel, by decide +kernel⟩
theorem ok_counts_as_ratified {f : Addr} {fd : FuncData} (F : Fun K "counts_as_ratified" "counts_as_ratified" sCountsAsRatified f fd) (T : Txt K CD CT) (D_out_day : Def P w K mg base "out_day" 1 ["treaty", "deed"] (spOutDay CD CT)) :
    FnOk P w K mg base CX0 2 f fd ["treaty", "deed", "d"] (spCounts CD CT) := by
  refine F.ok scCountsAsRatified (fun vs H Q E h => ?_) (fun cdv A outer s H vs Q E hr h => ?_)
  · obtain ⟨a, b, v, d, o, rfl, _⟩ := h
    rfl
  · obtain ⟨a, b, v, d, o, rfl, hB, ho, k⟩ := h
    refine ⟨_, pss_one (ps_ret (pe_and (pe_cmp (pc_notN (pv 1)) rfl) (pe_one (pe_or (pe_fld (pv 1) rfl) (pe_one (pe_cmp (pc_lt (pv 2) (pe_D D_out_day hr (pa_cons (pv 0) (pa_cons (pv 1) pa_nil)))) rfl)))))), ?_⟩
    cases o with
    | none =>
      have ho : v = .non := ho
      subst ho
      refine ⟨_, rfl, _, rfl, ?_⟩
      exact if_false_of rfl k
    | some e =>
      obtain ⟨c, rfl, hD⟩ := ho
      obtain ⟨dc, hD0⟩ := id hD
      refine ⟨_, rfl, _, rfl, ?_⟩
      refine if_true_of rfl ?_
      refine ⟨_, rfl, c, CD, dc, _, _, rfl, hD0, T.clD, T.dR, deedF_rat e, _, rfl, ?_⟩
      have k : Q (.bl (e.ratifies || decide (d < e.day + b.treaty.notice))) H := k
      cases hr' : e.ratifies with
      | true =>
        refine iteT ?_
        rw [hr'] at k
        exact k
      | false =>
        refine iteF ?_
        refine ⟨_, rfl, _, rfl, _, rfl, a, c, b, e, rfl, hB, hD, _, _, rfl, rfl, ?_⟩
        rw [hr'] at k
        have e2 : decide ((d : Int) < ((e.day + b.treaty.notice : Nat) : Int)) = (false || decide (d < e.day + b.treaty.notice)) := by
          rw [Bool.false_or, decide_eq_decide]; omega
        rw [← e2] at k
        exact k
end
end TF
set_option Elab.async false
set_option maxRecDepth 100000
set_option maxHeartbeats 2000000
namespace TF
open PySem PySem.Spec PyProof.Rows L2
open Km479 (Treaty Book)
def spIsOnNotice (CD CT : Addr) : Sp := fun vs H Q _ => ∃ (a : Addr) (b : Book) (i d : Nat), vs = [.ref a, nV i, nV d] ∧ BkAt CD CT H a b ∧ WF b ∧ i < b.treaty.n ∧ ∀ H', Same H H' → Q (.bl (b.leaving i d)) H'
def spHasRatified (CD CT : Addr) : Sp := fun vs H Q _ => ∃ (a : Addr) (b : Book) (i d : Nat), vs = [.ref a, nV i, nV d] ∧ BkAt CD CT H a b ∧ WF b ∧ i < b.treaty.n ∧ ∀ H', Same H H' → Q (.bl (b.ratified i d)) H'
def spIsInSet : Sp := fun vs H Q _ => ∃ n i : Nat, vs = [nV n, nV i] ∧ Q (.bl (n.testBit i)) H
/-- a new list of the states that have ratified -/
def spRatifiedStates (CD CT : Addr) : Sp := fun vs H Q _ => ∃ (a : Addr) (b : Book) (d : Nat), vs = [.ref a, nV d] ∧ BkAt CD CT H a b ∧ WF b ∧
  ∀ (H' : Hp) (p : Addr), Same H H' → H p = none → H' p = some (.lst (nsV (b.set d))) → Q (.ref p) H'
def spSetNumber (K : PySem.W.Frag) : Sp := fun vs H Q _ => ∃ (p : Addr) (l : List Nat), vs = [.ref p] ∧ SqL K H p (nsV l) ∧ l.length ≤ 1000 ∧ (∀ i ∈ l, i ≤ 1000) ∧ ∀ H', Same H H' → Q (nV (Km479.bits l)) H'
section
variable {P : Program} {w : World} {K : PySem.W.Frag} {mg : Str → Option Value} {base : Heap} {CD CT : Addr}
theorem scIsOnNotice : FnScope ["treaty", "i", "d"] ["treaty", "i", "d"] (defScope sIsOnNotice) := ⟨rfl, rfl, rfl, by decide +kernel, rfl, by decide +kernel, by decide +kernel⟩
theorem ok_is_on_notice {f : Addr} {fd : FuncData} (F : Fun K "is_on_notice" "is_on_notice" sIsOnNotice f fd)
    (D_last_deeds : Def P w K mg base "last_deeds" 1 ["treaty", "d"] (spLastDeeds CD CT)) (D_is_notice_running : Def P w K mg base "is_notice_running" 2 ["treaty", "deed", "d"] (spRuns CD CT)) :
    FnOk P w K mg base CX0 3 f fd ["treaty", "i", "d"] (spIsOnNotice CD CT) := by
  refine F.ok scIsOnNotice (fun vs H Q E h => ?_) (fun cdv A outer s H vs Q E hr h => ?_)
  · obtain ⟨a, b, i, d, rfl, _⟩ := h
    rfl
  · obtain ⟨a, b, i, d, rfl, hB, hw, hi, k⟩ := h
    refine ⟨_, pss_one (ps_ret (pe_D D_is_notice_running hr (pa_cons (pv 0) (pa_cons (pe_ix ix_list (pe_D D_last_deeds hr (pa_cons (pv 0) (pa_cons (pv 2) pa_nil))) (pv 1) (fun _ _ => rfl)) (pa_cons (pv 2) pa_nil))))), ?_⟩
    refine ⟨_, rfl, _, rfl, _, rfl, a, b, d, rfl, hB, hw, fun H1 p ls s1 hp hl hlen hat => ?_⟩
    obtain ⟨v, hv⟩ : ∃ v, ls[i]? = some v := ⟨_, List.getElem?_eq_getElem (by omega)⟩
    refine ⟨_, rfl, p, _, _, _, rfl, rfl, SqL.of hl, atI_nat hv, _, rfl, a, b, v, d, lastOf b i d, rfl, hB.same s1, (hat i v hv).same s1, ?_⟩
    exact k H1 s1
theorem scHasRatified : FnScope ["treaty", "i", "d"] ["treaty", "i", "d"] (defScope sHasRatified) := ⟨rfl, rfl, rfl, by decide +kernel, rfl, by decide +kernel, by decide +kernel⟩
theorem ok_has_ratified {f : Addr} {fd : FuncData} (F : Fun K "has_ratified" "has_ratified" sHasRatified f fd)
    (D_last_deeds : Def P w K mg base "last_deeds" 1 ["treaty", "d"] (spLastDeeds CD CT)) (D_counts_as_ratified : Def P w K mg base "counts_as_ratified" 2 ["treaty", "deed", "d"] (spCounts CD CT)) :
    FnOk P w K mg base CX0 3 f fd ["treaty", "i", "d"] (spHasRatified CD CT) := by
  refine F.ok scHasRatified (fun vs H Q E h => ?_) (fun cdv A outer s H vs Q E hr h => ?_)
  · obtain ⟨a, b, i, d, rfl, _⟩ := h
    rfl
  · obtain ⟨a, b, i, d, rfl, hB, hw, hi, k⟩ := h
    refine ⟨_, pss_one (ps_ret (pe_D D_counts_as_ratified hr (pa_cons (pv 0) (pa_cons (pe_ix ix_list (pe_D D_last_deeds hr (pa_cons (pv 0) (pa_cons (pv 2) pa_nil))) (pv 1) (fun _ _ => rfl)) (pa_cons (pv 2) pa_nil))))), ?_⟩
    refine ⟨_, rfl, _, rfl, _, rfl, a, b, d, rfl, hB, hw, fun H1 p ls s1 hp hl hlen hat => ?_⟩
    obtain ⟨v, hv⟩ : ∃ v, ls[i]? = some v := ⟨_, List.getElem?_eq_getElem (by omega)⟩
    refine ⟨_, rfl, p, _, _, _, rfl, rfl, SqL.of hl, atI_nat hv, _, rfl, a, b, v, d, lastOf b i d, rfl, hB.same s1, (hat i v hv).same s1, ?_⟩
    exact k H1 s1
theorem scRatifiedStates : FnScope ["treaty", "d", "i", "deed"] ["treaty", "d"] (defScope sRatifiedStates) := ⟨rfl, rfl, rfl, by decide +kernel, rfl, by decide +kernel, by decide +kernel⟩
theorem ok_ratified_states {f : Addr} {fd : FuncData} (F : Fun K "ratified_states" "ratified_states" sRatifiedStates f fd) (menumerate : mg "enumerate" = none)
    (D_last_deeds : Def P w K mg base "last_deeds" 1 ["treaty", "d"] (spLastDeeds CD CT)) (D_counts_as_ratified : Def P w K mg base "counts_as_ratified" 2 ["treaty", "deed", "d"] (spCounts CD CT)) :
    FnOk P w K mg base CX0 3 f fd ["treaty", "d"] (spRatifiedStates CD CT) := by
  refine F.ok scRatifiedStates (fun vs H Q E h => ?_) (fun cdv A outer s H vs Q E hr h => ?_)
  · obtain ⟨a, b, d, rfl, _⟩ := h
    rfl
  · obtain ⟨a, b, d, rfl, hB, hw, k⟩ := h
    refine ⟨_, pss_one (ps_ret (pe_lc (own := [("i", 2), ("deed", 3)]) (g := gTup K 2 (gCons (gName 2) (gCons (gName 3) (gNil)))) rfl scRatifiedStates.nd (pi_enum rfl menumerate (pa_cons (pe_D D_last_deeds hr (pa_cons (pv 0) (pa_cons (pv 1) pa_nil))) pa_nil)) (blkOk_by (own := [("i", 2), ("deed", 3)]) (N := ["treaty", "d", "i", "deed"]) (sc := defScope sRatifiedStates) (by decide +kernel)) (fun _ _ _ _ _ => pg_tup rfl (pgs_cons (pg_name (i := 2) scRatifiedStates.nd rfl (Or.inl rfl)) (pgs_cons (pg_name (i := 3) scRatifiedStates.nd rfl (Or.inl rfl)) (pgs_nil)))) (fun _ _ _ _ _ => (pts_one (pt_val (pe_D D_counts_as_ratified hr (pa_cons (pv 0) (pa_cons (pv 3) (pa_cons (pv 1) pa_nil))))))) (fun _ _ _ _ _ => (pv 2)))), ?_⟩
    refine ⟨_, rfl, _, rfl, a, b, d, rfl, hB, hw, fun H1 p ls s1 hp hl hlen hat => ?_⟩
    refine ⟨p, _, rfl, SqL.of hl, fun D hD => ?_⟩
    refine lc_it (walk_enum (K := K) (a := p) (xs := ls)) (fun j H' => Same H1 H' ∧ H' D = some (.lst (nsV ((List.range j).filter fun i => b.ratified i d)))) ⟨Same.over hD (Same.refl _), upd_same⟩ (fun j H' _ h => SqL.of (h.1 _ _ hl)) ?_ ?_
    · rintro j x H' H'' hj ⟨hs, hlD⟩ ⟨t, xi, v, rfl, ht, rfl, e1, hv⟩
      have e1 : V.int (j : Nat) = xi := Option.some.inj e1
      subst e1
      have s2 : Same H1 (upd H' t (.tup [.int (j : Nat), v])) := Same.upd hs ht
      have s12 := s1.trans s2
      refine ⟨t, _, rfl, SqT.of upd_same, rfl, _, _, rfl, _, _, rfl, rfl, rfl, _, rfl, _, rfl, _, rfl, a, b, v, d, lastOf b j d, rfl, hB.same s12, (hat j v hv).same s12, _, rfl, ?_⟩
      have hlD2 : upd H' t (.tup [.int (j : Nat), v]) D = some (.lst (nsV ((List.range j).filter fun i => b.ratified i d))) := (upd_ne (ne_of_none hlD ht)).trans hlD
      rw [List.range_succ, List.filter_append, List.filter_cons, List.filter_nil]
      have hlen2 : (nsV ((List.range j).filter fun i => b.ratified i d)).length < sizeLine := by
        rw [nsV_length]
        have h1 := List.length_filter_le (fun i => b.ratified i d) (List.range j)
        rw [List.length_range] at h1
        have h2 := hw.n10
        exact small1000 (by omega)
      cases hc : b.ratified j d with
      | true =>
        have hc' : countsO b d (lastOf b j d) = true := hc
        refine if_true_of hc' ?_
        refine ⟨_, rfl, _, hlD2, hlen2, Same.over hD s2, ?_⟩
        rw [if_pos rfl, nsV_snoc]
        exact upd_same
      | false =>
        have hc' : countsO b d (lastOf b j d) = false := hc
        refine if_false_of hc' ?_
        rw [if_neg Bool.false_ne_true, List.append_nil]
        exact ⟨s2, hlD2⟩
    · rintro H' ⟨hs, hlD⟩
      rw [hlen] at hlD
      exact k H' D (s1.trans hs) (s1.free hD) hlD
theorem scIsInSet : FnScope ["number", "i"] ["number", "i"] (defScope sIsInSet) := ⟨rfl, rfl, rfl, by decide +kernel, rfl, by decide +kernel, by decide +kernel⟩
theorem bitAnd_nat (m n : Nat) : Builtin.bitAnd (m : Int) (n : Int) = ((m &&& n : Nat) : Int) := by
  have h1 : decide ((0 : Int) ≤ (m : Int)) = true := decide_eq_true (by omega)
  have h2 : decide ((0 : Int) ≤ (n : Int)) = true := decide_eq_true (by omega)
  unfold Builtin.bitAnd
  rw [h1, h2]
  rfl
theorem bit_is (n i : Nat) : decide (Builtin.bitAnd ((n : Int) / 2 ^ (i : Int).toNat) 1 = 1) = n.testBit i := by
  have e : (n : Int) / 2 ^ (i : Int).toNat = ((n / 2 ^ i : Nat) : Int) := by
    rw [Int.toNat_natCast, Int.natCast_ediv, Int.natCast_pow]
    rfl
  rw [e, show (1 : Int) = ((1 : Nat) : Int) from rfl, bitAnd_nat, Nat.testBit_eq_decide_div_mod_eq, Nat.and_one_is_mod, decide_eq_decide]
  omega
theorem ok_is_in_set {f : Addr} {fd : FuncData} (F : Fun K "is_in_set" "is_in_set" sIsInSet f fd) : FnOk P w K mg base CX0 1 f fd ["number", "i"] spIsInSet := by
  refine F.ok scIsInSet (fun vs H Q E h => ?_) (fun cdv A outer s H vs Q E hr h => ?_)
  · obtain ⟨n, i, rfl, _⟩ := h
    rfl
  · obtain ⟨n, i, rfl, k⟩ := h
    refine ⟨_, pss_one (ps_ret (pe_cmp (pc_eqI (pe_op op_and (pe_op op_shr (pv 0) (pv 1)) pe_int) pe_int) rfl)), ?_⟩
    refine ⟨_, rfl, _, rfl, _, _, rfl, rfl, by omega, _, _, rfl, rfl, _, _, rfl, rfl, ?_⟩
    rw [← bit_is] at k
    exact k
theorem scSetNumber : FnScope ["states", "state"] ["states"] (defScope sSetNumber) := ⟨rfl, rfl, rfl, by decide +kernel, rfl, by decide +kernel, by decide +kernel⟩
def pows (l : List Nat) : List Int := l.map fun (i : Nat) => (1 : Int) * 2 ^ ((i : Int).toNat)
theorem ok_set_number {f : Addr} {fd : FuncData} (F : Fun K "set_number" "set_number" sSetNumber f fd) (msum : mg "sum" = none) : FnOk P w K mg base CX0 1 f fd ["states"] (spSetNumber K) := by
  refine F.ok scSetNumber (fun vs H Q E h => ?_) (fun cdv A outer s H vs Q E hr h => ?_)
  · obtain ⟨p, l, rfl, _⟩ := h
    rfl
  · obtain ⟨p, l, rfl, hp, hlen, hmax, k⟩ := h
    refine ⟨_, pss_one (ps_ret (pe_callB (cr_sum rfl) (by rfl) msum (by decide +kernel) (pa_cons (pe_lc (own := [("state", 1)]) (g := gName 1) rfl scSetNumber.nd (pi_list (pv 0)) (blkOk_by (own := [("state", 1)]) (N := ["states", "state"]) (sc := defScope sSetNumber) (by decide +kernel))
      (fun _ _ _ _ _ => pg_name (i := 1) scSetNumber.nd rfl (Or.inl rfl)) (fun _ _ _ _ _ => pts_nil) (fun _ _ _ _ _ => pe_op op_shl pe_int (pv 1))) pa_nil))), ?_⟩
    refine ⟨_, rfl, p, rfl, ⟨_, hp⟩, fun D hD => ?_⟩
    refine lc_list (K := K) (a := p) (xs := nsV l) (fun j H' => Same H H' ∧ H' D = some (.lst ((pows (l.take j)).map V.int))) ⟨Same.over hD (Same.refl _), upd_same⟩ (fun j H' _ h => h.1.seq hp) ?_ ?_
    · rintro j x H' hj ⟨hs, hl⟩
      obtain ⟨n, hn, rfl⟩ := nsV_get hj
      have hb := hmax n (List.mem_of_getElem? hn)
      refine ⟨rfl, ?_⟩
      unfold tYes
      refine iteT ?_
      refine ⟨_, rfl, _, _, rfl, rfl, ⟨by omega, by omega, by decide⟩, _, hl, ?_, Same.over hD hs, ?_⟩
      · rw [List.length_map]
        unfold pows
        rw [List.length_map, List.length_take]
        exact small1000 (by omega)
      · rw [upd_same, take_snoc hn]
        unfold pows
        rw [List.map_append, List.map_append]
        rfl
    · rintro H' ⟨hs, hl⟩
      rw [nsV_length, List.take_length] at hl
      refine ⟨D, _, rfl, SqL.of hl, ?_⟩
      unfold pows
      rw [sum_pow]
      exact k H' hs
end
end TF
set_option Elab.async false
set_option maxRecDepth 100000
set_option maxHeartbeats 2000000
namespace TF
open PySem PySem.Spec PyProof.Rows L2
open Km479 (Treaty Book)
/-- a day, or None -/
def oV : Option Nat → V
  | none => .non
  | some d => nV d
def spEnough (CD CT : Addr) : Sp := fun vs H Q _ => ∃ (a : Addr) (b : Book) (d : Nat), vs = [.ref a, nV d] ∧ BkAt CD CT H a b ∧ WF b ∧ ∀ H', Same H H' → Q (.bl (b.enough d)) H'
def spFirstEnough (CD CT : Addr) : Sp := fun vs H Q _ => ∃ (a : Addr) (b : Book), vs = [.ref a] ∧ BkAt CD CT H a b ∧ WF b ∧ ∀ H', Same H H' → Q (oV ((b.events.map Km479.Event.day).find? b.enough)) H'
def spForceDay (CD CT : Addr) : Sp := fun vs H Q _ => ∃ (a : Addr) (b : Book), vs = [.ref a] ∧ BkAt CD CT H a b ∧ WF b ∧ ∀ H', Same H H' → Q (oV b.from_) H'
def spEndDay (CD CT : Addr) : Sp := fun vs H Q _ => ∃ (a : Addr) (b : Book), vs = [.ref a] ∧ BkAt CD CT H a b ∧ WF b ∧ ∀ H', Same H H' → Q (oV b.ends) H'
/-- within what the two days tell -/
def within (f e : Option Nat) (d : Nat) : Bool := match f with
  | none => false
  | some f => decide (f ≤ d) && match e with
    | none => true
    | some e => decide (d < e)
theorem inForce_is (b : Book) (d : Nat) : b.inForce d = within b.from_ b.ends d := rfl
def spIsWithin : Sp := fun vs H Q _ => ∃ (f e : Option Nat) (d : Nat), vs = [oV f, oV e, nV d] ∧ Q (.bl (within f e d)) H
def spOutDays (CD CT : Addr) : Sp := fun vs H Q _ => ∃ (a : Addr) (b : Book), vs = [.ref a] ∧ BkAt CD CT H a b ∧ WF b ∧
  ∀ (H' : Hp) (p : Addr), Same H H' → H p = none → H' p = some (.lst (nsV (outs b))) → Q (.ref p) H'
def spBoundStates (CD CT : Addr) : Sp := fun vs H Q _ => ∃ (a : Addr) (b : Book) (d : Nat), vs = [.ref a, nV d] ∧ BkAt CD CT H a b ∧ WF b ∧
  ∀ (H' : Hp) (p : Addr), Same H H' → H p = none → H' p = some (.lst (nsV (b.parties d))) → Q (.ref p) H'
theorem set_len {b : Book} (w : WF b) (d : Nat) : (b.set d).length ≤ 10 := by
  unfold Book.set
  have h1 := List.length_filter_le (fun i => b.ratified i d) (List.range b.treaty.n)
  rw [List.length_range] at h1
  have := w.n10
  omega
theorem set_lt {b : Book} {d i : Nat} (h : i ∈ b.set d) : i < b.treaty.n := by
  unfold Book.set at h
  exact List.mem_range.mp (List.mem_filter.mp h).1
section
variable {P : Program} {w : World} {K : PySem.W.Frag} {mg : Str → Option Value} {base : Heap} {CD CT : Addr}
theorem scEnough : FnScope ["treaty", "d", "states"] ["treaty", "d"] (defScope sEnoughRatified) := ⟨rfl, rfl, rfl, by decide +kernel, rfl, by decide +kernel, by decide +kernel⟩
theorem ok_enough {f : Addr} {fd : FuncData} (F : Fun K "enough_ratified" "enough_ratified" sEnoughRatified f fd) (T : Txt K CD CT) (mlen : mg "len" = none)
    (D1 : Def P w K mg base "ratified_states" 3 ["treaty", "d"] (spRatifiedStates CD CT)) (D2 : Def P w K mg base "set_number" 1 ["states"] (spSetNumber K)) :
    FnOk P w K mg base CX0 4 f fd ["treaty", "d"] (spEnough CD CT) := by
  refine F.ok scEnough (fun vs H Q E h => ?_) (fun cdv A outer s H vs Q E hr h => ?_)
  · obtain ⟨a, b, d, rfl, _⟩ := h
    rfl
  · obtain ⟨a, b, d, rfl, hB, hw, k⟩ := h
    refine ⟨_, pss_cons (ps_set (i := 2) scEnough.nd rfl (Or.inl rfl) (pe_D D1 hr (pa_cons (pv 0) (pa_cons (pv 1) pa_nil))))
      (pss_one (ps_ret (pe_and (pe_cmp (pc_ge (pe_callB call_len_seq (by rfl) mlen PySem.boot_len (pa_cons (pv 2) pa_nil)) (pe_fld (pv 0) rfl)) rfl)
        (pe_one (pe_cmp (pc_eqI (pe_op op_and (pe_fld (pv 0) rfl) (pe_D D2 hr (pa_cons (pv 2) pa_nil))) (pe_fld (pv 0) rfl)) rfl))))), ?_⟩
    refine ⟨_, rfl, _, rfl, a, b, d, rfl, hB, hw, fun H1 p s1 hp hl => ?_⟩
    have k' := fun H' (h : Same H H') => k H' h
    simp only [enough_bits hw.named] at k'
    obtain ⟨l, as, ⟨dx, hT⟩, _⟩ := hB.same s1
    refine ⟨_, rfl, p, _, rfl, .inl (SqL.of hl), _, rfl, a, CT, dx, _, _, rfl, hT, T.clT, T.tNeed, treF_need _ _, _, _, rfl, rfl, _, rfl, ?_⟩
    have e1 : decide ((b.treaty.need : Int) ≤ ((nsV (b.set d)).length : Int)) = decide (b.treaty.need ≤ (b.set d).length) := by
      rw [nsV_length, decide_eq_decide]; omega
    by_cases h1 : b.treaty.need ≤ (b.set d).length
    · refine if_true_of (e1.trans (decide_eq_true h1)) ?_
      refine ⟨_, rfl, a, CT, dx, _, _, rfl, hT, T.clT, T.tNamed, treF_named _ _, _, rfl, p, b.set d, rfl, SqL.of hl, by have := set_len hw d; omega, fun i hi => by have := set_lt hi; have := hw.n10; omega, fun H2 s2 => ?_⟩
      refine ⟨_, _, rfl, rfl, _, rfl, a, CT, dx, _, _, rfl, s2 _ _ hT, T.clT, T.tNamed, treF_named _ _, _, _, rfl, rfl, ?_⟩
      have k2 := k' H2 (s1.trans s2)
      rw [decide_eq_true h1, Bool.true_and] at k2
      have e2 : decide (Builtin.bitAnd (b.treaty.named : Int) (Km479.bits (b.set d) : Int) = (b.treaty.named : Int)) = decide (b.treaty.named &&& Km479.bits (b.set d) = b.treaty.named) := by
        rw [bitAnd_nat, decide_eq_decide]; omega
      rw [← e2] at k2
      exact k2
    · refine if_false_of (e1.trans (decide_eq_false h1)) ?_
      have k2 := k' H1 s1
      rw [decide_eq_false h1, Bool.false_and] at k2
      exact k2
theorem scFirstEnough : FnScope ["treaty", "deed"] ["treaty"] (defScope sFirstEnoughDay) := ⟨rfl, rfl, rfl, by decide +kernel, rfl, by decide +kernel, by decide +kernel⟩
theorem ok_first_enough {f : Addr} {fd : FuncData} (F : Fun K "first_enough_day" "first_enough_day" sFirstEnoughDay f fd) (T : Txt K CD CT)
    (D1 : Def P w K mg base "enough_ratified" 4 ["treaty", "d"] (spEnough CD CT)) :
    FnOk P w K mg base CX0 5 f fd ["treaty"] (spFirstEnough CD CT) := by
  refine F.ok scFirstEnough (fun vs H Q E h => ?_) (fun cdv A outer s H vs Q E hr h => ?_)
  · obtain ⟨a, b, rfl, _⟩ := h
    rfl
  · obtain ⟨a, b, rfl, hB, hw, k⟩ := h
    refine ⟨_, pss_cons (ps_for PassesOwn.never rfl (pi_list (pe_fld (pv 0) rfl)) (pg_name (i := 1) scFirstEnough.nd rfl (Or.inl rfl))
        (pss_one (ps_if (pt_val (pe_D D1 hr (pa_cons (pv 0) (pa_cons (pe_fld (pv 1) rfl) pa_nil)))) (pss_one (ps_ret (pe_fld (pv 1) rfl))) pss_nil)))
      (pss_one (ps_ret pe_non)), ?_⟩
    obtain ⟨l, as, ⟨dx, hT⟩, hl, hn, hat⟩ := id hB
    refine ⟨_, rfl, a, CT, dx, _, _, rfl, hT, T.clT, T.tDeeds, treF_deeds _ _, l, rfl, ⟨_, SqL.of hl⟩, ?_⟩
    refine for_list (K := K) (a := l) (xs := as.map V.ref) (fun j σ H' => Same H H' ∧ (∃ u : Option V, σ = [some (.ref a), u]) ∧ (b.events.map Km479.Event.day).find? b.enough = ((b.events.map Km479.Event.day).drop j).find? b.enough)
      ⟨Same.refl _, ⟨none, rfl⟩, rfl⟩ (fun j σ H' _ h => SqL.of (h.1 _ _ hl)) ?_ ?_
    · rintro j x σ H' hj ⟨hs, ⟨u, rfl⟩, hf⟩
      rw [List.getElem?_map] at hj
      cases hc : as[j]? with
      | none => rw [hc] at hj; cases hj
      | some c =>
        rw [hc] at hj
        have hx : x = .ref c := (Option.some.inj hj).symm
        subst hx
        obtain ⟨e, he, dc, hD⟩ := hat j c hc
        have hlt : j < (b.events.map Km479.Event.day).length := by rw [List.length_map]; exact (List.getElem?_eq_some_iff.mp he).1
        have hdr : (b.events.map Km479.Event.day).drop j = e.day :: (b.events.map Km479.Event.day).drop (j + 1) := by
          rw [List.drop_eq_getElem_cons hlt]
          congr 1
          rw [List.getElem_map]
          exact congrArg Km479.Event.day (List.getElem?_eq_some_iff.mp he).2
        rw [hdr, List.find?_cons] at hf
        refine ⟨_, rfl, _, rfl, c, CD, dc, _, _, rfl, hs _ _ hD, T.clD, T.dD, deedF_day e, a, b, e.day, rfl, hB.same hs, hw, fun H1 s1 => ⟨_, rfl, ?_⟩⟩
        cases hen : b.enough e.day with
        | true =>
          rw [hen] at hf
          refine iteT ?_
          refine ⟨_, rfl, c, CD, dc, _, _, rfl, s1 _ _ (hs _ _ hD), T.clD, T.dD, deedF_day e, ?_⟩
          have k2 := k H1 (hs.trans s1)
          rw [hf] at k2
          exact k2
        | false =>
          rw [hen] at hf
          refine iteF ?_
          exact ⟨hs.trans s1, ⟨_, rfl⟩, hf⟩
    · rintro σ H' ⟨hs, ⟨u, rfl⟩, hf⟩
      have k2 := k H' hs
      rw [hf, List.length_map, hn, List.drop_eq_nil_of_le (by rw [List.length_map]; exact Nat.le_refl _)] at k2
      exact k2
theorem scForceDay : FnScope ["treaty", "first"] ["treaty"] (defScope sForceDay) := ⟨rfl, rfl, rfl, by decide +kernel, rfl, by decide +kernel, by decide +kernel⟩
theorem ok_force_day {f : Addr} {fd : FuncData} (F : Fun K "force_day" "force_day" sForceDay f fd) (T : Txt K CD CT)
    (D1 : Def P w K mg base "first_enough_day" 5 ["treaty"] (spFirstEnough CD CT)) :
    FnOk P w K mg base CX0 6 f fd ["treaty"] (spForceDay CD CT) := by
  refine F.ok scForceDay (fun vs H Q E h => ?_) (fun cdv A outer s H vs Q E hr h => ?_)
  · obtain ⟨a, b, rfl, _⟩ := h
    rfl
  · obtain ⟨a, b, rfl, hB, hw, k⟩ := h
    refine ⟨_, pss_cons (ps_set (i := 1) scForceDay.nd rfl (Or.inl rfl) (pe_D D1 hr (pa_cons (pv 0) pa_nil)))
      (pss_cons (ps_if (pt_cmp (pc_isN (pv 1))) (pss_one (ps_ret pe_non)) pss_nil)
      (pss_one (ps_ret (pe_op op_add (pv 1) (pe_fld (pv 0) rfl))))), ?_⟩
    refine ⟨_, rfl, a, b, rfl, hB, hw, fun H1 s1 => ?_⟩
    have k1 := k H1 s1
    rw [from_first hw] at k1
    obtain ⟨l, as, ⟨dx, hT⟩, _⟩ := hB.same s1
    cases ho : (b.events.map Km479.Event.day).find? b.enough with
    | none =>
      rw [ho] at k1
      refine ⟨_, rfl, _, rfl, ?_⟩
      exact if_true_of rfl k1
    | some z =>
      rw [ho] at k1
      refine ⟨_, rfl, _, rfl, ?_⟩
      refine if_false_of rfl ?_
      refine ⟨_, rfl, _, rfl, a, CT, dx, _, _, rfl, hT, T.clT, T.tWait, treF_wait _ _, _, _, rfl, rfl, ?_⟩
      exact k1
end
end TF
set_option Elab.async false
set_option maxRecDepth 100000
set_option maxHeartbeats 2000000
namespace TF
open PySem PySem.Spec PyProof.Rows L2
open Km479 (Treaty Book)
/-- the outs of the first deeds -/
def outsE (t : Treaty) (es : List Ev) : List Nat := (es.filter fun e => !e.ratifies).map fun e => e.day + t.notice
theorem outsE_snoc (t : Treaty) (es : List Ev) (e : Ev) : outsE t (es ++ [e]) = outsE t es ++ if e.ratifies = false then [e.day + t.notice] else [] := by
  unfold outsE
  rw [List.filter_append, List.map_append, List.filter_cons]
  cases e.ratifies <;> rfl
theorem outsE_len (t : Treaty) (es : List Ev) : (outsE t es).length ≤ es.length := by
  unfold outsE
  rw [List.length_map]
  exact List.length_filter_le _ _
theorem outsE_is (b : Book) : outsE b.treaty b.events = outs b := rfl
theorem ints_nats : ∀ {l : List Int}, (∀ x ∈ l, 0 ≤ x) → l.map V.int = nsV (l.map Int.toNat)
  | [], _ => rfl
  | a :: l, h => by
    have h1 := h a List.mem_cons_self
    have e : nV a.toNat = V.int a := by
      unfold nV
      rw [Int.toNat_of_nonneg h1]
    show V.int a :: l.map V.int = nV a.toNat :: nsV (l.map Int.toNat)
    rw [e, ints_nats fun x hx => h x (List.mem_cons_of_mem _ hx)]
theorem toNat_pw {l : List Int} (h : l.Pairwise (· ≤ ·)) : (l.map Int.toNat).Pairwise (· ≤ ·) := by
  rw [List.pairwise_map]
  exact h.imp fun hab => by omega
theorem mem_toNat {l : List Int} {m : List Nat} (h : l.Perm (m.map fun (n : Nat) => (n : Int))) (x : Nat) : x ∈ l.map Int.toNat ↔ x ∈ m := by
  rw [List.mem_map]
  constructor
  · rintro ⟨y, hy, rfl⟩
    obtain ⟨n, hn, rfl⟩ := List.mem_map.mp (h.mem_iff.mp hy)
    rw [Int.toNat_natCast]; exact hn
  · intro hx
    exact ⟨(x : Int), h.mem_iff.mpr (List.mem_map.mpr ⟨x, hx, rfl⟩), Int.toNat_natCast x⟩
theorem nn_perm {l : List Int} {m : List Nat} (h : l.Perm (m.map fun (n : Nat) => (n : Int))) : ∀ x ∈ l, 0 ≤ x := by
  intro x hx
  obtain ⟨n, _, rfl⟩ := List.mem_map.mp (h.mem_iff.mp hx)
  omega
section
variable {P : Program} {w : World} {K : PySem.W.Frag} {mg : Str → Option Value} {base : Heap} {CD CT : Addr}
theorem scOutDays : FnScope ["treaty", "deed"] ["treaty"] (defScope sOutDays) := ⟨rfl, rfl, rfl, by decide +kernel, rfl, by decide +kernel, by decide +kernel⟩
theorem ok_out_days {f : Addr} {fd : FuncData} (F : Fun K "out_days" "out_days" sOutDays f fd) (T : Txt K CD CT) (D_out_day : Def P w K mg base "out_day" 1 ["treaty", "deed"] (spOutDay CD CT)) :
    FnOk P w K mg base CX0 2 f fd ["treaty"] (spOutDays CD CT) := by
  refine F.ok scOutDays (fun vs H Q E h => ?_) (fun cdv A outer s H vs Q E hr h => ?_)
  · obtain ⟨a, b, rfl, _⟩ := h
    rfl
  · obtain ⟨a, b, rfl, hB1, hw, k⟩ := h
    refine ⟨_, pss_one (ps_ret (pe_lc (own := [("deed", 1)]) (g := gName 1) (tt := tNot (tB (tFld K (tVar 1) "ratified"))) rfl scOutDays.nd (pi_list (pe_fld (pv 0) rfl)) (blkOk_by (own := [("deed", 1)]) (N := ["treaty", "deed"]) (sc := defScope sOutDays) (by decide +kernel)) (fun _ _ _ _ _ => pg_name (i := 1) scOutDays.nd rfl (Or.inl rfl)) (fun _ _ _ _ _ => (pts_one (pt_not (pt_val (pe_fld (pv 1) rfl))))) (fun _ _ _ _ _ => (pe_D D_out_day hr (pa_cons (pv 0) (pa_cons (pv 1) pa_nil)))))), ?_⟩
    obtain ⟨l, as, hTr⟩ := id hB1
    obtain ⟨dx, hT⟩ := hTr.obj
    have hl := hTr.lst
    refine ⟨_, rfl, a, CT, dx, _, _, rfl, hT, T.clT, T.tDeeds, treF_deeds _ _, l, rfl, ⟨_, SqL.of hl⟩, fun D hD => ?_⟩
    refine lc_list (K := K) (a := l) (xs := as.map V.ref) (fun j H' => Same H H' ∧ H' D = some (.lst (nsV (outsE b.treaty (b.events.take j))))) ⟨Same.over hD (Same.refl _), upd_same⟩ (fun j H' _ h => SqL.of (h.1 _ _ hl)) ?_ ?_
    · rintro j x H' hj ⟨hs, hl2⟩
      obtain ⟨c, e, rfl, he, hD0⟩ := hTr.item hj
      obtain ⟨dc, hD1⟩ := id hD0
      refine ⟨rfl, _, rfl, c, CD, dc, _, _, rfl, hs _ _ hD1, T.clD, T.dR, deedF_rat e, _, rfl, ?_⟩
      rw [take_snoc he, outsE_snoc]
      have hlen : (nsV (outsE b.treaty (b.events.take j))).length < sizeLine := by
        rw [nsV_length]
        have h1 := outsE_len b.treaty (b.events.take j)
        rw [List.length_take] at h1
        have h2 := hw.len
        exact small1000 (by omega)
      cases hr' : e.ratifies with
      | true =>
        refine iteF ?_
        rw [if_neg (by intro q; cases q), List.append_nil]
        exact ⟨hs, hl2⟩
      | false =>
        refine iteT ?_
        refine ⟨_, rfl, _, rfl, a, c, b, e, rfl, hB1.same hs, hD0.same hs, _, hl2, hlen, Same.over hD hs, ?_⟩
        rw [if_pos rfl, nsV_snoc]
        exact upd_same
    · rintro H2 ⟨hs2, hl2⟩
      rw [List.length_map, hTr.len, List.take_length, outsE_is] at hl2
      exact k H2 D hs2 hD hl2
theorem scEndDay : FnScope ["treaty", "start", "later", "day", "out"] ["treaty"] (defScope sEndDay) := ⟨rfl, rfl, rfl, by decide +kernel, rfl, by decide +kernel, by decide +kernel⟩
theorem ok_end_day {f : Addr} {fd : FuncData} (F : Fun K "end_day" "end_day" sEndDay f fd) (T : Txt K CD CT) (mlen : mg "len" = none) (msorted : mg "sorted" = none)
    (D_force_day : Def P w K mg base "force_day" 6 ["treaty"] (spForceDay CD CT)) (D_out_days : Def P w K mg base "out_days" 2 ["treaty"] (spOutDays CD CT)) (D_ratified_states : Def P w K mg base "ratified_states" 3 ["treaty", "d"] (spRatifiedStates CD CT)) :
    FnOk P w K mg base CX0 7 f fd ["treaty"] (spEndDay CD CT) := by
  refine F.ok scEndDay (fun vs H Q E h => ?_) (fun cdv A outer s H vs Q E hr h => ?_)
  · obtain ⟨a, b, rfl, _⟩ := h
    rfl
  · obtain ⟨a, b, rfl, hB, hw, k⟩ := h
    refine ⟨_, pss_cons (ps_set (i := 1) scEndDay.nd rfl (Or.inr rfl) (pe_D D_force_day hr (pa_cons (pv 0) pa_nil)))
      (pss_cons (ps_if (pt_cmp (pc_isN (pv 1))) (pss_one (ps_ret pe_non)) pss_nil)
      (pss_cons (ps_setLc (i := 2) (own := [("out", 4)]) (g := gName 4) rfl scEndDay.nd rfl rfl (sw_true rfl rfl rfl (by decide +kernel)) (pi_list (pe_D D_out_days hr (pa_cons (pv 0) pa_nil))) (blkOk_by (own := [("out", 4)]) (N := ["treaty", "start", "later", "day", "out"]) (sc := defScope sEndDay) (by decide +kernel)) (fun _ _ _ _ _ => pg_name (i := 4) scEndDay.nd rfl (Or.inl rfl)) (fun _ _ _ _ _ => (pts_one (pt_cmp (pc_gt (pv 4) (pv 1))))) (fun _ _ _ _ _ => (pv 4)))
      (pss_cons (ps_for PassesOwn.never rfl (pi_list (pe_callB cr_sortedI (by rfl) msorted (by decide +kernel) (pa_cons (pe_op op_cat (pe_lst (pa_cons (pv 1) pa_nil)) (pv 2)) pa_nil))) (pg_name (i := 3) scEndDay.nd rfl (Or.inl rfl)) (pss_one (ps_if (pt_cmp (pc_lt (pe_callB call_len_seq (by rfl) mlen PySem.boot_len (pa_cons (pe_D D_ratified_states hr (pa_cons (pv 0) (pa_cons (pv 3) pa_nil))) pa_nil)) (pe_fld (pv 0) rfl))) (pss_one (ps_ret (pv 3))) pss_nil)))
      (pss_one (ps_ret pe_non))))), ?_⟩
    refine ⟨_, rfl, a, b, rfl, hB, hw, fun H1 s1 => ?_⟩
    cases hf : b.from_ with
    | none =>
      have k1 := k H1 s1
      rw [ends_none hf] at k1
      refine ⟨_, rfl, _, rfl, ?_⟩
      exact if_true_of rfl k1
    | some z =>
      refine ⟨_, rfl, _, rfl, ?_⟩
      refine if_false_of rfl ?_
      have hB1 := hB.same s1
      -- out_days
      refine ⟨_, rfl, a, b, rfl, hB1, hw, fun H2 D hs2 hDn hl2 => ?_⟩
      · -- later
        refine ⟨D, rfl, ⟨_, SqL.of hl2⟩, fun D2 hD2 => ?_⟩
        refine lc_list (K := K) (a := D) (xs := nsV (outs b)) (fun j H' => Same H2 H' ∧ H' D2 = some (.lst (nsV (((outs b).take j).filter fun x => decide (z < x))))) ⟨Same.over hD2 (Same.refl _), upd_same⟩ (fun j H' _ h => SqL.of (h.1 _ _ hl2)) ?_ ?_
        · rintro j x H' hj ⟨hs, hl3⟩
          obtain ⟨n, hn', rfl⟩ := nsV_get hj
          refine ⟨rfl, _, rfl, _, rfl, _, _, rfl, rfl, _, rfl, ?_⟩
          rw [take_snoc hn', List.filter_append, List.filter_cons, List.filter_nil]
          have hlen : (nsV (((outs b).take j).filter fun x => decide (z < x))).length < sizeLine := by
            rw [nsV_length]
            have h1 := List.length_filter_le (fun x => decide (z < x)) ((outs b).take j)
            rw [List.length_take] at h1
            have h2 := hw.len
            have h3 := outsE_len b.treaty b.events
            rw [outsE_is] at h3
            exact small1000 (by omega)
          by_cases hz : z < n
          · refine if_true_of (decide_eq_true (by omega)) ?_
            refine ⟨_, rfl, _, hl3, hlen, Same.over hD2 hs, ?_⟩
            rw [if_pos (decide_eq_true hz), nsV_snoc]
            exact upd_same
          · refine if_false_of (decide_eq_false (by omega)) ?_
            rw [if_neg (by rw [decide_eq_false hz]; exact Bool.false_ne_true), List.append_nil]
            exact ⟨hs, hl3⟩
        · rintro H3 ⟨hs3, hl3⟩
          rw [nsV_length, List.take_length] at hl3
          -- sorted([start] + later)
          have hll : ((outs b).filter fun x => decide (z < x)).length ≤ 34 := by
            have h1 := List.length_filter_le (fun x => decide (z < x)) (outs b)
            have h2 := hw.len
            have h3 := outsE_len b.treaty b.events
            rw [outsE_is] at h3
            omega
          refine ⟨_, rfl, by show 1 ≤ sizeLine; decide, fun p4 hp4 => ?_⟩
          have s4 : Same H3 (upd H3 p4 (.lst [oV (some z)])) := Same.upd (Same.refl _) hp4
          refine ⟨_, rfl, p4, D2, _, _, rfl, rfl, upd_same, s4 _ _ hl3, ?_, fun p5 hp5 => ?_⟩
          · rw [nsV_length]
            exact Nat.le_of_lt (small1000 (by simp; omega))
          have e5 : [oV (some z)] ++ nsV ((outs b).filter fun x => decide (z < x)) = (((z :: (outs b).filter fun x => decide (z < x))).map fun (n : Nat) => (n : Int)).map V.int := by
            rw [← nsV_ints]; rfl
          rw [e5]
          refine ⟨p5, _, rfl, SqL.of upd_same, fun ns' p6 hperm hpw hp6 => ?_⟩
          have s5 : Same H3 (upd (upd H3 p4 (.lst [oV (some z)])) p5 (.lst ((((z :: (outs b).filter fun x => decide (z < x))).map fun (n : Nat) => (n : Int)).map V.int))) := Same.upd s4 hp5
          rw [ints_nats (nn_perm hperm)]
          have hend := end_sorted hf (toNat_pw hpw) (fun x => by rw [mem_toNat hperm x, List.mem_cons, List.mem_filter, decide_eq_true_eq])
          generalize hL : ns'.map Int.toNat = L at hend
          have s6 := Same.upd (o := .lst (nsV L)) s5 hp6
          generalize hH6 : upd (upd (upd H3 p4 (.lst [oV (some z)])) p5 (.lst ((((z :: (outs b).filter fun x => decide (z < x))).map fun (n : Nat) => (n : Int)).map V.int))) p6 (.lst (nsV L)) = H6 at s6 ⊢
          have hl6 : H6 p6 = some (.lst (nsV L)) := by rw [← hH6]; exact upd_same
          have s16 : Same H1 H6 := (hs2.trans hs3).trans s6
          refine ⟨p6, rfl, ⟨_, SqL.of hl6⟩, ?_⟩
          refine for_list (K := K) (a := p6) (xs := nsV L) (fun j σ H' => Same H6 H' ∧ (∃ u : Option V, σ = [some (.ref a), some (oV (some z)), some (.ref D2), u, none]) ∧ b.ends = (L.drop j).find? fun d => decide ((b.set d).length < b.treaty.floor))
            ⟨Same.refl _, ⟨none, rfl⟩, hend⟩ (fun j σ H' _ h => SqL.of (h.1 _ _ hl6)) ?_ ?_
          · rintro j x σ H' hj ⟨hs, ⟨u, rfl⟩, hfi⟩
            obtain ⟨n, hn', rfl⟩ := nsV_get hj
            have hlt : j < L.length := (List.getElem?_eq_some_iff.mp hn').1
            rw [List.drop_eq_getElem_cons hlt, (List.getElem?_eq_some_iff.mp hn').2, List.find?_cons] at hfi
            have s17 := s16.trans hs
            refine ⟨_, rfl, _, rfl, a, b, n, rfl, hB1.same s17, hw, fun H7 p7 s7 hp7 hl7 => ?_⟩
            obtain ⟨l', as', ⟨dx', hT'⟩, _⟩ := (hB1.same s17).same s7
            refine ⟨p7, _, rfl, .inl (SqL.of hl7), _, rfl, a, CT, dx', _, _, rfl, hT', T.clT, T.tFloor, treF_floor _ _, _, _, rfl, rfl, _, rfl, ?_⟩
            by_cases hc : (b.set n).length < b.treaty.floor
            · refine if_true_of (decide_eq_true (by rw [nsV_length]; omega)) ?_
              rw [decide_eq_true hc] at hfi
              refine ⟨_, rfl, ?_⟩
              have k2 := k H7 ((s1.trans s17).trans s7)
              rw [hfi] at k2
              exact k2
            · refine if_false_of (decide_eq_false (by rw [nsV_length]; omega)) ?_
              rw [decide_eq_false hc] at hfi
              exact ⟨hs.trans s7, ⟨_, rfl⟩, hfi⟩
          · rintro σ H' ⟨hs, ⟨u, rfl⟩, hfi⟩
            have k2 := k H' (s1.trans (s16.trans hs))
            rw [hfi, nsV_length, List.drop_eq_nil_of_le (Nat.le_refl _)] at k2
            exact k2
end
end TF
set_option Elab.async false
set_option maxRecDepth 100000
set_option maxHeartbeats 2000000
namespace TF
open PySem PySem.Spec PyProof.Rows L2
open Km479 (Treaty Book)
theorem inForce_some {b : Book} {f : Nat} (hf : b.from_ = some f) (d : Nat) : b.inForce d = (decide (f ≤ d) && match b.ends with
    | none => true
    | some e => decide (d < e)) := by
  unfold Book.inForce
  rw [hf]
  rfl
theorem inForce_none {b : Book} (hf : b.from_ = none) (d : Nat) : b.inForce d = false := by
  unfold Book.inForce
  rw [hf]
theorem parties_force {b : Book} {d : Nat} (h : b.inForce d = true) : b.parties d = b.set d := by
  unfold Book.parties Book.set
  refine List.filter_congr fun i _ => ?_
  unfold Book.bound
  rw [h, Bool.true_and]
theorem parties_none {b : Book} {d : Nat} (h : b.inForce d = false) : b.parties d = [] := by
  unfold Book.parties
  rw [List.filter_eq_nil_iff]
  intro i _
  unfold Book.bound
  rw [h, Bool.false_and]
  exact Bool.false_ne_true
section
variable {P : Program} {w : World} {K : PySem.W.Frag} {mg : Str → Option Value} {base : Heap} {CD CT : Addr}
def till (e : Option Nat) (d : Nat) : Bool := match e with
  | none => true
  | some e => decide (d < e)
theorem within_some (z : Nat) (e : Option Nat) (d : Nat) : within (some z) e d = (decide (z ≤ d) && till e d) := rfl
theorem scIsWithin : FnScope ["start", "end", "d"] ["start", "end", "d"] (defScope sIsWithin) := ⟨rfl, rfl, rfl, by decide +kernel, rfl, by decide +kernel, by decide +kernel⟩
theorem ok_is_within {f : Addr} {fd : FuncData} (F : Fun K "is_within" "is_within" sIsWithin f fd) : FnOk P w K mg base CX0 1 f fd ["start", "end", "d"] spIsWithin := by
  refine F.ok scIsWithin (fun vs H Q E h => ?_) (fun cdv A outer s H vs Q E hr h => ?_)
  · obtain ⟨o, e, d, rfl, _⟩ := h
    rfl
  · obtain ⟨o, e, d, rfl, k⟩ := h
    refine ⟨_, pss_cons (ps_if (PW.pt (pw_or (pt_cmp (pc_isN (pv 0))) (pw_or1 (pt_cmp (pc_lt (pv 2) (pv 0)))))) (pss_one (ps_ret pe_bl)) pss_nil)
      (pss_one (ps_ret (pe_or (pe_cmp (pc_isN (pv 1)) rfl) (pe_one (pe_cmp (pc_lt (pv 2) (pv 1)) rfl))))), ?_⟩
    cases o with
    | none =>
      refine ⟨_, rfl, _, rfl, ?_⟩
      refine if_true_of rfl ?_
      exact iteT k
    | some z =>
      refine ⟨_, rfl, _, rfl, ?_⟩
      refine if_false_of rfl ?_
      refine ⟨_, rfl, _, rfl, _, _, rfl, rfl, _, rfl, ?_⟩
      by_cases hz : d < z
      · refine if_true_of (decide_eq_true (by omega)) ?_
        have e0 : within (some z) e d = false := by
          rw [within_some, decide_eq_false (show ¬ z ≤ d by omega), Bool.false_and]
        rw [e0] at k
        exact k
      · refine if_false_of (decide_eq_false (by omega)) ?_
        have e0 : within (some z) e d = till e d := by
          rw [within_some, decide_eq_true (show z ≤ d by omega), Bool.true_and]
        rw [e0] at k
        cases e with
        | none =>
          refine ⟨_, rfl, _, rfl, ?_⟩
          exact if_true_of rfl k
        | some e =>
          refine ⟨_, rfl, _, rfl, ?_⟩
          refine if_false_of rfl ?_
          refine ⟨_, rfl, _, rfl, _, _, rfl, rfl, ?_⟩
          have e2 : decide ((d : Int) < (e : Int)) = decide (d < e) := by rw [decide_eq_decide]; omega
          have k1 : Q (.bl (decide (d < e))) H := k
          rw [← e2] at k1
          exact k1
theorem scBoundStates : FnScope ["treaty", "d"] ["treaty", "d"] (defScope sBoundStates) := ⟨rfl, rfl, rfl, by decide +kernel, rfl, by decide +kernel, by decide +kernel⟩
theorem ok_bound_states {f : Addr} {fd : FuncData} (F : Fun K "bound_states" "bound_states" sBoundStates f fd)
    (D_is_within : Def P w K mg base "is_within" 1 ["start", "end", "d"] spIsWithin) (D_force_day : Def P w K mg base "force_day" 6 ["treaty"] (spForceDay CD CT)) (D_end_day : Def P w K mg base "end_day" 7 ["treaty"] (spEndDay CD CT)) (D_ratified_states : Def P w K mg base "ratified_states" 3 ["treaty", "d"] (spRatifiedStates CD CT)) :
    FnOk P w K mg base CX0 9 f fd ["treaty", "d"] (spBoundStates CD CT) := by
  refine F.ok scBoundStates (fun vs H Q E h => ?_) (fun cdv A outer s H vs Q E hr h => ?_)
  · obtain ⟨a, b, d, rfl, _⟩ := h
    rfl
  · obtain ⟨a, b, d, rfl, hB, hw, k⟩ := h
    refine ⟨_, pss_cons (ps_if (pt_not (pt_val (pe_D D_is_within hr (pa_cons (pe_D D_force_day hr (pa_cons (pv 0) pa_nil)) (pa_cons (pe_D D_end_day hr (pa_cons (pv 0) pa_nil)) (pa_cons (pv 1) pa_nil)))))) (pss_one (ps_ret (pe_lst pa_nil))) pss_nil)
      (pss_one (ps_ret (pe_D D_ratified_states hr (pa_cons (pv 0) (pa_cons (pv 1) pa_nil))))), ?_⟩
    refine ⟨_, rfl, a, b, rfl, hB, hw, fun H1 s1 => ⟨_, rfl, a, b, rfl, hB.same s1, hw, fun H2 s2 => ⟨_, rfl, b.from_, b.ends, d, rfl, _, rfl, ?_⟩⟩⟩
    have s12 := s1.trans s2
    cases hf : b.inForce d with
    | true =>
      have hf' : within b.from_ b.ends d = true := hf
      refine if_false_of (by rw [hf']; rfl) ?_
      refine ⟨_, rfl, _, rfl, a, b, d, rfl, hB.same s12, hw, fun H3 p s3 hp hl => ?_⟩
      refine k H3 p (s12.trans s3) (s12.free hp) ?_
      rw [parties_force hf]
      exact hl
    | false =>
      have hf' : within b.from_ b.ends d = false := hf
      refine if_true_of (by rw [hf']; rfl) ?_
      refine ⟨Nat.zero_le _, fun p hp => ?_⟩
      refine k _ p (Same.upd s12 hp) (s12.free hp) ?_
      rw [parties_none hf]
      exact upd_same
end
end TF
set_option Elab.async false
set_option maxRecDepth 100000
set_option maxHeartbeats 2000000
namespace TF
open PySem PySem.Spec PyProof.Rows L2
open Km479 (Treaty Book)
/-- a name of the top that holds a whole number -/
def GI (mg : Str → Option Value) (x : Str) (i : Int) : Prop := ∃ t, mg x = some (.int i t)
theorem pe_G {X : Cx} {x : Str} {i : Int} {pos : Pos} (h : GI X.mg x i) (hg : Gl X x := by rfl) (hdb : (x == ("__debug__" : Str)) = false := by decide) : PE X (.Name x pos) (tC (.int i)) := by
  obtain ⟨t, ht⟩ := h
  exact pe_glob (v := .int i) hg ht ⟨t, rfl⟩ (hd := hdb)
/-- a class that is made by its __init__ -/
def Make (P : Program) (w : World) (K : PySem.W.Frag) (mg : Str → Option Value) (base : Heap) (x : Str) (C : Addr) (k : Nat) (ps : List Str) (sp : Sp) : Prop :=
  ∃ (f : Addr) (fd : FuncData), mg x = some (.ref C) ∧ Mk K C f ∧ Binds K fd ps [] ∧ FnOk P w K mg base CX0 k f fd ps sp
theorem pe_M {X : Cx} {k j : Nat} {C : Addr} {ps : List Str} {sp : Sp} {x : Str} {p pos : Pos} {e : Expr} {es : List Expr} {t : TA} (D : Make X.prog X.w X.K X.mg X.base x C k ps sp) (hr : Room j X.A) (ha : PA X (e :: es) t) (hk : k + 1 ≤ j := by decide) (hg : Gl X x := by rfl)
    (hdb : (x == ("__debug__" : Str)) = false := by decide)
    (he : starEach (e :: es) X.env = (false, eval e X.env) :: starEach es X.env := by rfl) (hpl : (backTo pos (starEach es X.env)).any (·.1) = false := by rfl) :
    PE X (.Call (.Name x p) (e :: es) [] pos) (tMake C sp [] E0 t) := by
  obtain ⟨f, fd, hm, M, hb, F⟩ := D
  exact pe_make M F (hr.mono hk) hg hm hb .nil pass0 ha (hdb := hdb) (he := he) (hpl := hpl)
theorem pe_M0 {X : Cx} {k j : Nat} {C : Addr} {ps : List Str} {sp : Sp} {x : Str} {p pos : Pos} (D : Make X.prog X.w X.K X.mg X.base x C k ps sp) (hr : Room j X.A) (hk : k + 1 ≤ j := by decide) (hg : Gl X x := by rfl)
    (hdb : (x == ("__debug__" : Str)) = false := by decide) : PE X (.Call (.Name x p) [] [] pos) (tMake C sp [] E0 tNil) := by
  obtain ⟨f, fd, hm, M, hb, F⟩ := D
  exact pe_make0 M F (hr.mono hk) hg hm hb .nil pass0 (hdb := hdb)
def spDeedInit (CD : Addr) : Sp := fun vs H Q _ => ∃ (p dx : Addr) (i d : Nat) (r : Bool), vs = [.ref p, nV i, nV d, .bl r] ∧ H p = some (.ins CD dx []) ∧
  ∀ H' : Hp, DeedAt CD H' p ⟨i, d, r⟩ → (∀ b o, H b = some o → b ≠ p → H' b = some o) → Q .non H'
def spTreatyInit (CD CT : Addr) : Sp := fun vs H Q _ => ∃ (p dx : Addr), vs = [.ref p] ∧ H p = some (.ins CT dx []) ∧
  ∀ (H' : Hp) (l : Addr), TrAt CD CT H' p l [] noBook → H l = none → (∀ b o, H b = some o → b ≠ p → H' b = some o) → Q .non H'
def spAreTerms : Sp := fun vs H Q _ => ∃ n k s w v f : Nat, vs = [nV n, nV k, nV s, nV w, nV v, nV f] ∧ Q (.bl (Km479.okTreaty ⟨n, k, s, w, v, f⟩)) H
def dayRef (b : Book) (d : Nat) : Int := if 10000 < d then -22 else if d < b.lastDay then -13 else 0
def spDayRefusal (CD CT : Addr) : Sp := fun vs H Q _ => ∃ (a : Addr) (b : Book) (d : Nat), vs = [.ref a, nV d] ∧ BkAt CD CT H a b ∧ Q (.int (dayRef b d)) H
def refusal (b : Book) (i d : Nat) : Int := if b.treaty.n ≤ i then -2 else if 10000 < d then -22 else if d < b.lastDay then -13 else 0
def termsL (t : Treaty) : List Nat := [t.n, t.need, t.named, t.wait, t.notice, t.floor]
def spTermsOf (CD CT : Addr) : Sp := fun vs H Q _ => ∃ (a : Addr) (b : Book), vs = [.ref a] ∧ BkAt CD CT H a b ∧ ∀ p, H p = none → Q (.ref p) (upd H p (.lst (nsV (termsL b.treaty))))
/-- the terms of a list, stored; all else as it was -/
def spSetTerms (K : PySem.W.Frag) (CT : Addr) : Sp := fun vs H Q _ => ∃ (a g dx l : Addr) (t u : Treaty), vs = [.ref a, .ref g] ∧ H a = some (.ins CT dx (treF t l)) ∧ SqL K H g (nsV (termsL u)) ∧
  ∀ H' : Hp, H' a = some (.ins CT dx (treF u l)) → (∀ x, x ≠ a → H' x = H x) → Q .non H'
def spDeedRefusal (CD CT : Addr) : Sp := fun vs H Q _ => ∃ (a : Addr) (b : Book) (i d : Nat), vs = [.ref a, nV i, nV d] ∧ BkAt CD CT H a b ∧ Q (.int (refusal b i d)) H
/-- A CALL: what it answers, and what becomes of the book, as told -/
def spFo (K : PySem.W.Frag) (CD CT : Addr) (call : List Nat → Option Km479.Call) : Sp := fun vs H Q _ => ∃ (a g l : Addr) (as : List Addr) (b : Book) (xs : List Nat) (c : Km479.Call),
  vs = [.ref a, .ref g] ∧ TrAt CD CT H a l as b ∧ (Km479.isStart c = false → WF4 b) ∧ SqL K H g (nsV xs) ∧ call xs = some c ∧
  ∀ (H' : Hp) (p l' : Addr) (as' : List Addr), TrAt CD CT H' a l' as' (Km479.act b c).1 → (l' = l ∨ H l' = none) → (∀ x o, H x = some o → x ≠ a → x ≠ l → H' x = some o) →
    H p = none → H' p = some (.lst ((Km479Neutral.told (Km479.act b c).2).map V.int)) → Q (.ref p) H'
theorem TrAt.bk {CD CT : Addr} {H : Hp} {a l : Addr} {as : List Addr} {b : Book} (h : TrAt CD CT H a l as b) : BkAt CD CT H a b := ⟨l, as, h⟩
section
variable {P : Program} {w : World} {K : PySem.W.Frag} {mg : Str → Option Value} {base : Heap} {CD CT : Addr}
theorem scDeedInit : FnScope ["self", "state", "day", "ratified"] ["self", "state", "day", "ratified"] (defScope sDeedInit) := ⟨rfl, rfl, rfl, by decide +kernel, rfl, by decide +kernel, by decide +kernel⟩
theorem deedF_new (e : Ev) : putF "ratified" (.bl e.ratifies) (putF "day" (nV e.day) (putF "state" (nV e.state) [])) = deedF e := by
  show putF "ratified" _ (putF "day" _ [(("state" : Str), nV e.state)]) = _
  rw [put_past (by decide +kernel)]
  show putF "ratified" _ [(("state" : Str), nV e.state), (("day" : Str), nV e.day)] = _
  rw [put_past (by decide +kernel), put_past (by decide +kernel)]
  rfl
theorem ok_deed_init {f : Addr} {fd : FuncData} (F : Fun K "__init__" "Deed.__init__" sDeedInit f fd) (T : Txt K CD CT) : FnOk P w K mg base CX0 1 f fd ["self", "state", "day", "ratified"] (spDeedInit CD) := by
  refine F.ok scDeedInit (fun vs H Q E h => ?_) (fun cdv A outer s H vs Q E hr h => ?_)
  · obtain ⟨p, dx, i, d, r, rfl, _⟩ := h
    rfl
  · obtain ⟨p, dx, i, d, r, rfl, hp, k⟩ := h
    refine ⟨_, pss_cons (ps_fld (pv 0) (pv 1) rfl) (pss_cons (ps_fld (pv 0) (pv 2) rfl) (pss_one (ps_fld (pv 0) (pv 3) rfl))), ?_⟩
    refine ⟨_, rfl, _, rfl, p, CD, dx, [], rfl, hp, T.clD, T.dS, (by show 0 < 1000; decide), ?_⟩
    refine ⟨_, rfl, _, rfl, p, CD, dx, _, rfl, upd_same, T.clD, T.dD, (by show 1 < 1000; decide), ?_⟩
    refine ⟨_, rfl, _, rfl, p, CD, dx, _, rfl, upd_same, T.clD, T.dR, (by show 2 < 1000; decide), ?_⟩
    exact k _ ⟨dx, Eq.trans upd_same (congrArg (fun q => some (HO.ins CD dx q)) (deedF_new ⟨i, d, r⟩))⟩ fun b o e hb => by
      rw [upd_ne hb, upd_ne hb, upd_ne hb]
      exact e
theorem scTreatyInit : FnScope ["self"] ["self"] (defScope sTreatyInit) := ⟨rfl, rfl, rfl, by decide +kernel, rfl, by decide +kernel, by decide +kernel⟩
theorem treF_new (t : Treaty) (l : Addr) : putF "deeds" (.ref l) (putF "floor" (nV t.floor) (putF "notice" (nV t.notice) (putF "wait" (nV t.wait) (putF "named" (nV t.named) (putF "need" (nV t.need) (putF "n" (nV t.n) [])))))) = treF t l := by
  show putF "deeds" (.ref l) (putF "floor" (nV t.floor) (putF "notice" (nV t.notice) (putF "wait" (nV t.wait) (putF "named" (nV t.named) (putF "need" (nV t.need) [(("n" : Str), nV t.n)]))))) = _
  rw [put_past (by decide +kernel)]
  show putF "deeds" (.ref l) (putF "floor" (nV t.floor) (putF "notice" (nV t.notice) (putF "wait" (nV t.wait) (putF "named" (nV t.named) [(("n" : Str), nV t.n), (("need" : Str), nV t.need)])))) = _
  rw [put_past (by decide +kernel), put_past (by decide +kernel)]
  show putF "deeds" (.ref l) (putF "floor" (nV t.floor) (putF "notice" (nV t.notice) (putF "wait" (nV t.wait) [(("n" : Str), nV t.n), (("need" : Str), nV t.need), (("named" : Str), nV t.named)]))) = _
  rw [put_past (by decide +kernel), put_past (by decide +kernel), put_past (by decide +kernel)]
  show putF "deeds" (.ref l) (putF "floor" (nV t.floor) (putF "notice" (nV t.notice) [(("n" : Str), nV t.n), (("need" : Str), nV t.need), (("named" : Str), nV t.named), (("wait" : Str), nV t.wait)])) = _
  rw [put_past (by decide +kernel), put_past (by decide +kernel), put_past (by decide +kernel), put_past (by decide +kernel)]
  show putF "deeds" (.ref l) (putF "floor" (nV t.floor) [(("n" : Str), nV t.n), (("need" : Str), nV t.need), (("named" : Str), nV t.named), (("wait" : Str), nV t.wait), (("notice" : Str), nV t.notice)]) = _
  rw [put_past (by decide +kernel), put_past (by decide +kernel), put_past (by decide +kernel), put_past (by decide +kernel), put_past (by decide +kernel)]
  show putF "deeds" (.ref l) [(("n" : Str), nV t.n), (("need" : Str), nV t.need), (("named" : Str), nV t.named), (("wait" : Str), nV t.wait), (("notice" : Str), nV t.notice), (("floor" : Str), nV t.floor)] = _
  rw [put_past (by decide +kernel), put_past (by decide +kernel), put_past (by decide +kernel), put_past (by decide +kernel), put_past (by decide +kernel), put_past (by decide +kernel)]
  rfl
theorem ok_treaty_init {f : Addr} {fd : FuncData} (F : Fun K "__init__" "Treaty.__init__" sTreatyInit f fd) (T : Txt K CD CT) : FnOk P w K mg base CX0 1 f fd ["self"] (spTreatyInit CD CT) := by
  refine F.ok scTreatyInit (fun vs H Q E h => ?_) (fun cdv A outer s H vs Q E hr h => ?_)
  · obtain ⟨p, dx, rfl, _⟩ := h
    rfl
  · obtain ⟨p, dx, rfl, hp, k⟩ := h
    refine ⟨_, pss_cons (ps_fld (pv 0) pe_int rfl) (pss_cons (ps_fld (pv 0) pe_int rfl) (pss_cons (ps_fld (pv 0) pe_int rfl) (pss_cons (ps_fld (pv 0) pe_int rfl) (pss_cons (ps_fld (pv 0) pe_int rfl) (pss_cons (ps_fld (pv 0) pe_int rfl) (pss_one (ps_fld (pv 0) (pe_lst pa_nil) rfl))))))), ?_⟩
    refine ⟨_, rfl, p, CT, dx, [], rfl, hp, T.clT, T.tN, (by show 0 < 1000; decide), ?_⟩
    refine ⟨_, rfl, p, CT, dx, _, rfl, upd_same, T.clT, T.tNeed, (by show 1 < 1000; decide), ?_⟩
    refine ⟨_, rfl, p, CT, dx, _, rfl, upd_same, T.clT, T.tNamed, (by show 2 < 1000; decide), ?_⟩
    refine ⟨_, rfl, p, CT, dx, _, rfl, upd_same, T.clT, T.tWait, (by show 3 < 1000; decide), ?_⟩
    refine ⟨_, rfl, p, CT, dx, _, rfl, upd_same, T.clT, T.tNotice, (by show 4 < 1000; decide), ?_⟩
    refine ⟨_, rfl, p, CT, dx, _, rfl, upd_same, T.clT, T.tFloor, (by show 5 < 1000; decide), ?_⟩
    refine ⟨Nat.zero_le _, fun l hl => ?_⟩
    have hpl : p ≠ l := ne_of_none upd_same hl
    refine ⟨_, rfl, p, CT, dx, _, rfl, (upd_ne hpl).trans upd_same, T.clT, T.tDeeds, (by show 6 < 1000; decide), ?_⟩
    have hl0 : H l = none := by
      rw [upd_ne (Ne.symm hpl), upd_ne (Ne.symm hpl), upd_ne (Ne.symm hpl), upd_ne (Ne.symm hpl), upd_ne (Ne.symm hpl), upd_ne (Ne.symm hpl)] at hl
      exact hl
    refine k _ l ⟨⟨dx, Eq.trans upd_same (congrArg (fun q => some (HO.ins CT dx q)) (treF_new ⟨0, 0, 0, 0, 0, 0⟩ l))⟩, ?_, rfl, fun j c hc => by simp at hc⟩ hl0 fun b o e hb => ?_
    · rw [upd_ne (Ne.symm hpl)]
      exact upd_same
    · rw [upd_ne hb, upd_ne (ne_of_none e hl0), upd_ne hb, upd_ne hb, upd_ne hb, upd_ne hb, upd_ne hb, upd_ne hb]
      exact e
end
end TF
set_option Elab.async false
set_option maxRecDepth 100000
set_option maxHeartbeats 2000000
namespace TF
open PySem PySem.Spec PyProof.Rows L2
open Km479 (Treaty Book)
theorem shl_nat (n : Nat) : (1 : Int) * 2 ^ ((n : Int).toNat) = ((2 ^ n : Nat) : Int) := by
  rw [Int.one_mul, Int.toNat_natCast, Int.natCast_pow]
  rfl
theorem ok_false {n k s w v f : Nat} (h : ¬ (1 ≤ n ∧ n ≤ 10 ∧ 1 ≤ k ∧ k ≤ n ∧ s < 2 ^ n ∧ w ≤ 365 ∧ 1 ≤ v ∧ v ≤ 365 ∧ f ≤ n)) : Km479.okTreaty ⟨n, k, s, w, v, f⟩ = false := by
  cases e : Km479.okTreaty ⟨n, k, s, w, v, f⟩ with
  | false => rfl
  | true => exact absurd (ok_iff.mp e) h
structure Consts (mg : Str → Option Value) : Prop where
  MOST_STATES : GI mg "MOST_STATES" (10)
  MOST_WAIT : GI mg "MOST_WAIT" (365)
  MOST_NOTICE : GI mg "MOST_NOTICE" (365)
  LATEST_DAY : GI mg "LATEST_DAY" (10000)
  MOST_DEEDS : GI mg "MOST_DEEDS" (24)
  NO_REFUSAL : GI mg "NO_REFUSAL" (0)
  NONE_THERE : GI mg "NONE_THERE" (-2)
  NOT_RATIFIED : GI mg "NOT_RATIFIED" (-6)
  LATER_DONE : GI mg "LATER_DONE" (-13)
  NOTICE_RUNS : GI mg "NOTICE_RUNS" (-16)
  ALREADY_SO : GI mg "ALREADY_SO" (-17)
  NOT_AS_TOLD : GI mg "NOT_AS_TOLD" (-22)
  FULL : GI mg "FULL" (-28)
  NO_DAY : GI mg "NO_DAY" (-33)
  NO_END : GI mg "NO_END" (-61)
section
variable {P : Program} {w : World} {K : PySem.W.Frag} {mg : Str → Option Value} {base : Heap} {CD CT : Addr}
theorem scAreTerms : FnScope ["n", "need", "named", "wait", "notice", "floor"] ["n", "need", "named", "wait", "notice", "floor"] (defScope sAreTerms) := ⟨rfl, rfl, rfl, by decide +kernel, rfl, by decide +kernel, by decide +kernel⟩
theorem ok_are_terms {f : Addr} {fd : FuncData} (F : Fun K "are_terms" "are_terms" sAreTerms f fd) (G : Consts mg) : FnOk P w K mg base CX0 1 f fd ["n", "need", "named", "wait", "notice", "floor"] spAreTerms := by
  refine F.ok scAreTerms (fun vs H Q E h => ?_) (fun cdv A outer s H vs Q E hr h => ?_)
  · obtain ⟨n, k, s, w, v, f, rfl, _⟩ := h
    rfl
  · obtain ⟨n, nd, nm, wt, nt, fl, rfl, k⟩ := h
    refine ⟨_, pss_cons (ps_if (PW.pt (pw_or (pt_cmp (pc_lt (pv 0) pe_int)) (pw_or1 (pt_cmp (pc_gt (pv 0) (pe_G G.MOST_STATES)))))) (pss_one (ps_ret pe_bl)) pss_nil)
      (pss_cons (ps_if (PW.pt (pw_or (pt_cmp (pc_lt (pv 1) pe_int)) (pw_or (pt_cmp (pc_gt (pv 1) (pv 0))) (pw_or (pt_cmp (pc_ge (pv 2) (pe_op op_shl pe_int (pv 0)))) (pw_or1 (pt_cmp (pc_gt (pv 5) (pv 0)))))))) (pss_one (ps_ret pe_bl)) pss_nil)
      (pss_one (ps_ret (pe_and (pe_cmp (pc_le (pv 3) (pe_G G.MOST_WAIT)) rfl) (pe_one (pe_chain op_le op_le pe_int (pv 4) (pe_G G.MOST_NOTICE))))))), ?_⟩
    refine ⟨_, rfl, _, _, rfl, rfl, _, rfl, ?_⟩
    by_cases h1 : n < 1
    · refine if_true_of (decide_eq_true (by omega)) ?_
      refine iteT ?_
      rw [ok_false (by omega)] at k
      exact k
    refine if_false_of (decide_eq_false (by omega)) ?_
    refine ⟨_, rfl, _, _, rfl, rfl, _, rfl, ?_⟩
    by_cases h2 : 10 < n
    · refine if_true_of (decide_eq_true (by omega)) ?_
      rw [ok_false (by omega)] at k
      exact k
    refine if_false_of (decide_eq_false (by omega)) ?_
    refine ⟨_, rfl, _, _, rfl, rfl, _, rfl, ?_⟩
    by_cases h3 : nd < 1
    · refine if_true_of (decide_eq_true (by omega)) ?_
      refine iteT ?_
      rw [ok_false (by omega)] at k
      exact k
    refine if_false_of (decide_eq_false (by omega)) ?_
    refine ⟨_, rfl, _, rfl, _, _, rfl, rfl, _, rfl, ?_⟩
    by_cases h4 : n < nd
    · refine if_true_of (decide_eq_true (by omega)) ?_
      refine iteT ?_
      rw [ok_false (by omega)] at k
      exact k
    refine if_false_of (decide_eq_false (by omega)) ?_
    refine ⟨_, rfl, _, rfl, _, _, rfl, rfl, ⟨by omega, by omega, by decide⟩, _, _, rfl, rfl, _, rfl, ?_⟩
    rw [shl_nat]
    by_cases h5 : 2 ^ n ≤ nm
    · refine if_true_of (decide_eq_true (by omega)) ?_
      refine iteT ?_
      rw [ok_false (by omega)] at k
      exact k
    refine if_false_of (decide_eq_false (by omega)) ?_
    refine ⟨_, rfl, _, rfl, _, _, rfl, rfl, _, rfl, ?_⟩
    by_cases h6 : n < fl
    · refine if_true_of (decide_eq_true (by omega)) ?_
      rw [ok_false (by omega)] at k
      exact k
    refine if_false_of (decide_eq_false (by omega)) ?_
    refine ⟨_, rfl, _, _, rfl, rfl, _, rfl, ?_⟩
    by_cases h7 : wt ≤ 365
    · refine if_true_of (decide_eq_true (by omega)) ?_
      refine ⟨_, rfl, _, _, rfl, rfl, _, rfl, ?_⟩
      by_cases h8 : 1 ≤ nt
      · refine if_true_of (decide_eq_true (by omega)) ?_
        refine ⟨_, _, rfl, rfl, ?_⟩
        have e : Km479.okTreaty ⟨n, nd, nm, wt, nt, fl⟩ = decide ((nt : Int) ≤ 365) := by
          rw [Bool.eq_iff_iff, ok_iff, decide_eq_true_eq]
          omega
        rw [e] at k
        exact k
      · refine if_false_of (decide_eq_false (by omega)) ?_
        rw [ok_false (by omega)] at k
        exact k
    · refine if_false_of (decide_eq_false (by omega)) ?_
      rw [ok_false (by omega)] at k
      exact k
theorem scDayRefusal : FnScope ["treaty", "d"] ["treaty", "d"] (defScope sDayRefusal) := ⟨rfl, rfl, rfl, by decide +kernel, rfl, by decide +kernel, by decide +kernel⟩
theorem ok_day_refusal {f : Addr} {fd : FuncData} (F : Fun K "day_refusal" "day_refusal" sDayRefusal f fd) (G : Consts mg) (D_last_day : Def P w K mg base "last_day" 1 ["treaty"] (spLastDay CD CT)) :
    FnOk P w K mg base CX0 2 f fd ["treaty", "d"] (spDayRefusal CD CT) := by
  refine F.ok scDayRefusal (fun vs H Q E h => ?_) (fun cdv A outer s H vs Q E hr h => ?_)
  · obtain ⟨a, b, d, rfl, _⟩ := h
    rfl
  · obtain ⟨a, b, d, rfl, hB, k⟩ := h
    refine ⟨_, pss_cons (ps_if (pt_cmp (pc_gt (pv 1) (pe_G G.LATEST_DAY))) (pss_one (ps_ret (pe_G G.NOT_AS_TOLD))) pss_nil)
      (pss_cons (ps_if (pt_cmp (pc_gt (pe_D D_last_day hr (pa_cons (pv 0) pa_nil)) (pv 1))) (pss_one (ps_ret (pe_G G.LATER_DONE))) pss_nil)
      (pss_one (ps_ret (pe_G G.NO_REFUSAL)))), ?_⟩
    unfold dayRef at k
    refine ⟨_, rfl, _, _, rfl, rfl, _, rfl, ?_⟩
    by_cases h2 : 10000 < d
    · refine if_true_of (decide_eq_true (by omega)) ?_
      rw [if_pos h2] at k
      exact k
    refine if_false_of (decide_eq_false (by omega)) ?_
    rw [if_neg h2] at k
    refine ⟨_, rfl, a, b, rfl, hB, _, rfl, _, _, rfl, rfl, _, rfl, ?_⟩
    by_cases h3 : d < b.lastDay
    · refine if_true_of (decide_eq_true (by omega)) ?_
      rw [if_pos h3] at k
      exact k
    refine if_false_of (decide_eq_false (by omega)) ?_
    rw [if_neg h3] at k
    exact k
theorem scDeedRefusal : FnScope ["treaty", "i", "d"] ["treaty", "i", "d"] (defScope sDeedRefusal) := ⟨rfl, rfl, rfl, by decide +kernel, rfl, by decide +kernel, by decide +kernel⟩
theorem ok_deed_refusal {f : Addr} {fd : FuncData} (F : Fun K "deed_refusal" "deed_refusal" sDeedRefusal f fd) (T : Txt K CD CT) (G : Consts mg) (D_day_refusal : Def P w K mg base "day_refusal" 2 ["treaty", "d"] (spDayRefusal CD CT)) :
    FnOk P w K mg base CX0 3 f fd ["treaty", "i", "d"] (spDeedRefusal CD CT) := by
  refine F.ok scDeedRefusal (fun vs H Q E h => ?_) (fun cdv A outer s H vs Q E hr h => ?_)
  · obtain ⟨a, b, i, d, rfl, _⟩ := h
    rfl
  · obtain ⟨a, b, i, d, rfl, hB, k⟩ := h
    refine ⟨_, pss_cons (ps_if (pt_cmp (pc_ge (pv 1) (pe_fld (pv 0) rfl))) (pss_one (ps_ret (pe_G G.NONE_THERE))) pss_nil)
      (pss_one (ps_ret (pe_D D_day_refusal hr (pa_cons (pv 0) (pa_cons (pv 2) pa_nil))))), ?_⟩
    obtain ⟨l, as, ⟨dx, hT⟩, _⟩ := id hB
    unfold refusal at k
    refine ⟨_, rfl, _, rfl, a, CT, dx, _, _, rfl, hT, T.clT, T.tN, treF_n _ _, _, _, rfl, rfl, _, rfl, ?_⟩
    by_cases h1 : b.treaty.n ≤ i
    · refine if_true_of (decide_eq_true (by omega)) ?_
      rw [if_pos h1] at k
      exact k
    refine if_false_of (decide_eq_false (by omega)) ?_
    rw [if_neg h1] at k
    exact ⟨_, rfl, _, rfl, a, b, d, rfl, hB, k⟩
end
end TF
set_option Elab.async false
set_option maxRecDepth 100000
set_option maxHeartbeats 2000000
namespace TF
open PySem PySem.Spec PyProof.Rows L2
open Km479 (Treaty Book)
/-! ### what the specification's calls do, case by case -/
theorem told_only (v : Int) : (Km479Neutral.told (Km479.only v)).map V.int = [.int v] := rfl
section
variable {b : Book} {i d : Nat}
theorem ref_cases (h : refusal b i d ≠ 0) (c : Nat → Nat → Km479.Call) (hc : c = .ratify ∨ c = .notice) : Km479.act b (c i d) = (b, Km479.only (refusal b i d)) := by
  unfold refusal at h ⊢
  by_cases h1 : b.treaty.n ≤ i
  · rw [if_pos h1]
    rcases hc with rfl | rfl <;> exact if_pos h1
  · rw [if_neg h1] at h ⊢
    by_cases h2 : 10000 < d
    · rw [if_pos h2]
      rcases hc with rfl | rfl <;> exact (if_neg h1).trans (if_pos h2)
    · rw [if_neg h2] at h ⊢
      by_cases h3 : d < b.lastDay
      · rw [if_pos h3]
        rcases hc with rfl | rfl <;> exact (if_neg h1).trans ((if_neg h2).trans (if_pos h3))
      · rw [if_neg h3] at h
        exact absurd rfl h
theorem ref_zero (h : refusal b i d = 0) : ¬ b.treaty.n ≤ i ∧ ¬ 10000 < d ∧ ¬ d < b.lastDay := by
  unfold refusal at h
  by_cases h1 : b.treaty.n ≤ i
  · rw [if_pos h1] at h; cases h
  · rw [if_neg h1] at h
    by_cases h2 : 10000 < d
    · rw [if_pos h2] at h; cases h
    · rw [if_neg h2] at h
      by_cases h3 : d < b.lastDay
      · rw [if_pos h3] at h; cases h
      · exact ⟨h1, h2, h3⟩
theorem act_ratify (h : refusal b i d = 0) : Km479.act b (.ratify i d) = if b.leaving i d = true then (b, Km479.only (-16)) else if b.ratified i d = true then (b, Km479.only (-17)) else if 24 ≤ b.events.length then (b, Km479.only (-28)) else
    ({ b with events := b.events ++ [⟨i, d, true⟩] }, Km479.only ((({ b with events := b.events ++ [⟨i, d, true⟩] } : Book).set d).length : Nat)) := by
  obtain ⟨h1, h2, h3⟩ := ref_zero h
  exact (if_neg h1).trans ((if_neg h2).trans (if_neg h3))
theorem act_notice (h : refusal b i d = 0) : Km479.act b (.notice i d) = if b.ratified i d = false then (b, Km479.only (-6)) else if b.leaving i d = true then (b, Km479.only (-17)) else if 24 ≤ b.events.length then (b, Km479.only (-28)) else
    ({ b with events := b.events ++ [⟨i, d, false⟩] }, Km479.only ((d + b.treaty.notice : Nat) : Int)) := by
  obtain ⟨h1, h2, h3⟩ := ref_zero h
  exact (if_neg h1).trans ((if_neg h2).trans (if_neg h3))
end
section
variable {P : Program} {w : World} {K : PySem.W.Frag} {mg : Str → Option Value} {base : Heap} {CD CT : Addr}
/-- a call that leaves the book as it is, and answers a new list -/
theorem fo_same {H : Hp} {a l : Addr} {as : List Addr} {b : Book} {c : Km479.Call} {Q : VK}
    (k : ∀ (H' : Hp) (p l' : Addr) (as' : List Addr), TrAt CD CT H' a l' as' (Km479.act b c).1 → (l' = l ∨ H l' = none) → (∀ x o, H x = some o → x ≠ a → x ≠ l → H' x = some o) →
      H p = none → H' p = some (.lst ((Km479Neutral.told (Km479.act b c).2).map V.int)) → Q (.ref p) H')
    (hT : TrAt CD CT H a l as b) {r : Km479.Ans} (hb : Km479.act b c = (b, r)) {H1 : Hp} (s1 : Same H H1) {p : Addr} (hp : H1 p = none) {vs : List V} (hv : vs = (Km479Neutral.told r).map V.int) : Q (.ref p) (upd H1 p (.lst vs)) := by
  rw [hb] at k
  have s2 : Same H (upd H1 p (.lst vs)) := Same.upd s1 hp
  exact k _ p l as (hT.same s2) (.inl rfl) (fun x o e _ _ => s2 _ _ e) (s1.free hp) (by rw [upd_same, hv])
theorem SqL.past {H : Hp} {g a : Addr} {xs : List V} {C dx : Addr} {fs : List (Str × V)} {o : HO} (h : SqL K H g xs) (ha : H a = some (.ins C dx fs)) : SqL K (upd H a o) g xs := by
  rcases h with (h | ⟨q, h⟩) | h
  · have : g ≠ a := ne_of h ha (by intro z; cases z)
    exact .inl (.inl ((upd_ne this).trans h))
  · have : g ≠ a := ne_of h ha (by intro z; cases z)
    exact .inl (.inr ⟨q, (upd_ne this).trans h⟩)
  · exact .inr h
/-! ### the fields stored anew -/
theorem put_n (t : Treaty) (l : Addr) (v : Nat) : putF "n" (nV v) (treF t l) = treF { t with n := v } l := put_here
theorem put_need (t : Treaty) (l : Addr) (v : Nat) : putF "need" (nV v) (treF t l) = treF { t with need := v } l := (put_past (by decide +kernel)).trans (congrArg _ put_here)
theorem put_named (t : Treaty) (l : Addr) (v : Nat) : putF "named" (nV v) (treF t l) = treF { t with named := v } l := (put_past (by decide +kernel)).trans (congrArg _ ((put_past (by decide +kernel)).trans (congrArg _ put_here)))
theorem put_wait (t : Treaty) (l : Addr) (v : Nat) : putF "wait" (nV v) (treF t l) = treF { t with wait := v } l := (put_past (by decide +kernel)).trans (congrArg _ ((put_past (by decide +kernel)).trans (congrArg _ ((put_past (by decide +kernel)).trans (congrArg _ put_here)))))
theorem put_notice (t : Treaty) (l : Addr) (v : Nat) : putF "notice" (nV v) (treF t l) = treF { t with notice := v } l := (put_past (by decide +kernel)).trans (congrArg _ ((put_past (by decide +kernel)).trans (congrArg _ ((put_past (by decide +kernel)).trans (congrArg _ ((put_past (by decide +kernel)).trans (congrArg _ put_here)))))))
theorem put_floor (t : Treaty) (l : Addr) (v : Nat) : putF "floor" (nV v) (treF t l) = treF { t with floor := v } l := (put_past (by decide +kernel)).trans (congrArg _ ((put_past (by decide +kernel)).trans (congrArg _ ((put_past (by decide +kernel)).trans (congrArg _ ((put_past (by decide +kernel)).trans (congrArg _ ((put_past (by decide +kernel)).trans (congrArg _ put_here)))))))))
theorem put_deeds (t : Treaty) (l l' : Addr) : putF "deeds" (.ref l') (treF t l) = treF t l' := (put_past (by decide +kernel)).trans (congrArg _ ((put_past (by decide +kernel)).trans (congrArg _ ((put_past (by decide +kernel)).trans (congrArg _ ((put_past (by decide +kernel)).trans (congrArg _ ((put_past (by decide +kernel)).trans (congrArg _ ((put_past (by decide +kernel)).trans (congrArg _ put_here)))))))))))
theorem scTermsOf : FnScope ["treaty"] ["treaty"] (defScope sTermsOf) := ⟨rfl, rfl, rfl, by decide +kernel, rfl, by decide +kernel, by decide +kernel⟩
theorem ok_terms_of {f : Addr} {fd : FuncData} (F : Fun K "terms_of" "terms_of" sTermsOf f fd) (T : Txt K CD CT) : FnOk P w K mg base CX0 1 f fd ["treaty"] (spTermsOf CD CT) := by
  refine F.ok scTermsOf (fun vs H Q E h => ?_) (fun cdv A outer s H vs Q E hr h => ?_)
  · obtain ⟨a, b, rfl, _⟩ := h
    rfl
  · obtain ⟨a, b, rfl, ⟨l, as, ⟨dx, hT⟩, _⟩, k⟩ := h
    refine ⟨_, pss_one (ps_ret (pe_lst (pa_cons (pe_fld (pv 0) rfl) (pa_cons (pe_fld (pv 0) rfl) (pa_cons (pe_fld (pv 0) rfl) (pa_cons (pe_fld (pv 0) rfl) (pa_cons (pe_fld (pv 0) rfl) (pa_cons (pe_fld (pv 0) rfl) pa_nil)))))))), ?_⟩
    refine ⟨_, rfl, a, CT, dx, _, _, rfl, hT, T.clT, T.tN, treF_n _ _, _, rfl, a, CT, dx, _, _, rfl, hT, T.clT, T.tNeed, treF_need _ _, _, rfl, a, CT, dx, _, _, rfl, hT, T.clT, T.tNamed, treF_named _ _, _, rfl, a, CT, dx, _, _, rfl, hT, T.clT, T.tWait, treF_wait _ _, _, rfl, a, CT, dx, _, _, rfl, hT, T.clT, T.tNotice, treF_notice _ _, _, rfl, a, CT, dx, _, _, rfl, hT, T.clT, T.tFloor, treF_floor _ _, by show 6 ≤ sizeLine; decide, fun p hp => ?_⟩
    exact k p hp
theorem scSetTerms : FnScope ["treaty", "terms"] ["treaty", "terms"] (defScope sSetTerms) := ⟨rfl, rfl, rfl, by decide +kernel, rfl, by decide +kernel, by decide +kernel⟩
theorem ok_set_terms {f : Addr} {fd : FuncData} (F : Fun K "set_terms" "set_terms" sSetTerms f fd) (T : Txt K CD CT) : FnOk P w K mg base CX0 1 f fd ["treaty", "terms"] (spSetTerms K CT) := by
  refine F.ok scSetTerms (fun vs H Q E h => ?_) (fun cdv A outer s H vs Q E hr h => ?_)
  · obtain ⟨a, g, dx, l, t, u, rfl, _⟩ := h
    rfl
  · obtain ⟨a, g, dx, l, t, u, rfl, ho, hg, k⟩ := h
    refine ⟨_, pss_cons (ps_fld (pv 0) (pe_ix ix_list (pv 1) pe_int (fun _ _ => rfl)) rfl)
      (pss_cons (ps_fld (pv 0) (pe_ix ix_list (pv 1) pe_int (fun _ _ => rfl)) rfl)
      (pss_cons (ps_fld (pv 0) (pe_ix ix_list (pv 1) pe_int (fun _ _ => rfl)) rfl)
      (pss_cons (ps_fld (pv 0) (pe_ix ix_list (pv 1) pe_int (fun _ _ => rfl)) rfl)
      (pss_cons (ps_fld (pv 0) (pe_ix ix_list (pv 1) pe_int (fun _ _ => rfl)) rfl)
      (pss_one (ps_fld (pv 0) (pe_ix ix_list (pv 1) pe_int (fun _ _ => rfl)) rfl)))))), ?_⟩
    obtain ⟨n, nd, nm, wt, nt, fl⟩ := u
    have i0 : atI (nsV [n, nd, nm, wt, nt, fl]) 0 = some (nV n) := at_of (j := 0) rfl rfl
    have i1 : atI (nsV [n, nd, nm, wt, nt, fl]) 1 = some (nV nd) := at_of (j := 1) rfl rfl
    have i2 : atI (nsV [n, nd, nm, wt, nt, fl]) 2 = some (nV nm) := at_of (j := 2) rfl rfl
    have i3 : atI (nsV [n, nd, nm, wt, nt, fl]) 3 = some (nV wt) := at_of (j := 3) rfl rfl
    have i4 : atI (nsV [n, nd, nm, wt, nt, fl]) 4 = some (nV nt) := at_of (j := 4) rfl rfl
    have i5 : atI (nsV [n, nd, nm, wt, nt, fl]) 5 = some (nV fl) := at_of (j := 5) rfl rfl
    refine ⟨_, rfl, g, _, _, _, rfl, rfl, hg, i0, _, rfl, a, CT, dx, _, rfl, ho, T.clT, T.tN, (by show 7 < 1000; decide), ?_⟩
    have g1 := SqL.past (o := .ins CT dx (putF "n" (nV n) (treF t l))) hg ho
    refine ⟨_, rfl, g, _, _, _, rfl, rfl, g1, i1, _, rfl, a, CT, dx, _, rfl, upd_same, T.clT, T.tNeed, (by rw [put_n]; show 7 < 1000; decide), ?_⟩
    rw [put_n, put_need]
    have g2 := SqL.past (o := .ins CT dx (treF { t with n := n, need := nd } l)) g1 upd_same
    rw [put_n] at g2
    refine ⟨_, rfl, g, _, _, _, rfl, rfl, g2, i2, _, rfl, a, CT, dx, _, rfl, upd_same, T.clT, T.tNamed, (by show 7 < 1000; decide), ?_⟩
    rw [put_named]
    have g3 := SqL.past (o := .ins CT dx (treF { t with n := n, need := nd, named := nm } l)) g2 upd_same
    refine ⟨_, rfl, g, _, _, _, rfl, rfl, g3, i3, _, rfl, a, CT, dx, _, rfl, upd_same, T.clT, T.tWait, (by show 7 < 1000; decide), ?_⟩
    rw [put_wait]
    have g4 := SqL.past (o := .ins CT dx (treF { t with n := n, need := nd, named := nm, wait := wt } l)) g3 upd_same
    refine ⟨_, rfl, g, _, _, _, rfl, rfl, g4, i4, _, rfl, a, CT, dx, _, rfl, upd_same, T.clT, T.tNotice, (by show 7 < 1000; decide), ?_⟩
    rw [put_notice]
    have g5 := SqL.past (o := .ins CT dx (treF { t with n := n, need := nd, named := nm, wait := wt, notice := nt } l)) g4 upd_same
    refine ⟨_, rfl, g, _, _, _, rfl, rfl, g5, i5, _, rfl, a, CT, dx, _, rfl, upd_same, T.clT, T.tFloor, (by show 7 < 1000; decide), ?_⟩
    rw [put_floor]
    refine k _ upd_same fun x hx => ?_
    rw [upd_ne hx, upd_ne hx, upd_ne hx, upd_ne hx, upd_ne hx, upd_ne hx]
theorem scFoStart : FnScope ["treaty", "given"] ["treaty", "given"] (defScope sFoStart) := ⟨rfl, rfl, rfl, by decide +kernel, rfl, by decide +kernel, by decide +kernel⟩
theorem ok_fo_start {f : Addr} {fd : FuncData} (F : Fun K "fo_start" "fo_start" sFoStart f fd) (T : Txt K CD CT) (G : Consts mg) (D_are_terms : Def P w K mg base "are_terms" 1 ["n", "need", "named", "wait", "notice", "floor"] spAreTerms) (D_set_terms : Def P w K mg base "set_terms" 1 ["treaty", "terms"] (spSetTerms K CT)) :
    FnOk P w K mg base CX0 2 f fd ["treaty", "given"] (spFo K CD CT cStart) := by
  refine F.ok scFoStart (fun vs H Q E h => ?_) (fun cdv A outer s H vs Q E hr h => ?_)
  · obtain ⟨a, g, l, as, b, xs, c, rfl, _⟩ := h
    rfl
  · obtain ⟨a, g, l, as, b, xs, c, rfl, hT, _, hg, hc, k⟩ := h
    obtain ⟨n, nd, nm, wt, nt, fl, rfl, rfl⟩ := cStart_some hc
    refine ⟨_, pss_cons (ps_if (pt_not (pt_val (pe_D D_are_terms hr (pa_cons (pe_ix ix_list (pv 1) pe_int (fun _ _ => rfl)) (pa_cons (pe_ix ix_list (pv 1) pe_int (fun _ _ => rfl)) (pa_cons (pe_ix ix_list (pv 1) pe_int (fun _ _ => rfl)) (pa_cons (pe_ix ix_list (pv 1) pe_int (fun _ _ => rfl)) (pa_cons (pe_ix ix_list (pv 1) pe_int (fun _ _ => rfl)) (pa_cons (pe_ix ix_list (pv 1) pe_int (fun _ _ => rfl)) pa_nil))))))))) (pss_one (ps_ret (pe_lst (pa_cons (pe_G G.NOT_AS_TOLD) pa_nil)))) pss_nil)
      (pss_cons (ps_expr (pe_D D_set_terms hr (pa_cons (pv 0) (pa_cons (pv 1) pa_nil))))
      (pss_cons (ps_fld (pv 0) (pe_lst pa_nil) rfl)
      (pss_one (ps_ret (pe_lst (pa_cons pe_int pa_nil)))))), ?_⟩
    have i0 : atI (nsV [n, nd, nm, wt, nt, fl]) 0 = some (nV n) := at_of (j := 0) rfl rfl
    have i1 : atI (nsV [n, nd, nm, wt, nt, fl]) 1 = some (nV nd) := at_of (j := 1) rfl rfl
    have i2 : atI (nsV [n, nd, nm, wt, nt, fl]) 2 = some (nV nm) := at_of (j := 2) rfl rfl
    have i3 : atI (nsV [n, nd, nm, wt, nt, fl]) 3 = some (nV wt) := at_of (j := 3) rfl rfl
    have i4 : atI (nsV [n, nd, nm, wt, nt, fl]) 4 = some (nV nt) := at_of (j := 4) rfl rfl
    have i5 : atI (nsV [n, nd, nm, wt, nt, fl]) 5 = some (nV fl) := at_of (j := 5) rfl rfl
    refine ⟨_, rfl, g, _, _, _, rfl, rfl, hg, i0, _, rfl, g, _, _, _, rfl, rfl, hg, i1, _, rfl, g, _, _, _, rfl, rfl, hg, i2, _, rfl, g, _, _, _, rfl, rfl, hg, i3, _, rfl, g, _, _, _, rfl, rfl, hg, i4, _, rfl, g, _, _, _, rfl, rfl, hg, i5, n, nd, nm, wt, nt, fl, rfl, _, rfl, ?_⟩
    cases hok : Km479.okTreaty ⟨n, nd, nm, wt, nt, fl⟩ with
    | false =>
      refine iteT ?_
      refine ⟨by show 1 ≤ sizeLine; decide, fun p hp => ?_⟩
      exact fo_same k hT (if_pos hok) (Same.refl _) hp rfl
    | true =>
      refine iteF ?_
      obtain ⟨dx, ho⟩ := hT.obj
      refine ⟨_, rfl, _, rfl, a, g, dx, l, b.treaty, ⟨n, nd, nm, wt, nt, fl⟩, rfl, ho, hg, fun H1 ho1 kp1 => ?_⟩
      refine ⟨Nat.zero_le _, fun l' hl' => ?_⟩
      have hal : a ≠ l' := ne_of_none ho1 hl'
      refine ⟨_, rfl, a, CT, dx, _, rfl, (upd_ne hal).trans ho1, T.clT, T.tDeeds, (by show 7 < 1000; decide), ?_⟩
      rw [put_deeds]
      have hl0 : H l' = none := (kp1 l' (Ne.symm hal)).symm.trans hl'
      refine ⟨by show 1 ≤ sizeLine; decide, fun p hp => ?_⟩
      have hap : a ≠ p := ne_of_none upd_same hp
      have hlp : l' ≠ p := ne_of_none ((upd_ne (Ne.symm hal)).trans upd_same) hp
      have ea : Km479.act b (.start n nd nm wt nt fl) = (⟨⟨n, nd, nm, wt, nt, fl⟩, []⟩, Km479.only 0) := if_neg (by rw [hok]; exact Bool.noConfusion)
      rw [ea] at k
      refine k _ p l' [] ⟨⟨dx, (upd_ne hap).trans upd_same⟩, (upd_ne hlp).trans ((upd_ne (Ne.symm hal)).trans upd_same), rfl, fun j c hc => by simp at hc⟩ (.inr hl0) (fun x o e hxa hxl => ?_) ?_ upd_same
      · have hxl' : x ≠ l' := ne_of_none e hl0
        have hx8 : upd (upd H1 l' (.lst [])) a (.ins CT dx (treF ⟨n, nd, nm, wt, nt, fl⟩ l')) x = some o := (upd_ne hxa).trans ((upd_ne hxl').trans ((kp1 x hxa).trans e))
        exact (upd_ne (ne_of_none hx8 hp)).trans hx8
      · have h2 := hp
        rw [upd_ne (Ne.symm hap), upd_ne (Ne.symm hlp), kp1 p (Ne.symm hap)] at h2
        exact h2
end
end TF
set_option Elab.async false
set_option maxRecDepth 100000
set_option maxHeartbeats 2000000
namespace TF
open PySem PySem.Spec PyProof.Rows L2
open Km479 (Treaty Book)
section
variable {P : Program} {w : World} {K : PySem.W.Frag} {mg : Str → Option Value} {base : Heap} {CD CT : Addr}
theorem TrAt.ne {H : Hp} {a l : Addr} {as : List Addr} {b : Book} (h : TrAt CD CT H a l as b) : a ≠ l := by
  obtain ⟨dx, ho⟩ := h.obj
  exact ne_of ho h.lst (by intro z; cases z)
/-- one more deed -/
theorem TrAt.push {H H1 : Hp} {a l x : Addr} {as : List Addr} {b : Book} {e : Ev} (h : TrAt CD CT H a l as b) (s : Same H H1) (hx : DeedAt CD H1 x e) :
    TrAt CD CT (upd H1 l (.lst (as.map V.ref ++ [.ref x]))) a l (as ++ [x]) { b with events := b.events ++ [e] } := by
  have h1 := h.same s
  obtain ⟨dx, ho⟩ := h1.obj
  have dn : ∀ c e', DeedAt CD H1 c e' → DeedAt CD (upd H1 l (.lst (as.map V.ref ++ [.ref x]))) c e' := fun c e' ⟨dc, hc⟩ => by
    have : c ≠ l := ne_of hc h1.lst (by intro z; cases z)
    exact ⟨dc, (upd_ne this).trans hc⟩
  refine ⟨⟨dx, (upd_ne h1.ne).trans ho⟩, ?_, ?_, fun j c hc => ?_⟩
  · rw [upd_same, List.map_append]
    rfl
  · show (as ++ [x]).length = (b.events ++ [e]).length
    rw [List.length_append, List.length_append, h.len]
    rfl
  · show ∃ e', (b.events ++ [e])[j]? = some e' ∧ _
    by_cases hj : j < as.length
    · rw [List.getElem?_append_left hj] at hc
      obtain ⟨e', he', hd⟩ := h1.at_ j c hc
      exact ⟨e', by rw [List.getElem?_append_left (by rw [← h.len]; exact hj)]; exact he', dn c e' hd⟩
    · rw [List.getElem?_append_right (by omega)] at hc
      have hj0 : j - as.length = 0 := by
        rcases Nat.eq_zero_or_pos (j - as.length) with q | q
        · exact q
        · rw [List.getElem?_eq_none (by simp; omega)] at hc; cases hc
      rw [hj0] at hc
      have : c = x := by simpa using hc.symm
      subst this
      refine ⟨e, ?_, dn c e hx⟩
      rw [List.getElem?_append_right (by rw [← h.len]; omega), ← h.len, hj0]
      rfl
theorem scFoRatify : FnScope ["treaty", "given", "i", "d", "refusal"] ["treaty", "given"] (defScope sFoRatify) := ⟨rfl, rfl, rfl, by decide +kernel, rfl, by decide +kernel, by decide +kernel⟩
theorem ok_fo_ratify {f : Addr} {fd : FuncData} (F : Fun K "fo_ratify" "fo_ratify" sFoRatify f fd) (T : Txt K CD CT) (G : Consts mg) (mlen : mg "len" = none)
    (D1 : Def P w K mg base "deed_refusal" 3 ["treaty", "i", "d"] (spDeedRefusal CD CT)) (D2 : Def P w K mg base "is_on_notice" 3 ["treaty", "i", "d"] (spIsOnNotice CD CT)) (D3 : Def P w K mg base "has_ratified" 3 ["treaty", "i", "d"] (spHasRatified CD CT))
    (M : Make P w K mg base "Deed" CD 1 ["self", "state", "day", "ratified"] (spDeedInit CD)) (D4 : Def P w K mg base "ratified_states" 3 ["treaty", "d"] (spRatifiedStates CD CT)) :
    FnOk P w K mg base CX0 4 f fd ["treaty", "given"] (spFo K CD CT (c2 .ratify)) := by
  refine F.ok scFoRatify (fun vs H Q E h => ?_) (fun cdv A outer s H vs Q E hr h => ?_)
  · obtain ⟨a, g, l, as, b, xs, c, rfl, _⟩ := h
    rfl
  · obtain ⟨a, g, l, as, b, xs, c, rfl, hT, hw, hg, hc, k⟩ := h
    obtain ⟨i, d, rfl, rfl⟩ := c2_some hc
    obtain ⟨hw, _⟩ := hw rfl
    refine ⟨_, pss_cons (ps_set (i := 2) scFoRatify.nd rfl (Or.inl rfl) (pe_ix ix_list (pv 1) pe_int (fun _ _ => rfl)))
      (pss_cons (ps_set (i := 3) scFoRatify.nd rfl (Or.inl rfl) (pe_ix ix_list (pv 1) pe_int (fun _ _ => rfl)))
      (pss_cons (ps_set (i := 4) scFoRatify.nd rfl (Or.inl rfl) (pe_D D1 hr (pa_cons (pv 0) (pa_cons (pv 2) (pa_cons (pv 3) pa_nil)))))
      (pss_cons (ps_if (pt_cmp (pc_neI (pv 4) (pe_G G.NO_REFUSAL))) (pss_one (ps_ret (pe_lst (pa_cons (pv 4) pa_nil)))) pss_nil)
      (pss_cons (ps_if (pt_val (pe_D D2 hr (pa_cons (pv 0) (pa_cons (pv 2) (pa_cons (pv 3) pa_nil))))) (pss_one (ps_ret (pe_lst (pa_cons (pe_G G.NOTICE_RUNS) pa_nil)))) pss_nil)
      (pss_cons (ps_if (pt_val (pe_D D3 hr (pa_cons (pv 0) (pa_cons (pv 2) (pa_cons (pv 3) pa_nil))))) (pss_one (ps_ret (pe_lst (pa_cons (pe_G G.ALREADY_SO) pa_nil)))) pss_nil)
      (pss_cons (ps_if (pt_cmp (pc_ge (pe_callB call_len_seq (by rfl) mlen PySem.boot_len (pa_cons (pe_fld (pv 0) rfl) pa_nil)) (pe_G G.MOST_DEEDS))) (pss_one (ps_ret (pe_lst (pa_cons (pe_G G.FULL) pa_nil)))) pss_nil)
      (pss_cons (ps_expr (pe_bm PySem.F.plainAttrs_list PySem.F.slot_list_append PySem.F.type_list_append mt_append (pe_fld (pv 0) rfl) (pa_cons (pe_M M hr (pa_cons (pv 2) (pa_cons (pv 3) (pa_cons pe_bl pa_nil)))) pa_nil)))
      (pss_one (ps_ret (pe_lst (pa_cons (pe_callB call_len_seq (by rfl) mlen PySem.boot_len (pa_cons (pe_D D4 hr (pa_cons (pv 0) (pa_cons (pv 3) pa_nil))) pa_nil)) pa_nil))))))))))), ?_⟩
    refine ⟨_, rfl, g, _, _, _, rfl, rfl, hg, at_of (j := 0) (v := nV i) rfl rfl, _, rfl, g, _, _, _, rfl, rfl, hg, at_of (j := 1) (v := nV d) rfl rfl, ?_⟩
    refine ⟨_, rfl, _, rfl, _, rfl, a, b, i, d, rfl, hT.bk, _, rfl, _, _, rfl, rfl, _, rfl, ?_⟩
    by_cases h0 : refusal b i d = 0
    · refine if_false_of (by dsimp only; rw [decide_eq_true h0]; rfl) ?_
      have ea := act_ratify h0
      obtain ⟨r1, r2, r3⟩ := ref_zero h0
      refine ⟨_, rfl, _, rfl, _, rfl, a, b, i, d, rfl, hT.bk, hw, by omega, fun Ha sa => ⟨_, rfl, ?_⟩⟩
      cases h1 : b.leaving i d with
      | true =>
        refine iteT ?_
        rw [if_pos h1] at ea
        exact ⟨by show 1 ≤ sizeLine; decide, fun p hp => fo_same k hT ea sa hp rfl⟩
      | false =>
        refine iteF ?_
        rw [if_neg (by rw [h1]; exact Bool.false_ne_true)] at ea
        refine ⟨_, rfl, _, rfl, _, rfl, a, b, i, d, rfl, hT.bk.same sa, hw, by omega, fun Hb sb0 => ⟨_, rfl, ?_⟩⟩
        have sb := sa.trans sb0
        cases h2 : b.ratified i d with
        | true =>
          refine iteT ?_
          rw [if_pos h2] at ea
          exact ⟨by show 1 ≤ sizeLine; decide, fun p hp => fo_same k hT ea sb hp rfl⟩
        | false =>
          refine iteF ?_
          rw [if_neg (by rw [h2]; exact Bool.false_ne_true)] at ea
          obtain ⟨dx, ho⟩ := hT.obj
          have ho := sb _ _ ho
          have hlst := sb _ _ hT.lst
          refine ⟨_, rfl, a, CT, dx, _, _, rfl, ho, T.clT, T.tDeeds, treF_deeds _ _, l, _, rfl, .inl (SqL.of hlst), _, _, rfl, rfl, _, rfl, ?_⟩
          rw [List.length_map, hT.len]
          by_cases h3 : 24 ≤ b.events.length
          · refine if_true_of (decide_eq_true (by omega)) ?_
            rw [if_pos h3] at ea
            exact ⟨by show 1 ≤ sizeLine; decide, fun p hp => fo_same k hT ea sb hp rfl⟩
          · refine if_false_of (decide_eq_false (by omega)) ?_
            rw [if_neg h3] at ea
            refine ⟨_, rfl, a, CT, dx, _, _, rfl, ho, T.clT, T.tDeeds, treF_deeds _ _, .inl ⟨rfl, _, SqL.of hlst⟩, _, rfl, _, rfl, ?_⟩
            intro x dx' hx hdx hne
            refine ⟨x, dx', i, d, true, rfl, upd_same, fun H1 hD kp => ⟨rfl, ?_⟩⟩
            have s2 : Same Hb H1 := Same.made hx hdx kp
            have s1 : Same H H1 := sb.trans s2
            refine ⟨l, _, _, rfl, rfl, s1 _ _ hT.lst, ?_, ?_⟩
            · rw [List.length_map, hT.len]
              exact small1000 (by omega)
            have hT2 := hT.push s1 hD
            have hw2 : WF { b with events := b.events ++ [⟨i, d, true⟩] } := wf_push hw (by omega) (by omega) (by omega) (by omega)
            refine ⟨_, rfl, _, rfl, a, _, d, rfl, hT2.bk, hw2, fun H3 p3 s3 hp3 hl3 => ?_⟩
            refine ⟨p3, _, rfl, .inl (SqL.of hl3), by show 1 ≤ sizeLine; decide, fun p hp => ?_⟩
            rw [ea] at k
            have s4 := Same.upd (o := .lst [.int ((nsV (({ b with events := b.events ++ [⟨i, d, true⟩] } : Book).set d)).length : Int)]) s3 hp
            have fr : ∀ y o, H y = some o → y ≠ a → y ≠ l → upd H1 l (.lst (as.map V.ref ++ [.ref x])) y = some o := fun y o e _ hyl => (upd_ne hyl).trans (s1 _ _ e)
            refine k _ p l (as ++ [x]) (hT2.same s4) (.inl rfl) (fun y o e hya hyl => s4 _ _ (fr y o e hya hyl)) ?_ ?_
            · have hpl := s3.free hp
              have hpl2 : p ≠ l := by
                intro z
                rw [z, upd_same] at hpl
                cases hpl
              rw [upd_ne hpl2] at hpl
              exact s1.free hpl
            · rw [upd_same, nsV_length]
              rfl
    · refine if_true_of (by dsimp only; rw [decide_eq_false h0]; rfl) ?_
      refine ⟨_, rfl, by show 1 ≤ sizeLine; decide, fun p hp => ?_⟩
      exact fo_same k hT (ref_cases h0 _ (.inl rfl)) (Same.refl _) hp rfl
theorem scFoNotice : FnScope ["treaty", "given", "i", "d", "refusal", "deed"] ["treaty", "given"] (defScope sFoNotice) := ⟨rfl, rfl, rfl, by decide +kernel, rfl, by decide +kernel, by decide +kernel⟩
theorem ok_fo_notice {f : Addr} {fd : FuncData} (F : Fun K "fo_notice" "fo_notice" sFoNotice f fd) (T : Txt K CD CT) (G : Consts mg) (mlen : mg "len" = none)
    (D1 : Def P w K mg base "deed_refusal" 3 ["treaty", "i", "d"] (spDeedRefusal CD CT)) (D2 : Def P w K mg base "is_on_notice" 3 ["treaty", "i", "d"] (spIsOnNotice CD CT)) (D3 : Def P w K mg base "has_ratified" 3 ["treaty", "i", "d"] (spHasRatified CD CT))
    (M : Make P w K mg base "Deed" CD 1 ["self", "state", "day", "ratified"] (spDeedInit CD)) (D4 : Def P w K mg base "out_day" 1 ["treaty", "deed"] (spOutDay CD CT)) :
    FnOk P w K mg base CX0 4 f fd ["treaty", "given"] (spFo K CD CT (c2 .notice)) := by
  refine F.ok scFoNotice (fun vs H Q E h => ?_) (fun cdv A outer s H vs Q E hr h => ?_)
  · obtain ⟨a, g, l, as, b, xs, c, rfl, _⟩ := h
    rfl
  · obtain ⟨a, g, l, as, b, xs, c, rfl, hT, hw, hg, hc, k⟩ := h
    obtain ⟨i, d, rfl, rfl⟩ := c2_some hc
    obtain ⟨hw, _⟩ := hw rfl
    refine ⟨_, pss_cons (ps_set (i := 2) scFoNotice.nd rfl (Or.inl rfl) (pe_ix ix_list (pv 1) pe_int (fun _ _ => rfl)))
      (pss_cons (ps_set (i := 3) scFoNotice.nd rfl (Or.inl rfl) (pe_ix ix_list (pv 1) pe_int (fun _ _ => rfl)))
      (pss_cons (ps_set (i := 4) scFoNotice.nd rfl (Or.inl rfl) (pe_D D1 hr (pa_cons (pv 0) (pa_cons (pv 2) (pa_cons (pv 3) pa_nil)))))
      (pss_cons (ps_if (pt_cmp (pc_neI (pv 4) (pe_G G.NO_REFUSAL))) (pss_one (ps_ret (pe_lst (pa_cons (pv 4) pa_nil)))) pss_nil)
      (pss_cons (ps_if (pt_not (pt_val (pe_D D3 hr (pa_cons (pv 0) (pa_cons (pv 2) (pa_cons (pv 3) pa_nil)))))) (pss_one (ps_ret (pe_lst (pa_cons (pe_G G.NOT_RATIFIED) pa_nil)))) pss_nil)
      (pss_cons (ps_if (pt_val (pe_D D2 hr (pa_cons (pv 0) (pa_cons (pv 2) (pa_cons (pv 3) pa_nil))))) (pss_one (ps_ret (pe_lst (pa_cons (pe_G G.ALREADY_SO) pa_nil)))) pss_nil)
      (pss_cons (ps_if (pt_cmp (pc_ge (pe_callB call_len_seq (by rfl) mlen PySem.boot_len (pa_cons (pe_fld (pv 0) rfl) pa_nil)) (pe_G G.MOST_DEEDS))) (pss_one (ps_ret (pe_lst (pa_cons (pe_G G.FULL) pa_nil)))) pss_nil)
      (pss_cons (ps_set (i := 5) scFoNotice.nd rfl (Or.inl rfl) (pe_M M hr (pa_cons (pv 2) (pa_cons (pv 3) (pa_cons pe_bl pa_nil)))))
      (pss_cons (ps_expr (pe_bm PySem.F.plainAttrs_list PySem.F.slot_list_append PySem.F.type_list_append mt_append (pe_fld (pv 0) rfl) (pa_cons (pv 5) pa_nil)))
      (pss_one (ps_ret (pe_lst (pa_cons (pe_D D4 hr (pa_cons (pv 0) (pa_cons (pv 5) pa_nil))) pa_nil)))))))))))), ?_⟩
    refine ⟨_, rfl, g, _, _, _, rfl, rfl, hg, at_of (j := 0) (v := nV i) rfl rfl, _, rfl, g, _, _, _, rfl, rfl, hg, at_of (j := 1) (v := nV d) rfl rfl, ?_⟩
    refine ⟨_, rfl, _, rfl, _, rfl, a, b, i, d, rfl, hT.bk, _, rfl, _, _, rfl, rfl, _, rfl, ?_⟩
    by_cases h0 : refusal b i d = 0
    · refine if_false_of (by dsimp only; rw [decide_eq_true h0]; rfl) ?_
      have ea := act_notice h0
      obtain ⟨r1, r2, r3⟩ := ref_zero h0
      refine ⟨_, rfl, _, rfl, _, rfl, a, b, i, d, rfl, hT.bk, hw, by omega, fun Ha sa => ⟨_, rfl, ?_⟩⟩
      cases h1 : b.ratified i d with
      | false =>
        refine iteT ?_
        rw [if_pos h1] at ea
        exact ⟨by show 1 ≤ sizeLine; decide, fun p hp => fo_same k hT ea sa hp rfl⟩
      | true =>
        refine iteF ?_
        rw [if_neg (by rw [h1]; exact Bool.noConfusion)] at ea
        refine ⟨_, rfl, _, rfl, _, rfl, a, b, i, d, rfl, hT.bk.same sa, hw, by omega, fun Hb sb0 => ⟨_, rfl, ?_⟩⟩
        have sb := sa.trans sb0
        cases h2 : b.leaving i d with
        | true =>
          refine iteT ?_
          rw [if_pos h2] at ea
          exact ⟨by show 1 ≤ sizeLine; decide, fun p hp => fo_same k hT ea sb hp rfl⟩
        | false =>
          refine iteF ?_
          rw [if_neg (by rw [h2]; exact Bool.false_ne_true)] at ea
          obtain ⟨dx, ho⟩ := hT.obj
          have ho := sb _ _ ho
          have hlst := sb _ _ hT.lst
          refine ⟨_, rfl, a, CT, dx, _, _, rfl, ho, T.clT, T.tDeeds, treF_deeds _ _, l, _, rfl, .inl (SqL.of hlst), _, _, rfl, rfl, _, rfl, ?_⟩
          rw [List.length_map, hT.len]
          by_cases h3 : 24 ≤ b.events.length
          · refine if_true_of (decide_eq_true (by omega)) ?_
            rw [if_pos h3] at ea
            exact ⟨by show 1 ≤ sizeLine; decide, fun p hp => fo_same k hT ea sb hp rfl⟩
          · refine if_false_of (decide_eq_false (by omega)) ?_
            rw [if_neg h3] at ea
            refine ⟨_, rfl, _, rfl, ?_⟩
            intro x dx' hx hdx hne
            refine ⟨x, dx', i, d, false, rfl, upd_same, fun H1 hD kp => ⟨rfl, ?_⟩⟩
            have s2 : Same Hb H1 := Same.made hx hdx kp
            have s1 : Same H H1 := sb.trans s2
            refine ⟨_, rfl, a, CT, dx, _, _, rfl, s2 _ _ ho, T.clT, T.tDeeds, treF_deeds _ _, .inl ⟨rfl, _, SqL.of (s1 _ _ hT.lst)⟩, _, rfl, ?_⟩
            refine ⟨l, _, _, rfl, rfl, s1 _ _ hT.lst, ?_, ?_⟩
            · rw [List.length_map, hT.len]
              exact small1000 (by omega)
            have hT2 := hT.push s1 hD
            have hD2 : DeedAt CD (upd H1 l (.lst (as.map V.ref ++ [.ref x]))) x ⟨i, d, false⟩ := by
              obtain ⟨dc, hc⟩ := hD
              have : x ≠ l := ne_of hc (s1 _ _ hT.lst) (by intro z; cases z)
              exact ⟨dc, (upd_ne this).trans hc⟩
            refine ⟨_, rfl, _, rfl, a, x, _, _, rfl, hT2.bk, hD2, by show 1 ≤ sizeLine; decide, fun p hp => ?_⟩
            rw [ea] at k
            have s4 := Same.upd (o := .lst [nV (d + b.treaty.notice)]) (Same.refl (upd H1 l (.lst (as.map V.ref ++ [.ref x])))) hp
            have fr : ∀ y o, H y = some o → y ≠ a → y ≠ l → upd H1 l (.lst (as.map V.ref ++ [.ref x])) y = some o := fun y o e _ hyl => (upd_ne hyl).trans (s1 _ _ e)
            refine k _ p l (as ++ [x]) (hT2.same s4) (.inl rfl) (fun y o e hya hyl => s4 _ _ (fr y o e hya hyl)) ?_ upd_same
            · have hpl := hp
              have hpl2 : p ≠ l := by
                intro z
                rw [z, upd_same] at hpl
                cases hpl
              rw [upd_ne hpl2] at hpl
              exact s1.free hpl
    · refine if_true_of (by dsimp only; rw [decide_eq_false h0]; rfl) ?_
      refine ⟨_, rfl, by show 1 ≤ sizeLine; decide, fun p hp => ?_⟩
      exact fo_same k hT (ref_cases h0 _ (.inr rfl)) (Same.refl _) hp rfl
end
end TF
set_option Elab.async false
set_option maxRecDepth 100000
set_option maxHeartbeats 2000000
namespace TF
open PySem PySem.Spec PyProof.Rows L2
open Km479 (Treaty Book)
theorem nsV_flat (l : List Nat) : (nsV l).all flatV = true := by
  rw [List.all_eq_true]
  intro x hx
  obtain ⟨n, _, rfl⟩ := List.mem_map.mp hx
  rfl
theorem inV_ns (i : Nat) (l : List Nat) : inV (nV i) (nsV l) = decide (i ∈ l) := by
  rw [Bool.eq_iff_iff, decide_eq_true_eq]
  unfold inV nsV
  rw [List.any_map, List.any_eq_true]
  constructor
  · rintro ⟨n, hn, he⟩
    have he : ((n : Int) == (i : Int)) = true := he
    have : n = i := by
      have := eq_of_beq he
      omega
    rw [← this]; exact hn
  · intro h
    exact ⟨i, h, by show ((i : Int) == (i : Int)) = true; exact beq_self_eq_true _⟩
theorem parties_len {b : Book} (w : WF b) (d : Nat) : (b.parties d).length ≤ 10 := by
  unfold Book.parties
  have h1 := List.length_filter_le (fun i => b.bound i d) (List.range b.treaty.n)
  rw [List.length_range] at h1
  have := w.n10
  omega
theorem parties_lt {b : Book} {d i : Nat} (h : i ∈ b.parties d) : i < b.treaty.n := by
  unfold Book.parties at h
  exact List.mem_range.mp (List.mem_filter.mp h).1
section
variable {P : Program} {w : World} {K : PySem.W.Frag} {mg : Str → Option Value} {base : Heap} {CD CT : Addr}
theorem scFoDay : FnScope ["treaty", "given", "start"] ["treaty", "given"] (defScope sFoDay) := ⟨rfl, rfl, rfl, by decide +kernel, rfl, by decide +kernel, by decide +kernel⟩
def dayI (b : Book) : Int := match b.from_ with
  | none => -33
  | some f => (f : Int)
/-- the day of any book, at any place -/
def spDay (CD CT : Addr) : Sp := fun vs H Q _ => ∃ (a g : Addr) (b : Book), vs = [.ref a, .ref g] ∧ BkAt CD CT H a b ∧ WF b ∧ ∀ (H' : Hp) (p : Addr), Same H H' → H' p = none → Q (.ref p) (upd H' p (.lst [.int (dayI b)]))
theorem ok_fo_day_any {f : Addr} {fd : FuncData} (F : Fun K "fo_day" "fo_day" sFoDay f fd) (G : Consts mg) (D_force_day : Def P w K mg base "force_day" 6 ["treaty"] (spForceDay CD CT)) :
    FnOk P w K mg base CX0 7 f fd ["treaty", "given"] (spDay CD CT) := by
  refine F.ok scFoDay (fun vs H Q E h => ?_) (fun cdv A outer s H vs Q E hr h => ?_)
  · obtain ⟨a, g, b, rfl, _⟩ := h
    rfl
  · obtain ⟨a, g, b, rfl, hB, hw, k⟩ := h
    refine ⟨_, pss_cons (ps_set (i := 2) scFoDay.nd rfl (Or.inl rfl) (pe_D D_force_day hr (pa_cons (pv 0) pa_nil)))
      (pss_cons (ps_if (pt_cmp (pc_isN (pv 2))) (pss_one (ps_ret (pe_lst (pa_cons (pe_G G.NO_DAY) pa_nil)))) pss_nil)
      (pss_one (ps_ret (pe_lst (pa_cons (pv 2) pa_nil))))), ?_⟩
    refine ⟨_, rfl, a, b, rfl, hB, hw, fun H1 s1 => ?_⟩
    unfold dayI at k
    cases hf : b.from_ with
    | none =>
      rw [hf] at k
      refine ⟨_, rfl, _, rfl, ?_⟩
      refine if_true_of rfl ?_
      exact ⟨by show 1 ≤ sizeLine; decide, fun p hp => k H1 p s1 hp⟩
    | some z =>
      rw [hf] at k
      refine ⟨_, rfl, _, rfl, ?_⟩
      refine if_false_of rfl ?_
      exact ⟨_, rfl, by show 1 ≤ sizeLine; decide, fun p hp => k H1 p s1 hp⟩
theorem day_act (b : Book) : Km479.act b .day = (b, Km479.only (dayI b)) := by
  show (b, match b.from_ with
      | none => Km479.only (-33)
      | some f => Km479.only (Km479.n2i f)) = _
  unfold dayI
  cases b.from_ <;> rfl
theorem ok_fo_day {f : Addr} {fd : FuncData} (F : Fun K "fo_day" "fo_day" sFoDay f fd) (G : Consts mg) (D_force_day : Def P w K mg base "force_day" 6 ["treaty"] (spForceDay CD CT)) :
    FnOk P w K mg base CX0 7 f fd ["treaty", "given"] (spFo K CD CT (c0 .day)) :=
  (ok_fo_day_any F G D_force_day).imp fun vs H Q E h => by
    obtain ⟨a, g, l, as, b, xs, c, rfl, hT, hw, hg, hc, k⟩ := h
    obtain ⟨rfl, rfl⟩ := c0_some hc
    obtain ⟨hw, _⟩ := hw rfl
    exact ⟨a, g, b, rfl, hT.bk, hw, fun H' p s1 hp => fo_same k hT (day_act b) s1 hp rfl⟩
theorem scFoEnds : FnScope ["treaty", "given", "end"] ["treaty", "given"] (defScope sFoEnds) := ⟨rfl, rfl, rfl, by decide +kernel, rfl, by decide +kernel, by decide +kernel⟩
theorem ok_fo_ends {f : Addr} {fd : FuncData} (F : Fun K "fo_ends" "fo_ends" sFoEnds f fd) (G : Consts mg) (D_force_day : Def P w K mg base "force_day" 6 ["treaty"] (spForceDay CD CT)) (D_end_day : Def P w K mg base "end_day" 7 ["treaty"] (spEndDay CD CT)) :
    FnOk P w K mg base CX0 8 f fd ["treaty", "given"] (spFo K CD CT (c0 .ends)) := by
  refine F.ok scFoEnds (fun vs H Q E h => ?_) (fun cdv A outer s H vs Q E hr h => ?_)
  · obtain ⟨a, g, l, as, b, xs, c, rfl, _⟩ := h
    rfl
  · obtain ⟨a, g, l, as, b, xs, c, rfl, hT, hw, hg, hc, k⟩ := h
    obtain ⟨rfl, rfl⟩ := c0_some hc
    obtain ⟨hw, _⟩ := hw rfl
    refine ⟨_, pss_cons (ps_if (pt_cmp (pc_isN (pe_D D_force_day hr (pa_cons (pv 0) pa_nil)))) (pss_one (ps_ret (pe_lst (pa_cons (pe_G G.NO_DAY) pa_nil)))) pss_nil)
      (pss_cons (ps_set (i := 2) scFoEnds.nd rfl (Or.inl rfl) (pe_D D_end_day hr (pa_cons (pv 0) pa_nil)))
      (pss_cons (ps_if (pt_cmp (pc_isN (pv 2))) (pss_one (ps_ret (pe_lst (pa_cons (pe_G G.NO_END) pa_nil)))) pss_nil)
      (pss_one (ps_ret (pe_lst (pa_cons (pv 2) pa_nil)))))), ?_⟩
    refine ⟨_, rfl, a, b, rfl, hT.bk, hw, fun H1 s1 => ⟨_, rfl, ?_⟩⟩
    have ea : Km479.act b .ends = (b, if b.from_ = none then Km479.only (-33) else match b.ends with
      | none => Km479.only (-61)
      | some e => Km479.only (Km479.n2i e)) := rfl
    cases hf : b.from_ with
    | none =>
      rw [if_pos hf] at ea
      refine if_true_of rfl ?_
      exact ⟨by show 1 ≤ sizeLine; decide, fun p hp => fo_same k hT ea s1 hp rfl⟩
    | some z =>
      rw [if_neg (by rw [hf]; intro q; cases q)] at ea
      refine if_false_of rfl ?_
      refine ⟨_, rfl, a, b, rfl, hT.bk.same s1, hw, fun H2 s2 => ?_⟩
      cases he : b.ends with
      | none =>
        rw [he] at ea
        refine ⟨_, rfl, _, rfl, ?_⟩
        refine if_true_of rfl ?_
        exact ⟨by show 1 ≤ sizeLine; decide, fun p hp => fo_same k hT ea (s1.trans s2) hp rfl⟩
      | some e =>
        rw [he] at ea
        refine ⟨_, rfl, _, rfl, ?_⟩
        refine if_false_of rfl ?_
        exact ⟨_, rfl, by show 1 ≤ sizeLine; decide, fun p hp => fo_same k hT ea (s1.trans s2) hp rfl⟩
theorem scFoBound : FnScope ["treaty", "given", "i"] ["treaty", "given"] (defScope sFoBound) := ⟨rfl, rfl, rfl, by decide +kernel, rfl, by decide +kernel, by decide +kernel⟩
theorem ok_fo_bound {f : Addr} {fd : FuncData} (F : Fun K "fo_bound" "fo_bound" sFoBound f fd) (T : Txt K CD CT) (G : Consts mg) (D_bound_states : Def P w K mg base "bound_states" 9 ["treaty", "d"] (spBoundStates CD CT)) :
    FnOk P w K mg base CX0 10 f fd ["treaty", "given"] (spFo K CD CT (c2 .bound)) := by
  refine F.ok scFoBound (fun vs H Q E h => ?_) (fun cdv A outer s H vs Q E hr h => ?_)
  · obtain ⟨a, g, l, as, b, xs, c, rfl, _⟩ := h
    rfl
  · obtain ⟨a, g, l, as, b, xs, c, rfl, hT, hw, hg, hc, k⟩ := h
    obtain ⟨i, d, rfl, rfl⟩ := c2_some hc
    obtain ⟨hw, _⟩ := hw rfl
    refine ⟨_, pss_cons (ps_set (i := 2) scFoBound.nd rfl (Or.inl rfl) (pe_ix ix_list (pv 1) pe_int (fun _ _ => rfl)))
      (pss_cons (ps_if (pt_cmp (pc_ge (pv 2) (pe_fld (pv 0) rfl))) (pss_one (ps_ret (pe_lst (pa_cons (pe_G G.NONE_THERE) pa_nil)))) pss_nil)
      (pss_one (ps_ret (pe_lst (pa_cons (pe_ifExp (pt_cmpR op_in_seq (pv 2) (pe_D D_bound_states hr (pa_cons (pv 0) (pa_cons (pe_ix ix_list (pv 1) pe_int (fun _ _ => rfl)) pa_nil))) rfl) pe_int pe_int) pa_nil))))), ?_⟩
    obtain ⟨dx, ho⟩ := hT.obj
    refine ⟨_, rfl, g, _, _, _, rfl, rfl, hg, at_of (j := 0) (v := nV i) rfl rfl, _, rfl, _, rfl, a, CT, dx, _, _, rfl, ho, T.clT, T.tN, treF_n _ _, _, _, rfl, rfl, _, rfl, ?_⟩
    have ea : Km479.act b (.bound i d) = (b, if b.treaty.n ≤ i then Km479.only (-2) else Km479.only (if b.bound i d = true then 1 else 0)) := rfl
    by_cases h1 : b.treaty.n ≤ i
    · refine if_true_of (decide_eq_true (by omega)) ?_
      rw [if_pos h1] at ea
      exact ⟨by show 1 ≤ sizeLine; decide, fun p hp => fo_same k hT ea (Same.refl _) hp rfl⟩
    · refine if_false_of (decide_eq_false (by omega)) ?_
      rw [if_neg h1] at ea
      refine ⟨_, rfl, _, rfl, _, rfl, g, _, _, _, rfl, rfl, hg, at_of (j := 1) (v := nV d) rfl rfl, a, b, d, rfl, hT.bk, hw, fun H1 p1 s1 hp1 hl1 => ?_⟩
      refine ⟨p1, _, rfl, .inl (SqL.of hl1), rfl, nsV_flat _, _, rfl, ?_⟩
      have e1 : (if false = true then !inV (nV i) (nsV (b.parties d)) else inV (nV i) (nsV (b.parties d))) = b.bound i d := by
        rw [if_neg Bool.false_ne_true, inV_ns, Bool.eq_iff_iff, decide_eq_true_eq]
        unfold Book.parties
        rw [List.mem_filter, List.mem_range]
        constructor
        · exact fun h => h.2
        · exact fun h => ⟨by omega, h⟩
      cases hb : b.bound i d with
      | true =>
        rw [if_pos hb] at ea
        refine if_true_of (e1.trans hb) ?_
        exact ⟨by show 1 ≤ sizeLine; decide, fun p hp => fo_same k hT ea s1 hp rfl⟩
      | false =>
        rw [if_neg (by rw [hb]; exact Bool.false_ne_true)] at ea
        refine if_false_of (e1.trans hb) ?_
        exact ⟨by show 1 ≤ sizeLine; decide, fun p hp => fo_same k hT ea s1 hp rfl⟩
theorem scFoParties : FnScope ["treaty", "given", "states"] ["treaty", "given"] (defScope sFoParties) := ⟨rfl, rfl, rfl, by decide +kernel, rfl, by decide +kernel, by decide +kernel⟩
theorem ok_fo_parties {f : Addr} {fd : FuncData} (F : Fun K "fo_parties" "fo_parties" sFoParties f fd) (mlen : mg "len" = none) (D_bound_states : Def P w K mg base "bound_states" 9 ["treaty", "d"] (spBoundStates CD CT)) (D_set_number : Def P w K mg base "set_number" 1 ["states"] (spSetNumber K)) :
    FnOk P w K mg base CX0 10 f fd ["treaty", "given"] (spFo K CD CT (c1 .parties)) := by
  refine F.ok scFoParties (fun vs H Q E h => ?_) (fun cdv A outer s H vs Q E hr h => ?_)
  · obtain ⟨a, g, l, as, b, xs, c, rfl, _⟩ := h
    rfl
  · obtain ⟨a, g, l, as, b, xs, c, rfl, hT, hw, hg, hc, k⟩ := h
    obtain ⟨d, rfl, rfl⟩ := c1_some hc
    obtain ⟨hw, _⟩ := hw rfl
    refine ⟨_, pss_cons (ps_set (i := 2) scFoParties.nd rfl (Or.inl rfl) (pe_D D_bound_states hr (pa_cons (pv 0) (pa_cons (pe_ix ix_list (pv 1) pe_int (fun _ _ => rfl)) pa_nil))))
      (pss_one (ps_ret (pe_lst (pa_cons (pe_callB call_len_seq (by rfl) mlen PySem.boot_len (pa_cons (pv 2) pa_nil)) (pa_cons (pe_D D_set_number hr (pa_cons (pv 2) pa_nil)) pa_nil))))), ?_⟩
    refine ⟨_, rfl, _, rfl, g, _, _, _, rfl, rfl, hg, at_of (j := 0) (v := nV d) rfl rfl, a, b, d, rfl, hT.bk, hw, fun H1 p1 s1 hp1 hl1 => ?_⟩
    refine ⟨_, rfl, p1, _, rfl, .inl (SqL.of hl1), _, rfl, p1, b.parties d, rfl, SqL.of hl1, by have := parties_len hw d; omega, fun i hi => by have := parties_lt hi; have := hw.n10; omega, fun H2 s2 => ?_⟩
    refine ⟨by show 2 ≤ sizeLine; decide, fun p hp => fo_same k hT rfl (s1.trans s2) hp ?_⟩
    rw [nsV_length]
    rfl
theorem scFoRatified : FnScope ["treaty", "given", "states"] ["treaty", "given"] (defScope sFoRatified) := ⟨rfl, rfl, rfl, by decide +kernel, rfl, by decide +kernel, by decide +kernel⟩
theorem ok_fo_ratified {f : Addr} {fd : FuncData} (F : Fun K "fo_ratified" "fo_ratified" sFoRatified f fd) (mlen : mg "len" = none) (D_ratified_states : Def P w K mg base "ratified_states" 3 ["treaty", "d"] (spRatifiedStates CD CT)) (D_set_number : Def P w K mg base "set_number" 1 ["states"] (spSetNumber K)) :
    FnOk P w K mg base CX0 4 f fd ["treaty", "given"] (spFo K CD CT (c1 .ratified)) := by
  refine F.ok scFoRatified (fun vs H Q E h => ?_) (fun cdv A outer s H vs Q E hr h => ?_)
  · obtain ⟨a, g, l, as, b, xs, c, rfl, _⟩ := h
    rfl
  · obtain ⟨a, g, l, as, b, xs, c, rfl, hT, hw, hg, hc, k⟩ := h
    obtain ⟨d, rfl, rfl⟩ := c1_some hc
    obtain ⟨hw, _⟩ := hw rfl
    refine ⟨_, pss_cons (ps_set (i := 2) scFoRatified.nd rfl (Or.inl rfl) (pe_D D_ratified_states hr (pa_cons (pv 0) (pa_cons (pe_ix ix_list (pv 1) pe_int (fun _ _ => rfl)) pa_nil))))
      (pss_one (ps_ret (pe_lst (pa_cons (pe_callB call_len_seq (by rfl) mlen PySem.boot_len (pa_cons (pv 2) pa_nil)) (pa_cons (pe_D D_set_number hr (pa_cons (pv 2) pa_nil)) pa_nil))))), ?_⟩
    refine ⟨_, rfl, _, rfl, g, _, _, _, rfl, rfl, hg, at_of (j := 0) (v := nV d) rfl rfl, a, b, d, rfl, hT.bk, hw, fun H1 p1 s1 hp1 hl1 => ?_⟩
    refine ⟨_, rfl, p1, _, rfl, .inl (SqL.of hl1), _, rfl, p1, b.set d, rfl, SqL.of hl1, by have := set_len hw d; omega, fun i hi => by have := set_lt hi; have := hw.n10; omega, fun H2 s2 => ?_⟩
    refine ⟨by show 2 ≤ sizeLine; decide, fun p hp => fo_same k hT rfl (s1.trans s2) hp ?_⟩
    rw [nsV_length]
    rfl
theorem scFoLacks : FnScope ["treaty", "given", "states", "missing"] ["treaty", "given"] (defScope sFoLacks) := ⟨rfl, rfl, rfl, by decide +kernel, rfl, by decide +kernel, by decide +kernel⟩
theorem ok_fo_lacks {f : Addr} {fd : FuncData} (F : Fun K "fo_lacks" "fo_lacks" sFoLacks f fd) (T : Txt K CD CT) (mlen : mg "len" = none) (mmax : mg "max" = none) (D_ratified_states : Def P w K mg base "ratified_states" 3 ["treaty", "d"] (spRatifiedStates CD CT)) (D_set_number : Def P w K mg base "set_number" 1 ["states"] (spSetNumber K)) :
    FnOk P w K mg base CX0 4 f fd ["treaty", "given"] (spFo K CD CT (c1 .lacks)) := by
  refine F.ok scFoLacks (fun vs H Q E h => ?_) (fun cdv A outer s H vs Q E hr h => ?_)
  · obtain ⟨a, g, l, as, b, xs, c, rfl, _⟩ := h
    rfl
  · obtain ⟨a, g, l, as, b, xs, c, rfl, hT, hw, hg, hc, k⟩ := h
    obtain ⟨d, rfl, rfl⟩ := c1_some hc
    obtain ⟨hw, _⟩ := hw rfl
    refine ⟨_, pss_cons (ps_set (i := 2) scFoLacks.nd rfl (Or.inl rfl) (pe_D D_ratified_states hr (pa_cons (pv 0) (pa_cons (pe_ix ix_list (pv 1) pe_int (fun _ _ => rfl)) pa_nil))))
      (pss_cons (ps_set (i := 3) scFoLacks.nd rfl (Or.inl rfl) (pe_op op_sub (pe_fld (pv 0) rfl) (pe_op op_and (pe_fld (pv 0) rfl) (pe_D D_set_number hr (pa_cons (pv 2) pa_nil)))))
      (pss_one (ps_ret (pe_lst (pa_cons (pe_callB (call_max2 rfl) (by rfl) mmax (by decide +kernel) (pa_cons pe_int (pa_cons (pe_op op_sub (pe_fld (pv 0) rfl) (pe_callB call_len_seq (by rfl) mlen PySem.boot_len (pa_cons (pv 2) pa_nil))) pa_nil))) (pa_cons (pv 3) pa_nil)))))), ?_⟩
    refine ⟨_, rfl, _, rfl, g, _, _, _, rfl, rfl, hg, at_of (j := 0) (v := nV d) rfl rfl, a, b, d, rfl, hT.bk, hw, fun H1 p1 s1 hp1 hl1 => ?_⟩
    obtain ⟨dx, ho⟩ := hT.obj
    have ho1 := s1 _ _ ho
    refine ⟨_, rfl, a, CT, dx, _, _, rfl, ho1, T.clT, T.tNamed, treF_named _ _, _, rfl, a, CT, dx, _, _, rfl, ho1, T.clT, T.tNamed, treF_named _ _, _, rfl, p1, b.set d, rfl, SqL.of hl1, by have := set_len hw d; omega, fun i hi => by have := set_lt hi; have := hw.n10; omega, fun H2 s2 => ?_⟩
    refine ⟨_, _, rfl, rfl, _, _, rfl, rfl, ?_⟩
    refine ⟨_, rfl, a, CT, dx, _, _, rfl, s2 _ _ ho1, T.clT, T.tNeed, treF_need _ _, _, rfl, p1, _, rfl, .inl (SqL.of (s2 _ _ hl1)), _, _, rfl, rfl, _, _, rfl, _, rfl, by show 2 ≤ sizeLine; decide, fun p hp => fo_same k hT rfl (s1.trans s2) hp ?_⟩
    have e1 : (b.treaty.named : Int) - Builtin.bitAnd (b.treaty.named : Int) (Km479.bits (b.set d) : Int) = ((Km479.bits ((List.range b.treaty.n).filter fun i => b.treaty.named.testBit i && !b.ratified i d) : Nat) : Int) := by
      rw [bitAnd_nat]
      have h1 := lacks_bits (fun i => b.ratified i d) hw.named
      have h2 : b.treaty.named &&& bitsR b.treaty.n (fun i => b.ratified i d) ≤ b.treaty.named := Nat.and_le_left
      unfold bitsR at h1 h2
      show (b.treaty.named : Int) - ((b.treaty.named &&& Km479.bits ((List.range b.treaty.n).filter fun i => b.ratified i d) : Nat) : Int) = _
      rw [← h1]
      omega
    have e2 : (if (b.treaty.need : Int) - ((nsV (b.set d)).length : Int) > 0 then (b.treaty.need : Int) - ((nsV (b.set d)).length : Int) else 0) = ((b.treaty.need - (b.set d).length : Nat) : Int) := by
      rw [nsV_length]
      split <;> omega
    show [V.int (if (b.treaty.need : Int) - ((nsV (b.set d)).length : Int) > 0 then (b.treaty.need : Int) - ((nsV (b.set d)).length : Int) else 0), V.int ((b.treaty.named : Int) - Builtin.bitAnd (b.treaty.named : Int) (Km479.bits (b.set d) : Int))] = _
    rw [e1, e2]
    rfl
end
end TF
set_option Elab.async false
set_option maxRecDepth 100000
set_option maxHeartbeats 2000000
namespace TF
open PySem PySem.Spec PyProof.Rows L2
open Km479 (Treaty Book)
/-! ### rows -/
/-- a row: a day, and a list of states -/
def RowAt (f : Nat → List Nat) (new : Addr → Prop) (H : Hp) (t : Addr) (d : Nat) : Prop := ∃ g, new g ∧ H t = some (.tup [nV d, .ref g]) ∧ H g = some (.lst (nsV (f d)))
structure RowsAt (f : Nat → List Nat) (new : Addr → Prop) (H : Hp) (ts : List Addr) (L : List Nat) : Prop where
  len : ts.length = L.length
  at_ : ∀ (j : Nat) (t : Addr), ts[j]? = some t → ∃ d, L[j]? = some d ∧ RowAt f new H t d
theorem RowsAt.item {f : Nat → List Nat} {new : Addr → Prop} {H : Hp} {ts : List Addr} {L : List Nat} (h : RowsAt f new H ts L) {j : Nat} {x : V} (hj : (ts.map V.ref)[j]? = some x) :
    ∃ t d g, x = .ref t ∧ L[j]? = some d ∧ H t = some (.tup [nV d, .ref g]) ∧ H g = some (.lst (nsV (f d))) := by
  rw [List.getElem?_map] at hj
  cases hc : ts[j]? with
  | none => rw [hc] at hj; cases hj
  | some t =>
    rw [hc] at hj
    obtain ⟨d, hd, g, _, h1, h2⟩ := h.at_ j t hc
    exact ⟨t, d, g, (Option.some.inj hj).symm, hd, h1, h2⟩
theorem RowsAt.keep {f : Nat → List Nat} {new new' : Addr → Prop} {H H' : Hp} {ts : List Addr} {L : List Nat} (h : RowsAt f new H ts L) (hn : ∀ g, new g → new' g) (s : ∀ t xs, H t = some (.tup xs) → H' t = some (.tup xs)) (s' : ∀ g o, new g → H g = some o → H' g = some o) : RowsAt f new' H' ts L := by
  refine ⟨h.len, fun j t ht => ?_⟩
  obtain ⟨d, hd, g, hg, h1, h2⟩ := h.at_ j t ht
  exact ⟨d, hd, g, hn g hg, s _ _ h1, s' g _ hg h2⟩
theorem RowsAt.snoc {f : Nat → List Nat} {H H5 : Hp} {q g t : Addr} {ts : List Addr} {L : List Nat} {n : Nat} (h : RowsAt f (fun x => x ≠ q) H ts L) (hq : H q = some (.lst (ts.map V.ref))) (s5 : Same H H5) (hg : H g = none) (hlg : H5 g = some (.lst (nsV (f n)))) (ht : H5 t = none) :
    RowsAt f (fun x => x ≠ q) (upd (upd H5 t (.tup [nV n, .ref g])) q (.lst (ts.map V.ref ++ [.ref t]))) (ts ++ [t]) (L ++ [n]) := by
  have htq : t ≠ q := Ne.symm (ne_of_none (s5 _ _ hq) ht)
  have hgq : g ≠ q := Ne.symm (ne_of_none hq hg)
  have hgt : g ≠ t := ne_of_none hlg ht
  have h' := h.keep (new' := fun x => x ≠ q) (H' := upd (upd H5 t (.tup [nV n, .ref g])) q (.lst (ts.map V.ref ++ [.ref t]))) (fun _ z => z) (fun x xs hx => by
    have : x ≠ q := ne_of hx hq (by intro z; cases z)
    exact (upd_ne this).trans ((upd_ne (ne_of_none (s5 _ _ hx) ht)).trans (s5 _ _ hx))) (fun x o hn hx => (upd_ne hn).trans ((upd_ne (ne_of_none (s5 _ _ hx) ht)).trans (s5 _ _ hx)))
  refine ⟨by rw [List.length_append, List.length_append, h.len]; rfl, fun j x hx => ?_⟩
  by_cases hj : j < ts.length
  · rw [List.getElem?_append_left hj] at hx
    obtain ⟨d, hd, hr⟩ := h'.at_ j x hx
    exact ⟨d, by rw [List.getElem?_append_left (by rw [← h.len]; exact hj)]; exact hd, hr⟩
  · rw [List.getElem?_append_right (by omega)] at hx
    have hj0 : j - ts.length = 0 := by
      rcases Nat.eq_zero_or_pos (j - ts.length) with z | z
      · exact z
      · rw [List.getElem?_eq_none (by simp; omega)] at hx; cases hx
    rw [hj0] at hx
    have : x = t := by simpa using hx.symm
    subst this
    refine ⟨n, ?_, g, hgq, (upd_ne htq).trans upd_same, (upd_ne hgq).trans ((upd_ne hgt).trans hlg)⟩
    rw [List.getElem?_append_right (by rw [← h.len]; omega), ← h.len, hj0]
    rfl
theorem mem_days_iff {b : Book} {x : Nat} : x ∈ b.days ↔ x ∈ b.events.map Km479.Event.day ∨ x ∈ outs b := by
  constructor
  · intro h
    obtain ⟨e, he, hx⟩ := mem_days h
    rcases hx with rfl | ⟨hr, rfl⟩
    · exact .inl (List.mem_map.mpr ⟨e, he, rfl⟩)
    · exact .inr (List.mem_map.mpr ⟨e, List.mem_filter.mpr ⟨he, by rw [hr]; rfl⟩, rfl⟩)
  · rintro (h | h)
    · obtain ⟨e, he, rfl⟩ := List.mem_map.mp h
      exact day_mem he
    · obtain ⟨e, he, rfl⟩ := List.mem_map.mp h
      obtain ⟨h1, h2⟩ := List.mem_filter.mp he
      exact out_mem h1 (by simpa using h2)
def spChangeDays (CD CT : Addr) : Sp := fun vs H Q _ => ∃ (a : Addr) (b : Book), vs = [.ref a, oV b.from_, oV b.ends] ∧ BkAt CD CT H a b ∧ WF b ∧
  ∀ (H' : Hp) (p : Addr) (L : List Nat), Same H H' → H p = none → H' p = some (.lst (nsV L)) → RowDays b L → L.length ≤ 100 → Q (.ref p) H'
def spBoundRows (CD CT : Addr) : Sp := fun vs H Q _ => ∃ (a : Addr) (b : Book), vs = [.ref a] ∧ BkAt CD CT H a b ∧ WF b ∧
  ∀ (H' : Hp) (r : Addr) (ts : List Addr) (L : List Nat), Same H H' → H r = none → H' r = some (.lst (ts.map V.ref)) → RowsAt b.parties (fun _ => True) H' ts L → RowDays b L → L.length ≤ 100 → Q (.ref r) H'
def addO (o : Option Nat) (L : List Nat) : List Nat := match o with
  | none => L
  | some x => L ++ [x]
theorem mem_addO {o : Option Nat} {L : List Nat} {x : Nat} : x ∈ addO o L ↔ x ∈ L ∨ o = some x := by
  cases o with
  | none => exact ⟨.inl, fun h => h.resolve_right (by intro z; cases z)⟩
  | some y =>
    show x ∈ L ++ [y] ↔ _
    rw [List.mem_append, List.mem_singleton]
    constructor
    · rintro (h | h)
      · exact .inl h
      · exact .inr (by rw [h])
    · rintro (h | h)
      · exact .inl h
      · exact .inr (Option.some.inj h).symm
theorem addO_len (o : Option Nat) (L : List Nat) : (addO o L).length ≤ L.length + 1 := by
  cases o with
  | none => exact Nat.le_succ _
  | some y => show (L ++ [y]).length ≤ _; rw [List.length_append]; exact Nat.le_refl _
section
variable {P : Program} {w : World} {K : PySem.W.Frag} {mg : Str → Option Value} {base : Heap} {CD CT : Addr}
theorem scChangeDays : FnScope ["treaty", "start", "end", "days", "deed"] ["treaty", "start", "end"] (defScope sChangeDays) := ⟨rfl, rfl, rfl, by decide +kernel, rfl, by decide +kernel, by decide +kernel⟩
theorem ok_change_days {f : Addr} {fd : FuncData} (F : Fun K "change_days" "change_days" sChangeDays f fd) (T : Txt K CD CT) (msorted : mg "sorted" = none) (D_out_days : Def P w K mg base "out_days" 2 ["treaty"] (spOutDays CD CT)) :
    FnOk P w K mg base CX0 3 f fd ["treaty", "start", "end"] (spChangeDays CD CT) := by
  refine F.ok scChangeDays (fun vs H Q E h => ?_) (fun cdv A outer s H vs Q E hr h => ?_)
  · obtain ⟨a, b, rfl, _⟩ := h
    rfl
  · obtain ⟨a, b, rfl, hB, hw, k⟩ := h
    refine ⟨_, pss_cons (ps_set (i := 3) scChangeDays.nd rfl (Or.inl rfl) (pe_op op_cat (pe_lc (own := [("deed", 4)]) (g := gName 4) (te := tFld K (tVar 4) "day") rfl scChangeDays.nd (pi_list (pe_fld (pv 0) rfl)) (blkOk_by (own := [("deed", 4)]) (N := ["treaty", "start", "end", "days", "deed"]) (sc := defScope sChangeDays) (by decide +kernel)) (fun _ _ _ _ _ => pg_name (i := 4) scChangeDays.nd rfl (Or.inl rfl)) (fun _ _ _ _ _ => pts_nil) (fun _ _ _ _ _ => (pe_fld (pv 4) rfl))) (pe_D D_out_days hr (pa_cons (pv 0) pa_nil))))
      (pss_cons (ps_if (pt_cmp (pc_notN (pv 1))) (pss_one (ps_expr (pe_bm PySem.F.plainAttrs_list PySem.F.slot_list_append PySem.F.type_list_append mt_append (pv 3) (pa_cons (pv 1) pa_nil)))) pss_nil)
      (pss_cons (ps_if (pt_cmp (pc_notN (pv 2))) (pss_one (ps_expr (pe_bm PySem.F.plainAttrs_list PySem.F.slot_list_append PySem.F.type_list_append mt_append (pv 3) (pa_cons (pv 2) pa_nil)))) pss_nil)
      (pss_one (ps_ret (pe_callB cr_sortedI (by rfl) msorted (by decide +kernel) (pa_cons (pv 3) pa_nil)))))), ?_⟩
    obtain ⟨l, as, hTr⟩ := id hB
    obtain ⟨dx, hT⟩ := hTr.obj
    have hl := hTr.lst
    refine ⟨_, rfl, a, CT, dx, _, _, rfl, hT, T.clT, T.tDeeds, treF_deeds _ _, l, rfl, ⟨_, SqL.of hl⟩, fun D hD => ?_⟩
    refine lc_list (K := K) (a := l) (xs := as.map V.ref) (fun j H' => Same H H' ∧ H' D = some (.lst (nsV ((b.events.take j).map Km479.Event.day)))) ⟨Same.over hD (Same.refl _), upd_same⟩ (fun j H' _ h => SqL.of (h.1 _ _ hl)) ?_ ?_
    · rintro j x H' hj ⟨hs, hlD⟩
      obtain ⟨c, e, rfl, he, dc, hD1⟩ := hTr.item hj
      refine ⟨rfl, ?_⟩
      unfold tYes
      refine iteT ?_
      refine ⟨_, rfl, c, CD, dc, _, _, rfl, hs _ _ hD1, T.clD, T.dD, deedF_day e, _, hlD, ?_, Same.over hD hs, ?_⟩
      · rw [nsV_length, List.length_map, List.length_take]
        have := hw.len
        exact small1000 (by omega)
      · rw [upd_same, take_snoc he, List.map_append, List.map_cons, List.map_nil, nsV_snoc]
    rintro H1 ⟨s1, hlD⟩
    rw [List.length_map, hTr.len, List.take_length] at hlD
    refine ⟨_, rfl, a, b, rfl, hB.same s1, hw, fun H2 p2 s2 hp2 hl2 => ?_⟩
    have hol : (outs b).length ≤ 34 := by
      have h3 := outsE_len b.treaty b.events
      rw [outsE_is] at h3
      have := hw.len
      omega
    have hel := hw.len
    refine ⟨D, p2, _, _, rfl, rfl, s2 _ _ hlD, hl2, ?_, fun p3 hp3 => ?_⟩
    · rw [nsV_length, nsV_length, List.length_map]
      exact Nat.le_of_lt (small1000 (by omega))
    have s12 := s1.trans s2
    have hp0 : H p3 = none := s12.free hp3
    have e3 : nsV (b.events.map Km479.Event.day) ++ nsV (outs b) = nsV (b.events.map Km479.Event.day ++ outs b) := List.map_append.symm
    rw [e3]
    -- what is sorted at the end
    have fin : ∀ (H' : Hp), Same H H' → ∀ (ns' : List Int) (p6 : Addr), ns'.Perm ((addO b.ends (addO b.from_ (b.events.map Km479.Event.day ++ outs b))).map fun (n : Nat) => (n : Int)) → ns'.Pairwise (· ≤ ·) → H' p6 = none → Q (.ref p6) (upd H' p6 (.lst (ns'.map V.int))) := by
      intro H' sH ns' p6 hperm hpw hp6
      rw [ints_nats (nn_perm hperm)]
      refine k _ p6 _ (Same.upd sH hp6) (sH.free hp6) upd_same ⟨toNat_pw hpw, fun x => ?_⟩ ?_
      · rw [mem_toNat hperm x, mem_addO, mem_addO, List.mem_append, ← mem_days_iff, mem_all, or_assoc]
      · rw [List.length_map, hperm.length_eq, List.length_map]
        have h1 := addO_len b.ends (addO b.from_ (b.events.map Km479.Event.day ++ outs b))
        have h2 := addO_len b.from_ (b.events.map Km479.Event.day ++ outs b)
        rw [List.length_append, List.length_map] at h2
        omega
    have hL0 : (b.events.map Km479.Event.day ++ outs b).length ≤ 68 := by
      rw [List.length_append, List.length_map]
      omega
    generalize hLL : b.events.map Km479.Event.day ++ outs b = L0 at fin hL0 ⊢
    have sm : ∀ L : List Nat, L.length ≤ 100 → (nsV L).length < sizeLine := fun L hL => by
      rw [nsV_length]
      exact small1000 (by omega)
    cases hf : b.from_ with
    | none =>
      rw [hf] at fin
      refine ⟨_, rfl, _, rfl, ?_⟩
      refine if_false_of rfl ?_
      cases he : b.ends with
      | none =>
        rw [he] at fin
        refine ⟨_, rfl, _, rfl, ?_⟩
        refine if_false_of rfl ?_
        refine ⟨_, rfl, p3, _, rfl, SqL.of (by rw [← nsV_ints]; exact upd_same), ?_⟩
        exact fin _ (Same.upd s12 hp3)
      | some z =>
        rw [ends_none hf] at he
        cases he
    | some y =>
      rw [hf] at fin
      refine ⟨_, rfl, _, rfl, ?_⟩
      refine if_true_of rfl ?_
      refine ⟨_, rfl, .inl ⟨rfl, _, SqL.of upd_same⟩, _, rfl, p3, _, _, rfl, rfl, upd_same, sm _ (by omega), ?_⟩
      have e4 : nsV L0 ++ [oV (some y)] = nsV (L0 ++ [y]) := (nsV_snoc L0 y).symm
      rw [e4]
      cases he : b.ends with
      | none =>
        rw [he] at fin
        refine ⟨_, rfl, _, rfl, ?_⟩
        refine if_false_of rfl ?_
        refine ⟨_, rfl, p3, _, rfl, SqL.of (by rw [← nsV_ints]; exact upd_same), ?_⟩
        exact fin _ (Same.over hp0 (Same.upd s12 hp3))
      | some z =>
        rw [he] at fin
        refine ⟨_, rfl, _, rfl, ?_⟩
        refine if_true_of rfl ?_
        refine ⟨_, rfl, .inl ⟨rfl, _, SqL.of upd_same⟩, _, rfl, p3, _, _, rfl, rfl, upd_same, sm _ (by rw [List.length_append]; simp; omega), ?_⟩
        have e5 : nsV (L0 ++ [y]) ++ [oV (some z)] = nsV (L0 ++ [y] ++ [z]) := (nsV_snoc (L0 ++ [y]) z).symm
        rw [e5]
        refine ⟨_, rfl, p3, _, rfl, SqL.of (by rw [← nsV_ints]; exact upd_same), ?_⟩
        exact fin _ (Same.over hp0 (Same.over hp0 (Same.upd s12 hp3)))
theorem scBoundRows : FnScope ["treaty", "start", "end", "rows", "day"] ["treaty"] (defScope sBoundRows) := ⟨rfl, rfl, rfl, by decide +kernel, rfl, by decide +kernel, by decide +kernel⟩
theorem ok_bound_rows {f : Addr} {fd : FuncData} (F : Fun K "bound_rows" "bound_rows" sBoundRows f fd)
    (D_force_day : Def P w K mg base "force_day" 6 ["treaty"] (spForceDay CD CT)) (D_end_day : Def P w K mg base "end_day" 7 ["treaty"] (spEndDay CD CT)) (D_change_days : Def P w K mg base "change_days" 3 ["treaty", "start", "end"] (spChangeDays CD CT))
    (D_is_within : Def P w K mg base "is_within" 1 ["start", "end", "d"] spIsWithin) (D_ratified_states : Def P w K mg base "ratified_states" 3 ["treaty", "d"] (spRatifiedStates CD CT)) :
    FnOk P w K mg base CX0 8 f fd ["treaty"] (spBoundRows CD CT) := by
  refine F.ok scBoundRows (fun vs H Q E h => ?_) (fun cdv A outer s H vs Q E hr h => ?_)
  · obtain ⟨a, b, rfl, _⟩ := h
    rfl
  · obtain ⟨a, b, rfl, hB, hw, k⟩ := h
    refine ⟨_, pss_cons (ps_set (i := 1) scBoundRows.nd rfl (Or.inl rfl) (pe_D D_force_day hr (pa_cons (pv 0) pa_nil)))
      (pss_cons (ps_set (i := 2) scBoundRows.nd rfl (Or.inl rfl) (pe_D D_end_day hr (pa_cons (pv 0) pa_nil)))
      (pss_cons (ps_set (i := 3) scBoundRows.nd rfl (Or.inl rfl) (pe_lst pa_nil))
      (pss_cons (ps_for PassesOwn.never rfl (pi_list (pe_D D_change_days hr (pa_cons (pv 0) (pa_cons (pv 1) (pa_cons (pv 2) pa_nil))))) (pg_name (i := 4) scBoundRows.nd rfl (Or.inl rfl)) (pss_one (ps_expr (pe_bm PySem.F.plainAttrs_list PySem.F.slot_list_append PySem.F.type_list_append mt_append (pv 3) (pa_cons (pe_tup (pa_cons (pv 4) (pa_cons (pe_ifExp (pt_val (pe_D D_is_within hr (pa_cons (pv 1) (pa_cons (pv 2) (pa_cons (pv 4) pa_nil))))) (pe_D D_ratified_states hr (pa_cons (pv 0) (pa_cons (pv 4) pa_nil))) (pe_lst pa_nil)) pa_nil))) pa_nil)))))
      (pss_one (ps_ret (pv 3)))))), ?_⟩
    refine ⟨_, rfl, a, b, rfl, hB, hw, fun H1 s1 => ⟨_, rfl, a, b, rfl, hB.same s1, hw, fun H2 s2 => ⟨Nat.zero_le _, fun q hq => ?_⟩⟩⟩
    have s12 := s1.trans s2
    have hq0 : H q = none := s12.free hq
    have s3 : Same H (upd H2 q (.lst [])) := Same.upd s12 hq
    refine ⟨_, rfl, _, rfl, _, rfl, a, b, rfl, hB.same s3, hw, fun H4 pL L s4 hpL hlL hR hlen => ?_⟩
    have hq4 : H4 q = some (.lst []) := s4 _ _ upd_same
    have hpq : pL ≠ q := by
      intro z
      rw [z, upd_same] at hpL
      cases hpL
    refine ⟨pL, rfl, ⟨_, SqL.of hlL⟩, ?_⟩
    refine for_list (K := K) (a := pL) (xs := nsV L) (fun j σ H' => ∃ (ts : List Addr) (u : Option V), σ = [some (.ref a), some (oV b.from_), some (oV b.ends), some (.ref q), u] ∧ (∀ x o, H4 x = some o → x ≠ q → H' x = some o) ∧ H' q = some (.lst (ts.map V.ref)) ∧ RowsAt b.parties (fun x => x ≠ q) H' ts (L.take j))
      ⟨[], none, rfl, fun x o e _ => e, hq4, rfl, fun j t ht => by simp at ht⟩ (fun j σ H' _ ⟨ts, u, _, kp, _⟩ => SqL.of (kp _ _ hlL hpq)) ?_ ?_
    · rintro j x σ H' hj ⟨ts, u, rfl, kp, hq', hrows⟩
      obtain ⟨n, hn, rfl⟩ := nsV_get hj
      have sH : Same H H' := fun x o e => kp x o (s4 _ _ (s3 _ _ e)) (ne_of_none e hq0)
      have hjl : j < L.length := (List.getElem?_eq_some_iff.mp hn).1
      refine ⟨_, rfl, .inl ⟨rfl, _, SqL.of hq'⟩, _, rfl, _, rfl, _, rfl, _, rfl, b.from_, b.ends, n, rfl, _, rfl, ?_⟩
      have step : ∀ (H5 : Hp) (g : Addr), Same H' H5 → H' g = none → H5 g = some (.lst (nsV (b.parties n))) → ∀ t : Addr, H5 t = none →
          ∃ (l : Addr) (xs : List V) (y : V), V.ref q = .ref l ∧ [V.ref t] = [y] ∧ upd H5 t (.tup [nV n, .ref g]) l = some (.lst xs) ∧ xs.length < sizeLine ∧
            ∃ (ts' : List Addr) (u' : Option V), [some (.ref a), some (oV b.from_), some (oV b.ends), some (.ref q), some (nV n)] = [some (.ref a), some (oV b.from_), some (oV b.ends), some (.ref q), u'] ∧ (∀ x o, H4 x = some o → x ≠ q → upd (upd H5 t (.tup [nV n, .ref g])) l (.lst (xs ++ [y])) x = some o) ∧ upd (upd H5 t (.tup [nV n, .ref g])) l (.lst (xs ++ [y])) q = some (.lst (ts'.map V.ref)) ∧ RowsAt b.parties (fun x => x ≠ q) (upd (upd H5 t (.tup [nV n, .ref g])) l (.lst (xs ++ [y]))) ts' (L.take (j + 1)) := by
        intro H5 g s5 hg hlg t ht
        have hqt : q ≠ t := ne_of_none (s5 _ _ hq') ht
        refine ⟨q, _, _, rfl, rfl, (upd_ne hqt).trans (s5 _ _ hq'), ?_, ts ++ [t], _, rfl, fun x o e hx => ?_, ?_, ?_⟩
        · rw [List.length_map, hrows.len, List.length_take]
          exact small1000 (by omega)
        · have h1 := s5 _ _ (kp x o e hx)
          exact (upd_ne hx).trans ((upd_ne (ne_of_none h1 ht)).trans h1)
        · rw [upd_same, List.map_append]
          rfl
        · rw [take_snoc hn]
          exact hrows.snoc hq' s5 hg hlg ht
      cases hf : b.inForce n with
      | true =>
        have hf' : within b.from_ b.ends n = true := hf
        refine if_true_of hf' ?_
        refine ⟨_, rfl, _, rfl, a, b, n, rfl, hB.same sH, hw, fun H5 g s5 hg hlg => ?_⟩
        rw [← parties_force hf] at hlg
        refine ⟨by show 2 ≤ sizeLine; decide, fun t ht => ?_⟩
        exact step H5 g s5 hg hlg t ht
      | false =>
        have hf' : within b.from_ b.ends n = false := hf
        refine if_false_of hf' ?_
        refine ⟨Nat.zero_le _, fun g hg => ⟨by show 2 ≤ sizeLine; decide, fun t ht => ?_⟩⟩
        refine step _ g (Same.upd (Same.refl _) hg) hg ?_ t ht
        rw [parties_none hf]
        exact upd_same
    · rintro σ H' ⟨ts, u, rfl, kp, hq', hrows⟩
      rw [nsV_length, List.take_length] at hrows
      have sH : Same H H' := fun x o e => kp x o (s4 _ _ (s3 _ _ e)) (ne_of_none e hq0)
      exact ⟨_, rfl, k H' q ts L sH hq0 hq' (hrows.keep (fun _ _ => trivial) (fun _ _ z => z) (fun _ _ _ z => z)) hR hlen⟩
end
end TF
set_option Elab.async false
set_option maxRecDepth 100000
set_option maxHeartbeats 2000000
namespace TF
open PySem PySem.Spec PyProof.Rows L2
open Km479 (Treaty Book)
abbrev RowsIn (f : Nat → List Nat) (H : Hp) (r : Addr) (ts : List Addr) (L : List Nat) : Prop := H r = some (.lst (ts.map V.ref)) ∧ RowsAt f (fun _ => True) H ts L
def spFirstBound : Sp := fun vs H Q _ => ∃ (r : Addr) (i : Nat) (f : Nat → List Nat) (ts : List Addr) (L : List Nat), vs = [.ref r, nV i] ∧ RowsIn f H r ts L ∧ Q (oV (L.find? fun d => decide (i ∈ f d))) H
def spFirstFree : Sp := fun vs H Q _ => ∃ (r : Addr) (i s : Nat) (f : Nat → List Nat) (ts : List Addr) (L : List Nat), vs = [.ref r, nV i, nV s] ∧ RowsIn f H r ts L ∧ Q (oV (L.find? fun d => decide (s < d) && !decide (i ∈ f d))) H
def spCount : Sp := fun vs H Q _ => ∃ (r : Addr) (i m : Nat) (f : Nat → List Nat) (ts : List Addr) (L : List Nat), vs = [.ref r, nV i, nV m] ∧ RowsIn f H r ts L ∧ L.Pairwise (· ≤ ·) ∧ L.length ≤ 100 ∧ ∀ H', Same H H' → Q (nV (csum (fun d => decide (i ∈ f d)) m L)) H'
def spFullest : Sp := fun vs H Q _ => ∃ (r : Addr) (f : Nat → List Nat) (ts : List Addr) (L : List Nat), vs = [.ref r] ∧ RowsIn f H r ts L ∧ L ≠ [] ∧
  ∀ (t d : Nat), RowAt f (fun _ => True) H t d → L.foldl (best fun x => (f x).length) none = some d → Q (.ref t) H
theorem drop_at {L : List Nat} {j d : Nat} (h : L[j]? = some d) : L.drop j = d :: L.drop (j + 1) := by
  have hlt : j < L.length := (List.getElem?_eq_some_iff.mp h).1
  rw [List.drop_eq_getElem_cons hlt, (List.getElem?_eq_some_iff.mp h).2]
theorem heads_at {L : List Nat} {j d N : Nat} (h : L[j]? = some d) : (L.map (fun d => min d (N + 1)) ++ [N + 1])[j]? = some (min d (N + 1)) := by
  have hlt : j < L.length := (List.getElem?_eq_some_iff.mp h).1
  rw [List.getElem?_append_left (by rw [List.length_map]; exact hlt), List.getElem?_map, h]
  rfl
theorem heads_next {L : List Nat} {j d N : Nat} (h : L[j]? = some d) : (L.map (fun d => min d (N + 1)) ++ [N + 1])[j + 1]? = some (min ((L.drop (j + 1)).head?.getD (N + 1)) (N + 1)) := by
  have hlt : j < L.length := (List.getElem?_eq_some_iff.mp h).1
  cases hn : L[j + 1]? with
  | some e =>
    rw [heads_at hn, drop_at hn]
    rfl
  | none =>
    have hle : L.length ≤ j + 1 := List.getElem?_eq_none_iff.mp hn
    rw [List.drop_eq_nil_of_le hle, List.getElem?_append_right (by rw [List.length_map]; exact hle), List.length_map]
    have e0 : j + 1 - L.length = 0 := by omega
    rw [e0]
    show some (N + 1) = some (min (N + 1) (N + 1))
    rw [Nat.min_self]
theorem next_le {L : List Nat} {j d N : Nat} (hp : L.Pairwise (· ≤ ·)) (h : L[j]? = some d) : min d (N + 1) ≤ min ((L.drop (j + 1)).head?.getD (N + 1)) (N + 1) := by
  cases hn : L[j + 1]? with
  | some e =>
    rw [drop_at hn]
    have h1 := List.pairwise_iff_getElem.mp hp j (j + 1) (List.getElem?_eq_some_iff.mp h).1 (List.getElem?_eq_some_iff.mp hn).1 (Nat.lt_succ_self j)
    rw [(List.getElem?_eq_some_iff.mp h).2, (List.getElem?_eq_some_iff.mp hn).2] at h1
    show min d (N + 1) ≤ min e (N + 1)
    omega
  | none =>
    have hle : L.length ≤ j + 1 := List.getElem?_eq_none_iff.mp hn
    rw [List.drop_eq_nil_of_le hle]
    show min d (N + 1) ≤ min (N + 1) (N + 1)
    omega
section
variable {P : Program} {w : World} {K : PySem.W.Frag} {mg : Str → Option Value} {base : Heap} {CD CT : Addr}
theorem scFirstBoundDay : FnScope ["rows", "i", "day", "states"] ["rows", "i"] (defScope sFirstBoundDay) := ⟨rfl, rfl, rfl, by decide +kernel, rfl, by decide +kernel, by decide +kernel⟩
theorem ok_first_bound_day {f : Addr} {fd : FuncData} (F : Fun K "first_bound_day" "first_bound_day" sFirstBoundDay f fd) : FnOk P w K mg base CX0 1 f fd ["rows", "i"] spFirstBound := by
  refine F.ok scFirstBoundDay (fun vs H Q E h => ?_) (fun cdv A outer s H vs Q E hr h => ?_)
  · obtain ⟨r, i, fn, ts, L, rfl, _⟩ := h
    rfl
  · obtain ⟨r, i, fn, ts, L, rfl, ⟨hl, hrows⟩, k⟩ := h
    refine ⟨_, pss_cons (ps_for PassesOwn.never rfl (pi_list (pv 0)) (pg_tup rfl (pgs_cons (pg_name (i := 2) scFirstBoundDay.nd rfl (Or.inl rfl)) (pgs_cons (pg_name (i := 3) scFirstBoundDay.nd rfl (Or.inl rfl)) (pgs_nil)))) (pss_one (ps_if (pt_cmpR op_in_seq (pv 1) (pv 3) rfl) (pss_one (ps_ret (pv 2))) pss_nil)))
      (pss_one (ps_ret pe_non)), ?_⟩
    refine ⟨_, rfl, r, rfl, ⟨_, SqL.of hl⟩, ?_⟩
    refine for_list (K := K) (a := r) (xs := ts.map V.ref) (fun j σ H' => H' = H ∧ (∃ u v : Option V, σ = [some (.ref r), some (nV i), u, v]) ∧ (L.find? fun d => decide (i ∈ fn d)) = (L.drop j).find? fun d => decide (i ∈ fn d))
      ⟨rfl, ⟨none, none, rfl⟩, rfl⟩ (fun j σ H' _ h => by rw [h.1]; exact SqL.of hl) ?_ ?_
    · rintro j x σ H' hj ⟨rfl, ⟨u, v, rfl⟩, hf⟩
      obtain ⟨t, d, g, rfl, hd, ht, hg⟩ := hrows.item hj
      rw [drop_at hd, List.find?_cons] at hf
      refine ⟨t, _, rfl, SqT.of ht, rfl, _, _, rfl, _, _, rfl, rfl, _, rfl, _, rfl, g, _, rfl, .inl (SqL.of hg), rfl, nsV_flat _, _, rfl, ?_⟩
      have e1 : (if false = true then !inV (nV i) (nsV (fn d)) else inV (nV i) (nsV (fn d))) = decide (i ∈ fn d) := by
        rw [if_neg Bool.false_ne_true, inV_ns]
      cases hb : decide (i ∈ fn d) with
      | true =>
        refine if_true_of (e1.trans hb) ?_
        rw [hb] at hf
        rw [hf] at k
        exact ⟨_, rfl, k⟩
      | false =>
        refine if_false_of (e1.trans hb) ?_
        rw [hb] at hf
        exact ⟨rfl, ⟨_, _, rfl⟩, hf⟩
    · rintro σ H' ⟨rfl, ⟨u, v, rfl⟩, hf⟩
      rw [List.length_map, hrows.len, List.drop_length] at hf
      rw [hf] at k
      exact k
theorem scFirstFreeDay : FnScope ["rows", "i", "behind", "day", "states"] ["rows", "i", "behind"] (defScope sFirstFreeDay) := ⟨rfl, rfl, rfl, by decide +kernel, rfl, by decide +kernel, by decide +kernel⟩
theorem ok_first_free_day {f : Addr} {fd : FuncData} (F : Fun K "first_free_day" "first_free_day" sFirstFreeDay f fd) : FnOk P w K mg base CX0 1 f fd ["rows", "i", "behind"] spFirstFree := by
  refine F.ok scFirstFreeDay (fun vs H Q E h => ?_) (fun cdv A outer s H vs Q E hr h => ?_)
  · obtain ⟨r, i, z, fn, ts, L, rfl, _⟩ := h
    rfl
  · obtain ⟨r, i, z, fn, ts, L, rfl, ⟨hl, hrows⟩, k⟩ := h
    refine ⟨_, pss_cons (ps_for PassesOwn.never rfl (pi_list (pv 0)) (pg_tup rfl (pgs_cons (pg_name (i := 3) scFirstFreeDay.nd rfl (Or.inl rfl)) (pgs_cons (pg_name (i := 4) scFirstFreeDay.nd rfl (Or.inl rfl)) (pgs_nil)))) (pss_one (ps_if (PW.pt (pw_and (pt_cmp (pc_gt (pv 3) (pv 2))) (pw_and1 (pt_cmpR op_notIn_seq (pv 1) (pv 4) rfl)))) (pss_one (ps_ret (pv 3))) pss_nil)))
      (pss_one (ps_ret pe_non)), ?_⟩
    refine ⟨_, rfl, r, rfl, ⟨_, SqL.of hl⟩, ?_⟩
    refine for_list (K := K) (a := r) (xs := ts.map V.ref) (fun j σ H' => H' = H ∧ (∃ u v : Option V, σ = [some (.ref r), some (nV i), some (nV z), u, v]) ∧ (L.find? fun d => decide (z < d) && !decide (i ∈ fn d)) = (L.drop j).find? fun d => decide (z < d) && !decide (i ∈ fn d))
      ⟨rfl, ⟨none, none, rfl⟩, rfl⟩ (fun j σ H' _ h => by rw [h.1]; exact SqL.of hl) ?_ ?_
    · rintro j x σ H' hj ⟨rfl, ⟨u, v, rfl⟩, hf⟩
      obtain ⟨t, d, g, rfl, hd, ht, hg⟩ := hrows.item hj
      rw [drop_at hd, List.find?_cons] at hf
      refine ⟨t, _, rfl, SqT.of ht, rfl, _, _, rfl, _, _, rfl, rfl, _, rfl, _, rfl, _, _, rfl, rfl, _, rfl, ?_⟩
      by_cases hz : z < d
      · refine if_true_of (decide_eq_true (by omega)) ?_
        rw [decide_eq_true hz, Bool.true_and] at hf
        refine ⟨_, rfl, _, rfl, g, _, rfl, .inl (SqL.of hg), rfl, nsV_flat _, _, rfl, ?_⟩
        have e1 : (if true = true then !inV (nV i) (nsV (fn d)) else inV (nV i) (nsV (fn d))) = !decide (i ∈ fn d) := by
          rw [if_pos rfl, inV_ns]
        cases hb : decide (i ∈ fn d) with
        | false =>
          refine if_true_of (e1.trans (by rw [hb]; rfl)) ?_
          rw [hb] at hf
          have hf : L.find? _ = some d := hf
          rw [hf] at k
          exact ⟨_, rfl, k⟩
        | true =>
          refine if_false_of (e1.trans (by rw [hb]; rfl)) ?_
          rw [hb] at hf
          exact ⟨rfl, ⟨_, _, rfl⟩, hf⟩
      · refine if_false_of (decide_eq_false (by omega)) ?_
        rw [decide_eq_false hz, Bool.false_and] at hf
        refine if_false_of rfl ?_
        exact ⟨rfl, ⟨_, _, rfl⟩, hf⟩
    · rintro σ H' ⟨rfl, ⟨u, v, rfl⟩, hf⟩
      rw [List.length_map, hrows.len, List.drop_length] at hf
      rw [hf] at k
      exact k
theorem scFullestRow : FnScope ["rows", "best", "row"] ["rows"] (defScope sFullestRow) := ⟨rfl, rfl, rfl, by decide +kernel, rfl, by decide +kernel, by decide +kernel⟩
theorem ok_fullest_row {f : Addr} {fd : FuncData} (F : Fun K "fullest_row" "fullest_row" sFullestRow f fd) (mlen : mg "len" = none) : FnOk P w K mg base CX0 1 f fd ["rows"] spFullest := by
  refine F.ok scFullestRow (fun vs H Q E h => ?_) (fun cdv A outer s H vs Q E hr h => ?_)
  · obtain ⟨r, fn, ts, L, rfl, _⟩ := h
    rfl
  · obtain ⟨r, fn, ts, L, rfl, ⟨hl, hrows⟩, hne, k⟩ := h
    refine ⟨_, pss_cons (ps_set (i := 1) scFullestRow.nd rfl (Or.inl rfl) (pe_ix ix_list (pv 0) pe_int (fun _ _ => rfl)))
      (pss_cons (ps_for PassesOwn.never rfl (pi_list (pv 0)) (pg_name (i := 2) scFullestRow.nd rfl (Or.inl rfl)) (pss_one (ps_if (pt_cmp (pc_gt (pe_callB call_len_seq (by rfl) mlen PySem.boot_len (pa_cons (pe_ix ix_tup (pv 2) pe_int (fun _ _ => rfl)) pa_nil)) (pe_callB call_len_seq (by rfl) mlen PySem.boot_len (pa_cons (pe_ix ix_tup (pv 1) pe_int (fun _ _ => rfl)) pa_nil)))) (pss_one (ps_set (i := 1) scFullestRow.nd rfl (Or.inl rfl) (pv 2))) pss_nil)))
      (pss_one (ps_ret (pv 1)))), ?_⟩
    obtain ⟨x0, L', rfl⟩ : ∃ x0 L', L = x0 :: L' := by
      cases L with
      | nil => exact absurd rfl hne
      | cons x l => exact ⟨x, l, rfl⟩
    obtain ⟨t0, ht0⟩ : ∃ t0, ts[0]? = some t0 := ⟨_, List.getElem?_eq_getElem (by rw [hrows.len]; exact Nat.succ_pos _)⟩
    obtain ⟨d0, hd0, hrow0⟩ := hrows.at_ 0 t0 ht0
    have hd0 : x0 = d0 := Option.some.inj hd0
    subst hd0
    have i0 : atI (ts.map V.ref) ((0 : Nat) : Int) = some (.ref t0) := atI_nat (by rw [List.getElem?_map, ht0]; rfl)
    refine ⟨_, rfl, r, _, _, _, rfl, rfl, SqL.of hl, i0, ?_⟩
    refine ⟨_, rfl, r, rfl, ⟨_, SqL.of hl⟩, ?_⟩
    refine for_list (K := K) (a := r) (xs := ts.map V.ref) (fun j σ H' => H' = H ∧ ∃ (tb db : Nat) (u : Option V), σ = [some (.ref r), some (.ref tb), u] ∧ RowAt fn (fun _ => True) H tb db ∧ ((x0 :: L').take j).foldl (best fun x => (fn x).length) (some x0) = some db)
      ⟨rfl, t0, x0, none, rfl, hrow0, rfl⟩ (fun j σ H' _ h => by rw [h.1]; exact SqL.of hl) ?_ ?_
    · rintro j x σ H' hj ⟨rfl, tb, db, u, rfl, hrb, hf⟩
      obtain ⟨t, d, g, rfl, hd, ht, hg⟩ := hrows.item hj
      obtain ⟨gb, _, htb, hgb⟩ := id hrb
      refine ⟨_, rfl, t, _, _, _, rfl, rfl, SqT.of ht, at_of (j := 1) (v := .ref g) rfl rfl, g, _, rfl, .inl (SqL.of hg), _, rfl, tb, _, _, _, rfl, rfl, SqT.of htb, at_of (j := 1) (v := .ref gb) rfl rfl, gb, _, rfl, .inl (SqL.of hgb), _, _, rfl, rfl, _, rfl, ?_⟩
      rw [nsV_length, nsV_length]
      have hstep : ((x0 :: L').take (j + 1)).foldl (best fun x => (fn x).length) (some x0) = if (fn db).length < (fn d).length then some d else some db := by
        rw [take_snoc hd, List.foldl_append, hf]
        rfl
      by_cases hlt : (fn db).length < (fn d).length
      · refine if_true_of (decide_eq_true (by omega)) ?_
        rw [if_pos hlt] at hstep
        exact ⟨_, rfl, rfl, t, d, _, rfl, ⟨g, trivial, ht, hg⟩, hstep⟩
      · refine if_false_of (decide_eq_false (by omega)) ?_
        rw [if_neg hlt] at hstep
        exact ⟨rfl, tb, db, _, rfl, hrb, hstep⟩
    · rintro σ H' ⟨rfl, tb, db, u, rfl, hrb, hf⟩
      rw [List.length_map, hrows.len, List.take_length] at hf
      refine ⟨_, rfl, k tb db hrb ?_⟩
      rw [List.foldl_cons] at hf ⊢
      rw [best_self] at hf
      exact hf
theorem scCountBoundDays : FnScope ["rows", "i", "latest", "heads", "many", "at", "row", "day", "states"] ["rows", "i", "latest"] (defScope sCountBoundDays) := ⟨rfl, rfl, rfl, by decide +kernel, rfl, by decide +kernel, by decide +kernel⟩
theorem ok_count_bound_days {f : Addr} {fd : FuncData} (F : Fun K "count_bound_days" "count_bound_days" sCountBoundDays f fd) (menumerate : mg "enumerate" = none) (mmin : mg "min" = none) : FnOk P w K mg base CX0 1 f fd ["rows", "i", "latest"] spCount := by
  refine F.ok scCountBoundDays (fun vs H Q E h => ?_) (fun cdv A outer s H vs Q E hr h => ?_)
  · obtain ⟨r, i, m, fn, ts, L, rfl, _⟩ := h
    rfl
  · obtain ⟨r, i, m, fn, ts, L, rfl, ⟨hl, hrows⟩, hpw, hlen, k⟩ := h
    refine ⟨_, pss_cons (ps_set (i := 3) scCountBoundDays.nd rfl (Or.inl rfl) (pe_op op_cat (pe_lc (own := [("day", 7), ("states", 8)]) (g := gTup K 2 (gCons (gName 7) (gCons (gName 8) (gNil))))  rfl scCountBoundDays.nd (pi_list (pv 0)) (blkOk_by (own := [("day", 7), ("states", 8)]) (N := ["rows", "i", "latest", "heads", "many", "at", "row", "day", "states"]) (sc := defScope sCountBoundDays) (by decide +kernel)) (fun _ _ _ _ _ => pg_tup rfl (pgs_cons (pg_name (i := 7) scCountBoundDays.nd rfl (Or.inl rfl)) (pgs_cons (pg_name (i := 8) scCountBoundDays.nd rfl (Or.inl rfl)) (pgs_nil)))) (fun _ _ _ _ _ => pts_nil) (fun _ _ _ _ _ => (pe_callB (call_min2 rfl) (by rfl) mmin (by decide +kernel) (pa_cons (pv 7) (pa_cons (pe_op op_add (pv 2) pe_int) pa_nil))))) (pe_lst (pa_cons (pe_op op_add (pv 2) pe_int) pa_nil))))
      (pss_cons (ps_set (i := 4) scCountBoundDays.nd rfl (Or.inl rfl) pe_int)
      (pss_cons (ps_for PassesOwn.never rfl (pi_enum rfl menumerate (pa_cons (pv 0) pa_nil)) (pg_tup rfl (pgs_cons (pg_name (i := 5) scCountBoundDays.nd rfl (Or.inl rfl)) (pgs_cons (pg_name (i := 6) scCountBoundDays.nd rfl (Or.inl rfl)) (pgs_nil)))) (pss_one (ps_if (pt_cmpR op_in_seq (pv 1) (pe_ix ix_tup (pv 6) pe_int (fun _ _ => rfl)) rfl) (pss_one (ps_aug (i := 4) scCountBoundDays.nd rfl (Or.inl rfl) (pe_op op_sub (pe_ix ix_list (pv 3) (pe_op op_add (pv 5) pe_int) (fun _ _ => rfl)) (pe_ix ix_list (pv 3) (pv 5) (fun _ _ => rfl))) ip_add)) pss_nil)))
      (pss_one (ps_ret (pv 4))))), ?_⟩
    refine ⟨_, rfl, r, rfl, ⟨_, SqL.of hl⟩, fun D hD => ?_⟩
    refine lc_list (K := K) (a := r) (xs := ts.map V.ref) (fun j H' => Same H H' ∧ H' D = some (.lst (nsV ((L.take j).map fun d => min d (m + 1))))) ⟨Same.over hD (Same.refl _), upd_same⟩ (fun j H' _ h => SqL.of (h.1 _ _ hl)) ?_ ?_
    · rintro j x H' hj ⟨hs, hlD⟩
      obtain ⟨t, d, g, rfl, hd, ht, hg⟩ := hrows.item hj
      refine ⟨t, _, rfl, SqT.of (hs _ _ ht), rfl, _, _, rfl, _, _, rfl, rfl, rfl, ?_⟩
      unfold tYes
      refine iteT ?_
      refine ⟨_, rfl, _, rfl, _, _, rfl, rfl, _, _, rfl, _, hlD, ?_, Same.over hD hs, ?_⟩
      · rw [nsV_length, List.length_map, List.length_take]
        exact small1000 (by omega)
      · have e1 : V.int (if (m : Int) + 1 < (d : Int) then (m : Int) + 1 else (d : Int)) = nV (min d (m + 1)) := by
          unfold nV
          congr 1
          split <;> omega
        rw [e1, upd_same, take_snoc hd, List.map_append, List.map_cons, List.map_nil, nsV_snoc]
    rintro H1 ⟨s1, hlD⟩
    rw [List.length_map, hrows.len, List.take_length] at hlD
    refine ⟨_, rfl, _, _, rfl, rfl, by show 1 ≤ sizeLine; decide, fun p2 hp2 => ?_⟩
    have s2 : Same H1 (upd H1 p2 (.lst [.int ((m : Int) + 1)])) := Same.upd (Same.refl _) hp2
    refine ⟨D, p2, _, _, rfl, rfl, s2 _ _ hlD, upd_same, ?_, fun p3 hp3 => ?_⟩
    · rw [nsV_length, List.length_map]
      exact Nat.le_of_lt (small1000 (by show _ + 1 ≤ 1000; omega))
    have e3 : nsV (L.map fun d => min d (m + 1)) ++ [.int ((m : Int) + 1)] = nsV ((L.map fun d => min d (m + 1)) ++ [m + 1]) := by
      rw [nsV_snoc]
      rfl
    rw [e3]
    have s13 : Same H (upd (upd H1 p2 (.lst [.int ((m : Int) + 1)])) p3 (.lst (nsV ((L.map fun d => min d (m + 1)) ++ [m + 1])))) := Same.upd (s1.trans s2) hp3
    generalize hH3 : upd (upd H1 p2 (.lst [.int ((m : Int) + 1)])) p3 (.lst (nsV ((L.map fun d => min d (m + 1)) ++ [m + 1]))) = H3 at s13 ⊢
    have hl3 : H3 p3 = some (.lst (nsV ((L.map fun d => min d (m + 1)) ++ [m + 1]))) := by rw [← hH3]; exact upd_same
    refine ⟨_, rfl, r, _, rfl, SqL.of (s13 _ _ hl), ?_⟩
    refine for_it (walk_enum (K := K) (a := r) (xs := ts.map V.ref)) (fun j σ H' => Same H3 H' ∧ ∃ (c : Nat) (u v : Option V), σ = [some (.ref r), some (nV i), some (nV m), some (.ref p3), some (nV c), u, v, none, none] ∧ c + csum (fun d => decide (i ∈ fn d)) m (L.drop j) = csum (fun d => decide (i ∈ fn d)) m L)
      ⟨Same.refl _, 0, none, none, rfl, Nat.zero_add _⟩ (fun j σ H' _ h => SqL.of (h.1 _ _ (s13 _ _ hl))) ?_ ?_
    · rintro j x σ H' H'' hj ⟨hs, c, u, v, rfl, hc⟩ ⟨t', xi, v', rfl, ht', rfl, e1, hv⟩
      have e1 : V.int (j : Nat) = xi := Option.some.inj e1
      subst e1
      obtain ⟨t, d, g, rfl, hd, ht, hg⟩ := hrows.item hv
      have sh : Same H3 (upd H' t' (.tup [.int (j : Nat), .ref t])) := Same.upd hs ht'
      have shh := s13.trans sh
      refine ⟨t', _, rfl, SqT.of upd_same, rfl, _, _, rfl, _, _, rfl, rfl, ?_⟩
      refine ⟨_, rfl, _, rfl, t, _, _, _, rfl, rfl, SqT.of (shh _ _ ht), at_of (j := 1) (v := .ref g) rfl rfl, g, _, rfl, .inl (SqL.of (shh _ _ hg)), rfl, nsV_flat _, _, rfl, ?_⟩
      have e1 : (if false = true then !inV (nV i) (nsV (fn d)) else inV (nV i) (nsV (fn d))) = decide (i ∈ fn d) := by
        rw [if_neg Bool.false_ne_true, inV_ns]
      rw [drop_at hd] at hc
      have hc : c + ((if decide (i ∈ fn d) = true then min ((L.drop (j + 1)).head?.getD (m + 1)) (m + 1) - min d (m + 1) else 0) + csum (fun d => decide (i ∈ fn d)) m (L.drop (j + 1))) = _ := hc
      cases hb : decide (i ∈ fn d) with
      | true =>
        refine if_true_of (e1.trans hb) ?_
        rw [if_pos hb] at hc
        have i1 : atI (nsV ((L.map fun d => min d (m + 1)) ++ [m + 1])) ((j : Int) + 1) = some (nV (min ((L.drop (j + 1)).head?.getD (m + 1)) (m + 1))) := by
          rw [show (j : Int) + 1 = ((j + 1 : Nat) : Int) by omega]
          exact atI_nat (by unfold nsV; rw [List.getElem?_map, heads_next hd]; rfl)
        have i2 : atI (nsV ((L.map fun d => min d (m + 1)) ++ [m + 1])) (j : Int) = some (nV (min d (m + 1))) := atI_nat (by unfold nsV; rw [List.getElem?_map, heads_at hd]; rfl)
        have hle := next_le (N := m) hpw hd
        refine ⟨_, rfl, _, rfl, _, rfl, _, _, rfl, rfl, p3, _, _, _, rfl, rfl, SqL.of (sh _ _ hl3), i1, _, rfl, _, rfl, p3, _, _, _, rfl, rfl, SqL.of (sh _ _ hl3), i2, _, _, rfl, rfl, _, _, rfl, rfl, ?_⟩
        refine ⟨sh, c + (min ((L.drop (j + 1)).head?.getD (m + 1)) (m + 1) - min d (m + 1)), some (.int (j : Nat)), some (.ref t), ?_, by omega⟩
        have e2 : (c : Int) + (((min ((L.drop (j + 1)).head?.getD (m + 1)) (m + 1) : Nat) : Int) - ((min d (m + 1) : Nat) : Int)) = ((c + (min ((L.drop (j + 1)).head?.getD (m + 1)) (m + 1) - min d (m + 1)) : Nat) : Int) := by omega
        have e3 : V.int ((c : Int) + (((min ((L.drop (j + 1)).head?.getD (m + 1)) (m + 1) : Nat) : Int) - ((min d (m + 1) : Nat) : Int))) = nV (c + (min ((L.drop (j + 1)).head?.getD (m + 1)) (m + 1) - min d (m + 1))) := congrArg V.int e2
        rw [← e3]
        rfl
      | false =>
        refine if_false_of (e1.trans hb) ?_
        rw [if_neg (by rw [hb]; exact Bool.false_ne_true)] at hc
        exact ⟨sh, c, _, _, rfl, by omega⟩
    · rintro σ H' ⟨hs, c, u, v, rfl, hc⟩
      rw [List.length_map, hrows.len, List.drop_length] at hc
      have hc : c + 0 = _ := hc
      refine ⟨_, rfl, ?_⟩
      rw [Nat.add_zero] at hc
      rw [hc]
      exact k H' (s13.trans hs)
end
end TF
set_option Elab.async false
set_option maxRecDepth 100000
set_option maxHeartbeats 2000000
namespace TF
open PySem PySem.Spec PyProof.Rows L2
open Km479 (Treaty Book)
section
variable {P : Program} {w : World} {K : PySem.W.Frag} {mg : Str → Option Value} {base : Heap} {CD CT : Addr}
theorem scFoSince : FnScope ["treaty", "given", "i", "since"] ["treaty", "given"] (defScope sFoSince) := ⟨rfl, rfl, rfl, by decide +kernel, rfl, by decide +kernel, by decide +kernel⟩
theorem ok_fo_since {f : Addr} {fd : FuncData} (F : Fun K "fo_since" "fo_since" sFoSince f fd) (T : Txt K CD CT) (G : Consts mg) (D_bound_rows : Def P w K mg base "bound_rows" 8 ["treaty"] (spBoundRows CD CT)) (D_first_bound_day : Def P w K mg base "first_bound_day" 1 ["rows", "i"] spFirstBound) :
    FnOk P w K mg base CX0 9 f fd ["treaty", "given"] (spFo K CD CT (c1 .since)) := by
  refine F.ok scFoSince (fun vs H Q E h => ?_) (fun cdv A outer s H vs Q E hr h => ?_)
  · obtain ⟨a, g, l, as, b, xs, c, rfl, _⟩ := h
    rfl
  · obtain ⟨a, g, l, as, b, xs, c, rfl, hT, hw, hg, hc, k⟩ := h
    obtain ⟨i, rfl, rfl⟩ := c1_some hc
    obtain ⟨hw, _⟩ := hw rfl
    refine ⟨_, pss_cons (ps_set (i := 2) scFoSince.nd rfl (Or.inl rfl) (pe_ix ix_list (pv 1) pe_int (fun _ _ => rfl)))
      (pss_cons (ps_if (pt_cmp (pc_ge (pv 2) (pe_fld (pv 0) rfl))) (pss_one (ps_ret (pe_lst (pa_cons (pe_G G.NONE_THERE) pa_nil)))) pss_nil)
      (pss_cons (ps_set (i := 3) scFoSince.nd rfl (Or.inl rfl) (pe_D D_first_bound_day hr (pa_cons (pe_D D_bound_rows hr (pa_cons (pv 0) pa_nil)) (pa_cons (pv 2) pa_nil))))
      (pss_cons (ps_if (pt_cmp (pc_isN (pv 3))) (pss_one (ps_ret (pe_lst (pa_cons (pe_G G.NO_DAY) pa_nil)))) pss_nil)
      (pss_one (ps_ret (pe_lst (pa_cons (pv 3) pa_nil))))))), ?_⟩
    obtain ⟨dx, ho⟩ := hT.obj
    refine ⟨_, rfl, g, _, _, _, rfl, rfl, hg, at_of (j := 0) (v := nV i) rfl rfl, _, rfl, _, rfl, a, CT, dx, _, _, rfl, ho, T.clT, T.tN, treF_n _ _, _, _, rfl, rfl, _, rfl, ?_⟩
    have ea : Km479.act b (.since i) = (b, if b.treaty.n ≤ i then Km479.only (-2) else match b.since i with
      | none => Km479.only (-33)
      | some s => Km479.only (Km479.n2i s)) := rfl
    by_cases h1 : b.treaty.n ≤ i
    · refine if_true_of (decide_eq_true (by omega)) ?_
      rw [if_pos h1] at ea
      exact ⟨by show 1 ≤ sizeLine; decide, fun p hp => fo_same k hT ea (Same.refl _) hp rfl⟩
    · refine if_false_of (decide_eq_false (by omega)) ?_
      rw [if_neg h1] at ea
      refine ⟨_, rfl, a, b, rfl, hT.bk, hw, fun H1 r ts L s1 hr1 hlr hrows hR hlen => ⟨_, rfl, r, i, b.parties, ts, L, rfl, ⟨hlr, hrows⟩, ?_⟩⟩
      rw [since_rows hR (by omega)]
      cases hs : b.since i with
      | none =>
        rw [hs] at ea
        refine ⟨_, rfl, _, rfl, ?_⟩
        refine if_true_of rfl ?_
        exact ⟨by show 1 ≤ sizeLine; decide, fun p hp => fo_same k hT ea s1 hp rfl⟩
      | some z =>
        rw [hs] at ea
        refine ⟨_, rfl, _, rfl, ?_⟩
        refine if_false_of rfl ?_
        exact ⟨_, rfl, by show 1 ≤ sizeLine; decide, fun p hp => fo_same k hT ea s1 hp rfl⟩
theorem scFoUntil : FnScope ["treaty", "given", "i", "rows", "since", "until"] ["treaty", "given"] (defScope sFoUntil) := ⟨rfl, rfl, rfl, by decide +kernel, rfl, by decide +kernel, by decide +kernel⟩
theorem ok_fo_until {f : Addr} {fd : FuncData} (F : Fun K "fo_until" "fo_until" sFoUntil f fd) (T : Txt K CD CT) (G : Consts mg) (D_bound_rows : Def P w K mg base "bound_rows" 8 ["treaty"] (spBoundRows CD CT)) (D_first_bound_day : Def P w K mg base "first_bound_day" 1 ["rows", "i"] spFirstBound) (D_first_free_day : Def P w K mg base "first_free_day" 1 ["rows", "i", "behind"] spFirstFree) :
    FnOk P w K mg base CX0 9 f fd ["treaty", "given"] (spFo K CD CT (c1 .until_)) := by
  refine F.ok scFoUntil (fun vs H Q E h => ?_) (fun cdv A outer s H vs Q E hr h => ?_)
  · obtain ⟨a, g, l, as, b, xs, c, rfl, _⟩ := h
    rfl
  · obtain ⟨a, g, l, as, b, xs, c, rfl, hT, hw, hg, hc, k⟩ := h
    obtain ⟨i, rfl, rfl⟩ := c1_some hc
    obtain ⟨hw, _⟩ := hw rfl
    refine ⟨_, pss_cons (ps_set (i := 2) scFoUntil.nd rfl (Or.inl rfl) (pe_ix ix_list (pv 1) pe_int (fun _ _ => rfl)))
      (pss_cons (ps_if (pt_cmp (pc_ge (pv 2) (pe_fld (pv 0) rfl))) (pss_one (ps_ret (pe_lst (pa_cons (pe_G G.NONE_THERE) pa_nil)))) pss_nil)
      (pss_cons (ps_set (i := 3) scFoUntil.nd rfl (Or.inl rfl) (pe_D D_bound_rows hr (pa_cons (pv 0) pa_nil)))
      (pss_cons (ps_set (i := 4) scFoUntil.nd rfl (Or.inl rfl) (pe_D D_first_bound_day hr (pa_cons (pv 3) (pa_cons (pv 2) pa_nil))))
      (pss_cons (ps_if (pt_cmp (pc_isN (pv 4))) (pss_one (ps_ret (pe_lst (pa_cons (pe_G G.NO_DAY) pa_nil)))) pss_nil)
      (pss_cons (ps_set (i := 5) scFoUntil.nd rfl (Or.inl rfl) (pe_D D_first_free_day hr (pa_cons (pv 3) (pa_cons (pv 2) (pa_cons (pv 4) pa_nil)))))
      (pss_cons (ps_if (pt_cmp (pc_isN (pv 5))) (pss_one (ps_ret (pe_lst (pa_cons (pe_G G.NO_END) pa_nil)))) pss_nil)
      (pss_one (ps_ret (pe_lst (pa_cons (pv 5) pa_nil)))))))))), ?_⟩
    obtain ⟨dx, ho⟩ := hT.obj
    refine ⟨_, rfl, g, _, _, _, rfl, rfl, hg, at_of (j := 0) (v := nV i) rfl rfl, _, rfl, _, rfl, a, CT, dx, _, _, rfl, ho, T.clT, T.tN, treF_n _ _, _, _, rfl, rfl, _, rfl, ?_⟩
    have ea : Km479.act b (.until_ i) = (b, if b.treaty.n ≤ i then Km479.only (-2) else if b.since i = none then Km479.only (-33) else match b.until_ i with
      | none => Km479.only (-61)
      | some u => Km479.only (Km479.n2i u)) := rfl
    by_cases h1 : b.treaty.n ≤ i
    · refine if_true_of (decide_eq_true (by omega)) ?_
      rw [if_pos h1] at ea
      exact ⟨by show 1 ≤ sizeLine; decide, fun p hp => fo_same k hT ea (Same.refl _) hp rfl⟩
    · refine if_false_of (decide_eq_false (by omega)) ?_
      rw [if_neg h1] at ea
      refine ⟨_, rfl, a, b, rfl, hT.bk, hw, fun H1 r ts L s1 hr1 hlr hrows hR hlen => ⟨_, rfl, _, rfl, r, i, b.parties, ts, L, rfl, ⟨hlr, hrows⟩, ?_⟩⟩
      rw [since_rows hR (by omega)]
      cases hs : b.since i with
      | none =>
        rw [if_pos hs] at ea
        refine ⟨_, rfl, _, rfl, ?_⟩
        refine if_true_of rfl ?_
        exact ⟨by show 1 ≤ sizeLine; decide, fun p hp => fo_same k hT ea s1 hp rfl⟩
      | some z =>
        rw [if_neg (by rw [hs]; intro q; cases q)] at ea
        refine ⟨_, rfl, _, rfl, ?_⟩
        refine if_false_of rfl ?_
        refine ⟨_, rfl, _, rfl, _, rfl, r, i, z, b.parties, ts, L, rfl, ⟨hlr, hrows⟩, ?_⟩
        rw [until_rows hR (by omega) hs]
        cases hu : b.until_ i with
        | none =>
          rw [hu] at ea
          refine ⟨_, rfl, _, rfl, ?_⟩
          refine if_true_of rfl ?_
          exact ⟨by show 1 ≤ sizeLine; decide, fun p hp => fo_same k hT ea s1 hp rfl⟩
        | some y =>
          rw [hu] at ea
          refine ⟨_, rfl, _, rfl, ?_⟩
          refine if_false_of rfl ?_
          exact ⟨_, rfl, by show 1 ≤ sizeLine; decide, fun p hp => fo_same k hT ea s1 hp rfl⟩
theorem scFoDays : FnScope ["treaty", "given", "i"] ["treaty", "given"] (defScope sFoDays) := ⟨rfl, rfl, rfl, by decide +kernel, rfl, by decide +kernel, by decide +kernel⟩
theorem ok_fo_days {f : Addr} {fd : FuncData} (F : Fun K "fo_days" "fo_days" sFoDays f fd) (T : Txt K CD CT) (G : Consts mg) (D_bound_rows : Def P w K mg base "bound_rows" 8 ["treaty"] (spBoundRows CD CT)) (D_count_bound_days : Def P w K mg base "count_bound_days" 1 ["rows", "i", "latest"] spCount) :
    FnOk P w K mg base CX0 9 f fd ["treaty", "given"] (spFo K CD CT (c1 .days)) := by
  refine F.ok scFoDays (fun vs H Q E h => ?_) (fun cdv A outer s H vs Q E hr h => ?_)
  · obtain ⟨a, g, l, as, b, xs, c, rfl, _⟩ := h
    rfl
  · obtain ⟨a, g, l, as, b, xs, c, rfl, hT, hw, hg, hc, k⟩ := h
    obtain ⟨i, rfl, rfl⟩ := c1_some hc
    obtain ⟨hw, _⟩ := hw rfl
    refine ⟨_, pss_cons (ps_set (i := 2) scFoDays.nd rfl (Or.inl rfl) (pe_ix ix_list (pv 1) pe_int (fun _ _ => rfl)))
      (pss_cons (ps_if (pt_cmp (pc_ge (pv 2) (pe_fld (pv 0) rfl))) (pss_one (ps_ret (pe_lst (pa_cons (pe_G G.NONE_THERE) pa_nil)))) pss_nil)
      (pss_one (ps_ret (pe_lst (pa_cons (pe_D D_count_bound_days hr (pa_cons (pe_D D_bound_rows hr (pa_cons (pv 0) pa_nil)) (pa_cons (pv 2) (pa_cons (pe_G G.LATEST_DAY) pa_nil)))) pa_nil))))), ?_⟩
    obtain ⟨dx, ho⟩ := hT.obj
    refine ⟨_, rfl, g, _, _, _, rfl, rfl, hg, at_of (j := 0) (v := nV i) rfl rfl, _, rfl, _, rfl, a, CT, dx, _, _, rfl, ho, T.clT, T.tN, treF_n _ _, _, _, rfl, rfl, _, rfl, ?_⟩
    have ea : Km479.act b (.days i) = (b, if b.treaty.n ≤ i then Km479.only (-2) else Km479.only (Km479.n2i (b.count i))) := rfl
    by_cases h1 : b.treaty.n ≤ i
    · refine if_true_of (decide_eq_true (by omega)) ?_
      rw [if_pos h1] at ea
      exact ⟨by show 1 ≤ sizeLine; decide, fun p hp => fo_same k hT ea (Same.refl _) hp rfl⟩
    · refine if_false_of (decide_eq_false (by omega)) ?_
      rw [if_neg h1] at ea
      refine ⟨_, rfl, a, b, rfl, hT.bk, hw, fun H1 r ts L s1 hr1 hlr hrows hR hlen => ⟨_, rfl, r, i, 10000, b.parties, ts, L, rfl, ⟨hlr, hrows⟩, hR.pw, hlen, fun H2 s2 => ?_⟩⟩
      rw [count_rows hR (by omega)]
      exact ⟨by show 1 ≤ sizeLine; decide, fun p hp => fo_same k hT ea (s1.trans s2) hp rfl⟩
theorem scFoMost : FnScope ["treaty", "given", "row"] ["treaty", "given"] (defScope sFoMost) := ⟨rfl, rfl, rfl, by decide +kernel, rfl, by decide +kernel, by decide +kernel⟩
theorem ok_fo_most {f : Addr} {fd : FuncData} (F : Fun K "fo_most" "fo_most" sFoMost f fd) (T : Txt K CD CT) (G : Consts mg) (mlen : mg "len" = none) (D_bound_rows : Def P w K mg base "bound_rows" 8 ["treaty"] (spBoundRows CD CT)) (D_fullest_row : Def P w K mg base "fullest_row" 1 ["rows"] spFullest) :
    FnOk P w K mg base CX0 9 f fd ["treaty", "given"] (spFo K CD CT (c0 .most)) := by
  refine F.ok scFoMost (fun vs H Q E h => ?_) (fun cdv A outer s H vs Q E hr h => ?_)
  · obtain ⟨a, g, l, as, b, xs, c, rfl, _⟩ := h
    rfl
  · obtain ⟨a, g, l, as, b, xs, c, rfl, hT, hw, hg, hc, k⟩ := h
    obtain ⟨rfl, rfl⟩ := c0_some hc
    obtain ⟨hw, _⟩ := hw rfl
    refine ⟨_, pss_cons (ps_if (pt_cmp (pc_eqI (pe_callB call_len_seq (by rfl) mlen PySem.boot_len (pa_cons (pe_fld (pv 0) rfl) pa_nil)) pe_int)) (pss_one (ps_ret (pe_lst (pa_cons (pe_G G.NO_DAY) pa_nil)))) pss_nil)
      (pss_cons (ps_set (i := 2) scFoMost.nd rfl (Or.inl rfl) (pe_D D_fullest_row hr (pa_cons (pe_D D_bound_rows hr (pa_cons (pv 0) pa_nil)) pa_nil)))
      (pss_one (ps_ret (pe_lst (pa_cons (pe_callB call_len_seq (by rfl) mlen PySem.boot_len (pa_cons (pe_ix ix_tup (pv 2) pe_int (fun _ _ => rfl)) pa_nil)) (pa_cons (pe_ix ix_tup (pv 2) pe_int (fun _ _ => rfl)) pa_nil)))))), ?_⟩
    obtain ⟨dx, ho⟩ := hT.obj
    refine ⟨_, rfl, a, CT, dx, _, _, rfl, ho, T.clT, T.tDeeds, treF_deeds _ _, l, _, rfl, .inl (SqL.of hT.lst), _, _, rfl, rfl, _, rfl, ?_⟩
    rw [List.length_map, hT.len]
    have ea : Km479.act b .most = (b, match Km479.first (fun x => (b.parties x).length) b.all with
      | none => Km479.only (-33)
      | some x => ⟨Km479.n2i (b.parties x).length, [x]⟩) := rfl
    by_cases h1 : b.events.length = 0
    · refine if_true_of (decide_eq_true (by rw [h1]; rfl)) ?_
      rw [all_nil (List.length_eq_zero_iff.mp h1)] at ea
      exact ⟨by show 1 ≤ sizeLine; decide, fun p hp => fo_same k hT ea (Same.refl _) hp rfl⟩
    · refine if_false_of (decide_eq_false (by omega)) ?_
      refine ⟨_, rfl, a, b, rfl, hT.bk, hw, fun H1 r ts L s1 hr1 hlr hrows hR hlen => ⟨r, b.parties, ts, L, rfl, ⟨hlr, hrows⟩, fun z => h1 (by rw [rows_nil hR z]; rfl), fun t d hrow hfold => ?_⟩⟩
      obtain ⟨gr, _, ht, hgr⟩ := hrow
      rw [most_rows hR, hfold] at ea
      refine ⟨_, rfl, t, _, _, _, rfl, rfl, SqT.of ht, at_of (j := 1) (v := .ref gr) rfl rfl, gr, _, rfl, .inl (SqL.of hgr), _, rfl, t, _, _, _, rfl, rfl, SqT.of ht, at_of (j := 0) (v := nV d) rfl rfl, by show 2 ≤ sizeLine; decide, fun p hp => fo_same k hT ea s1 hp ?_⟩
      rw [nsV_length]
      rfl
theorem scFoEvent : FnScope ["treaty", "given", "k", "deed"] ["treaty", "given"] (defScope sFoEvent) := ⟨rfl, rfl, rfl, by decide +kernel, rfl, by decide +kernel, by decide +kernel⟩
theorem ok_fo_event {f : Addr} {fd : FuncData} (F : Fun K "fo_event" "fo_event" sFoEvent f fd) (T : Txt K CD CT) (G : Consts mg) (mlen : mg "len" = none) : FnOk P w K mg base CX0 1 f fd ["treaty", "given"] (spFo K CD CT (c1 .event)) := by
  refine F.ok scFoEvent (fun vs H Q E h => ?_) (fun cdv A outer s H vs Q E hr h => ?_)
  · obtain ⟨a, g, l, as, b, xs, c, rfl, _⟩ := h
    rfl
  · obtain ⟨a, g, l, as, b, xs, c, rfl, hT, hw, hg, hc, k⟩ := h
    obtain ⟨i, rfl, rfl⟩ := c1_some hc
    refine ⟨_, pss_cons (ps_set (i := 2) scFoEvent.nd rfl (Or.inl rfl) (pe_ix ix_list (pv 1) pe_int (fun _ _ => rfl)))
      (pss_cons (ps_if (pt_cmp (pc_ge (pv 2) (pe_callB call_len_seq (by rfl) mlen PySem.boot_len (pa_cons (pe_fld (pv 0) rfl) pa_nil)))) (pss_one (ps_ret (pe_lst (pa_cons (pe_G G.NONE_THERE) pa_nil)))) pss_nil)
      (pss_cons (ps_set (i := 3) scFoEvent.nd rfl (Or.inl rfl) (pe_ix ix_list (pe_fld (pv 0) rfl) (pv 2) (fun _ _ => rfl)))
      (pss_one (ps_ret (pe_lst (pa_cons (pe_ifExp (pt_val (pe_fld (pv 3) rfl)) pe_int pe_int) (pa_cons (pe_fld (pv 3) rfl) (pa_cons (pe_fld (pv 3) rfl) pa_nil)))))))), ?_⟩
    obtain ⟨dx, ho⟩ := hT.obj
    refine ⟨_, rfl, g, _, _, _, rfl, rfl, hg, at_of (j := 0) (v := nV i) rfl rfl, _, rfl, _, rfl, a, CT, dx, _, _, rfl, ho, T.clT, T.tDeeds, treF_deeds _ _, l, _, rfl, .inl (SqL.of hT.lst), _, _, rfl, rfl, _, rfl, ?_⟩
    rw [List.length_map, hT.len]
    have ea : Km479.act b (.event i) = (b, match b.events[i]? with
      | none => Km479.only (-2)
      | some e => ⟨if e.ratifies = true then 1 else 0, [e.state, e.day]⟩) := rfl
    by_cases h1 : b.events.length ≤ i
    · refine if_true_of (decide_eq_true (by omega)) ?_
      rw [List.getElem?_eq_none h1] at ea
      exact ⟨by show 1 ≤ sizeLine; decide, fun p hp => fo_same k hT ea (Same.refl _) hp rfl⟩
    · refine if_false_of (decide_eq_false (by omega)) ?_
      obtain ⟨c, hc⟩ : ∃ c, as[i]? = some c := ⟨_, List.getElem?_eq_getElem (by rw [hT.len]; omega)⟩
      obtain ⟨e, he, dc, hD⟩ := hT.at_ i c hc
      rw [he] at ea
      have ea : Km479.act b (.event i) = (b, ⟨if e.ratifies = true then 1 else 0, [e.state, e.day]⟩) := ea
      refine ⟨_, rfl, a, CT, dx, _, _, rfl, ho, T.clT, T.tDeeds, treF_deeds _ _, _, rfl, l, _, _, _, rfl, rfl, SqL.of hT.lst, atI_nat (v := .ref c) (by rw [List.getElem?_map, hc]; rfl), ?_⟩
      refine ⟨_, rfl, c, CD, dc, _, _, rfl, hD, T.clD, T.dR, deedF_rat e, _, rfl, ?_⟩
      cases hr' : e.ratifies with
      | true =>
        refine iteT ?_
        rw [if_pos hr'] at ea
        refine ⟨_, rfl, c, CD, dc, _, _, rfl, hD, T.clD, T.dS, deedF_state e, _, rfl, c, CD, dc, _, _, rfl, hD, T.clD, T.dD, deedF_day e, by show 3 ≤ sizeLine; decide, fun p hp => fo_same k hT ea (Same.refl _) hp rfl⟩
      | false =>
        refine iteF ?_
        rw [if_neg (by rw [hr']; exact Bool.false_ne_true)] at ea
        refine ⟨_, rfl, c, CD, dc, _, _, rfl, hD, T.clD, T.dS, deedF_state e, _, rfl, c, CD, dc, _, _, rfl, hD, T.clD, T.dD, deedF_day e, by show 3 ≤ sizeLine; decide, fun p hp => fo_same k hT ea (Same.refl _) hp rfl⟩
/-- the last deed taken back -/
theorem TrAt.pop {H : Hp} {a l : Addr} {as : List Addr} {b : Book} (h : TrAt CD CT H a l as b) : TrAt CD CT (upd H l (.lst (as.map V.ref).dropLast)) a l as.dropLast { b with events := b.events.dropLast } := by
  obtain ⟨dx, ho⟩ := h.obj
  refine ⟨⟨dx, (upd_ne h.ne).trans ho⟩, ?_, ?_, fun j c hc => ?_⟩
  · rw [upd_same, List.map_dropLast]
  · show as.dropLast.length = b.events.dropLast.length
    rw [List.length_dropLast, List.length_dropLast, h.len]
  · have hj : j < as.length - 1 := by
      have := (List.getElem?_eq_some_iff.mp hc).1
      rw [List.length_dropLast] at this
      exact this
    have hc' : as[j]? = some c := by
      rw [List.getElem?_dropLast, if_pos hj] at hc
      exact hc
    obtain ⟨e, he, dc, hd⟩ := h.at_ j c hc'
    have hcl : c ≠ l := ne_of hd h.lst (by intro z; cases z)
    refine ⟨e, ?_, dc, (upd_ne hcl).trans hd⟩
    show b.events.dropLast[j]? = some e
    rw [List.getElem?_dropLast, if_pos (by rw [← h.len]; exact hj)]
    exact he
theorem scFoBack : FnScope ["treaty", "given"] ["treaty", "given"] (defScope sFoBack) := ⟨rfl, rfl, rfl, by decide +kernel, rfl, by decide +kernel, by decide +kernel⟩
theorem ok_fo_back {f : Addr} {fd : FuncData} (F : Fun K "fo_back" "fo_back" sFoBack f fd) (T : Txt K CD CT) (G : Consts mg) (mlen : mg "len" = none) : FnOk P w K mg base CX0 1 f fd ["treaty", "given"] (spFo K CD CT (c0 .back)) := by
  refine F.ok scFoBack (fun vs H Q E h => ?_) (fun cdv A outer s H vs Q E hr h => ?_)
  · obtain ⟨a, g, l, as, b, xs, c, rfl, _⟩ := h
    rfl
  · obtain ⟨a, g, l, as, b, xs, c, rfl, hT, hw, hg, hc, k⟩ := h
    obtain ⟨rfl, rfl⟩ := c0_some hc
    refine ⟨_, pss_cons (ps_if (pt_cmp (pc_eqI (pe_callB call_len_seq (by rfl) mlen PySem.boot_len (pa_cons (pe_fld (pv 0) rfl) pa_nil)) pe_int)) (pss_one (ps_ret (pe_lst (pa_cons (pe_G G.NONE_THERE) pa_nil)))) pss_nil)
      (pss_cons (ps_expr (pe_bm0 PySem.F.plainAttrs_list PySem.F.slot_list_pop PySem.F.type_list_pop mt_pop (pe_fld (pv 0) rfl)))
      (pss_one (ps_ret (pe_lst (pa_cons (pe_callB call_len_seq (by rfl) mlen PySem.boot_len (pa_cons (pe_fld (pv 0) rfl) pa_nil)) pa_nil))))), ?_⟩
    obtain ⟨dx, ho⟩ := hT.obj
    refine ⟨_, rfl, a, CT, dx, _, _, rfl, ho, T.clT, T.tDeeds, treF_deeds _ _, l, _, rfl, .inl (SqL.of hT.lst), _, _, rfl, rfl, _, rfl, ?_⟩
    rw [List.length_map, hT.len]
    cases hes : b.events with
    | nil =>
      refine if_true_of rfl ?_
      have ea : Km479.act b .back = (b, Km479.only (-2)) := by
        show (match b.events with
          | [] => (b, Km479.only (-2))
          | _ => ({ b with events := b.events.dropLast }, Km479.only (Km479.n2i (b.events.length - 1)))) = _
        rw [hes]
      exact ⟨by show 1 ≤ sizeLine; decide, fun p hp => fo_same k hT ea (Same.refl _) hp rfl⟩
    | cons e0 es =>
      refine if_false_of (decide_eq_false (by rw [List.length_cons]; omega)) ?_
      have ea : Km479.act b .back = ({ b with events := b.events.dropLast }, Km479.only (Km479.n2i (b.events.length - 1))) := by
        show (match b.events with
          | [] => (b, Km479.only (-2))
          | _ => ({ b with events := b.events.dropLast }, Km479.only (Km479.n2i (b.events.length - 1)))) = _
        split
        · rename_i h0
          rw [hes] at h0
          cases h0
        · rfl
      have hlen : as.length = es.length + 1 := by rw [hT.len, hes]; rfl
      obtain ⟨y, hy⟩ : ∃ y, (as.map V.ref)[(as.map V.ref).length - 1]? = some y := ⟨_, List.getElem?_eq_getElem (by rw [List.length_map]; omega)⟩
      refine ⟨_, rfl, a, CT, dx, _, _, rfl, ho, T.clT, T.tDeeds, treF_deeds _ _, .inl ⟨rfl, _, SqL.of hT.lst⟩, l, _, y, rfl, rfl, hT.lst, hy, ?_⟩
      have hT2 := hT.pop
      refine ⟨_, rfl, a, CT, dx, _, _, rfl, (upd_ne hT.ne).trans ho, T.clT, T.tDeeds, treF_deeds _ _, l, _, rfl, .inl (SqL.of upd_same), by show 1 ≤ sizeLine; decide, fun p hp => ?_⟩
      rw [ea] at k
      have s4 := Same.upd (o := .lst [.int (((as.map V.ref).dropLast.length : Nat) : Int)]) (Same.refl (upd H l (.lst (as.map V.ref).dropLast))) hp
      refine k _ p l as.dropLast (hT2.same s4) (.inl rfl) (fun z o e _ hyl => s4 _ _ ((upd_ne hyl).trans e)) ?_ ?_
      · have hpl := hp
        have hpl2 : p ≠ l := by
          intro z
          rw [z, upd_same] at hpl
          cases hpl
        rw [upd_ne hpl2] at hpl
        exact hpl
      · rw [upd_same, List.length_dropLast, List.length_map, hT.len]
        rfl
theorem scFoState : FnScope ["treaty", "given"] ["treaty", "given"] (defScope sFoState) := ⟨rfl, rfl, rfl, by decide +kernel, rfl, by decide +kernel, by decide +kernel⟩
theorem ok_fo_state {f : Addr} {fd : FuncData} (F : Fun K "fo_state" "fo_state" sFoState f fd) (T : Txt K CD CT) (mlen : mg "len" = none) (D_terms_of : Def P w K mg base "terms_of" 1 ["treaty"] (spTermsOf CD CT)) (D_last_day : Def P w K mg base "last_day" 1 ["treaty"] (spLastDay CD CT)) :
    FnOk P w K mg base CX0 2 f fd ["treaty", "given"] (spFo K CD CT (c0 .state)) := by
  refine F.ok scFoState (fun vs H Q E h => ?_) (fun cdv A outer s H vs Q E hr h => ?_)
  · obtain ⟨a, g, l, as, b, xs, c, rfl, _⟩ := h
    rfl
  · obtain ⟨a, g, l, as, b, xs, c, rfl, hT, hw, hg, hc, k⟩ := h
    obtain ⟨rfl, rfl⟩ := c0_some hc
    refine ⟨_, pss_one (ps_ret (pe_op op_cat (pe_op op_cat (pe_lst (pa_cons (pe_callB call_len_seq (by rfl) mlen PySem.boot_len (pa_cons (pe_fld (pv 0) rfl) pa_nil)) pa_nil)) (pe_D D_terms_of hr (pa_cons (pv 0) pa_nil))) (pe_lst (pa_cons (pe_D D_last_day hr (pa_cons (pv 0) pa_nil)) pa_nil)))), ?_⟩
    obtain ⟨dx, ho⟩ := hT.obj
    refine ⟨_, rfl, a, CT, dx, _, _, rfl, ho, T.clT, T.tDeeds, treF_deeds _ _, l, _, rfl, .inl (SqL.of hT.lst), by show 1 ≤ sizeLine; decide, fun p1 hp1 => ?_⟩
    rw [List.length_map, hT.len]
    have s1 : Same H (upd H p1 (.lst [.int (b.events.length : Int)])) := Same.upd (Same.refl _) hp1
    refine ⟨_, rfl, a, b, rfl, hT.bk.same s1, fun p2 hp2 => ?_⟩
    have s2 := Same.upd (o := .lst (nsV (termsL b.treaty))) (Same.refl (upd H p1 (.lst [.int (b.events.length : Int)]))) hp2
    refine ⟨p1, p2, _, _, rfl, rfl, s2 _ _ upd_same, upd_same, by show 7 ≤ sizeLine; decide, fun p3 hp3 => ?_⟩
    have s3 := Same.upd (o := .lst ([.int (b.events.length : Int)] ++ nsV (termsL b.treaty))) (s1.trans s2) hp3
    refine ⟨_, rfl, a, b, rfl, hT.bk.same s3, by show 1 ≤ sizeLine; decide, fun p4 hp4 => ?_⟩
    have s4 := Same.upd (o := .lst [nV b.lastDay]) (Same.refl (upd (upd (upd H p1 (.lst [.int (b.events.length : Int)])) p2 (.lst (nsV (termsL b.treaty)))) p3 (.lst ([.int (b.events.length : Int)] ++ nsV (termsL b.treaty))))) hp4
    refine ⟨p3, p4, _, _, rfl, rfl, s4 _ _ upd_same, upd_same, by show 8 ≤ sizeLine; decide, fun p hp => ?_⟩
    exact fo_same k hT rfl (s3.trans s4) hp rfl
end
end TF
set_option Elab.async false
set_option maxRecDepth 100000
set_option maxHeartbeats 2000000
namespace TF
open PySem PySem.Spec PyProof.Rows L2
open Km479 (Treaty Book)
/-- another treaty, new, in which these have ratified that day -/
def spBesides (K : PySem.W.Frag) (CD CT : Addr) : Sp := fun vs H Q _ => ∃ (a g : Addr) (b : Book) (J : List Nat) (d : Nat), vs = [.ref a, .ref g, nV d] ∧ BkAt CD CT H a b ∧ WF b ∧ SqL K H g (nsV J) ∧ J.length ≤ 10 ∧
  ∀ (H' : Hp) (a' : Addr), Same H H' → BkAt CD CT H' a' (joined b J d) → Q (.ref a') H'
def anyRuns (b : Book) (s d : Nat) : Bool := (List.range b.treaty.n).any fun i => s.testBit i && b.leaving i d
def wouldRef (b : Book) (s d : Nat) : Int := if 2 ^ b.treaty.n ≤ s then -22 else if dayRef b d = 0 then (if anyRuns b s d = true then -16 else 0) else dayRef b d
def spWouldRefusal (CD CT : Addr) : Sp := fun vs H Q _ => ∃ (a : Addr) (b : Book) (s d : Nat), vs = [.ref a, nV s, nV d] ∧ BkAt CD CT H a b ∧ WF b ∧ ∀ H', Same H H' → Q (.int (wouldRef b s d)) H'
def spFewestLacking (CD CT : Addr) : Sp := fun vs H Q _ => ∃ (a : Addr) (b : Book) (d : Nat), vs = [.ref a, nV d] ∧ BkAt CD CT H a b ∧ WF b ∧
  ∀ (H' : Hp) (p : Addr), Same H H' → H p = none → H' p = some (.lst (nsV (fewOf b d))) → Q (.ref p) H'
theorem dayRef_zero {b : Book} {d : Nat} (h : dayRef b d = 0) : ¬ 10000 < d ∧ ¬ d < b.lastDay := by
  unfold dayRef at h
  by_cases h2 : 10000 < d
  · rw [if_pos h2] at h; cases h
  · rw [if_neg h2] at h
    by_cases h3 : d < b.lastDay
    · rw [if_pos h3] at h; cases h
    · exact ⟨h2, h3⟩
theorem dayRef_cases {b : Book} {d : Nat} (h : dayRef b d ≠ 0) : (10000 < d ∧ dayRef b d = -22) ∨ (¬ 10000 < d ∧ d < b.lastDay ∧ dayRef b d = -13) := by
  unfold dayRef at h ⊢
  by_cases h2 : 10000 < d
  · exact .inl ⟨h2, if_pos h2⟩
  · rw [if_neg h2] at h ⊢
    by_cases h3 : d < b.lastDay
    · exact .inr ⟨h2, h3, if_pos h3⟩
    · rw [if_neg h3] at h
      exact absurd rfl h
theorem would_act (b : Book) (s d : Nat) : Km479.act b (.would s d) = (b, if 2 ^ b.treaty.n ≤ s ∨ 10000 < d then Km479.only (-22) else if d < b.lastDay then Km479.only (-13) else if anyRuns b s d = true then Km479.only (-16) else match (b.with_ s d).from_ with
      | none => Km479.only (-33)
      | some f => Km479.only (Km479.n2i f)) := rfl
theorem would_no {b : Book} {s d : Nat} (h : wouldRef b s d ≠ 0) : Km479.act b (.would s d) = (b, Km479.only (wouldRef b s d)) := by
  rw [would_act]
  unfold wouldRef at h ⊢
  by_cases h1 : 2 ^ b.treaty.n ≤ s
  · rw [if_pos h1, if_pos (.inl h1)]
  · rw [if_neg h1] at h ⊢
    by_cases h0 : dayRef b d = 0
    · obtain ⟨z1, z2⟩ := dayRef_zero h0
      rw [if_pos h0] at h ⊢
      rw [if_neg (by rintro (z | z); exact h1 z; exact z1 z), if_neg z2]
      by_cases ha : anyRuns b s d = true
      · rw [if_pos ha, if_pos ha]
      · rw [if_neg ha] at h
        exact absurd rfl h
    · rw [if_neg h0]
      rcases dayRef_cases h0 with ⟨z, e⟩ | ⟨z1, z2, e⟩
      · rw [if_pos (.inr z), e]
      · rw [if_neg (by rintro (z | z); exact h1 z; exact z1 z), if_pos z2, e]
theorem would_yes {b : Book} {s d : Nat} (h : wouldRef b s d = 0) : (d ≤ 10000 ∧ b.lastDay ≤ d) ∧ Km479.act b (.would s d) = (b, Km479.only (dayI (b.with_ s d))) := by
  rw [would_act]
  unfold wouldRef at h
  by_cases h1 : 2 ^ b.treaty.n ≤ s
  · rw [if_pos h1] at h; cases h
  · rw [if_neg h1] at h
    by_cases h0 : dayRef b d = 0
    · obtain ⟨z1, z2⟩ := dayRef_zero h0
      rw [if_pos h0] at h
      refine ⟨⟨by omega, by omega⟩, ?_⟩
      rw [if_neg (by rintro (z | z); exact h1 z; exact z1 z), if_neg z2]
      by_cases ha : anyRuns b s d = true
      · rw [if_pos ha] at h; cases h
      · rw [if_neg ha]
        unfold dayI
        cases (b.with_ s d).from_ <;> rfl
    · rw [if_neg h0] at h
      exact absurd h h0
theorem fewest_act (b : Book) (d : Nat) : Km479.act b (.fewest d) = (b, if 10000 < d then Km479.only (-22) else if d < b.lastDay then Km479.only (-13) else if b.from_ ≠ none then Km479.only (-17) else match b.fewest d with
      | none => Km479.only (-33)
      | some s => ⟨Km479.n2i (Km479.size b.treaty.n s), [s]⟩) := rfl
theorem mem_set {b : Book} {i d : Nat} (hi : i < b.treaty.n) : decide (i ∈ b.set d) = b.ratified i d := by
  rw [Bool.eq_iff_iff, decide_eq_true_eq]
  unfold Book.set
  rw [List.mem_filter, List.mem_range]
  exact ⟨fun h => h.2, fun h => ⟨hi, h⟩⟩
theorem filter_snoc {l : List Nat} {j n : Nat} (p : Nat → Bool) (h : l[j]? = some n) : (l.take (j + 1)).filter p = (l.take j).filter p ++ if p n = true then [n] else [] := by
  rw [take_snoc h, List.filter_append, List.filter_cons, List.filter_nil]
theorem few_len {l : List Nat} (p : Nat → Bool) (h : l.length ≤ 900) (j : Nat) : (nsV ((l.take j).filter p)).length < sizeLine := by
  rw [nsV_length]
  have h1 := List.length_filter_le p (l.take j)
  rw [List.length_take] at h1
  exact small1000 (by omega)
section
variable {P : Program} {w : World} {K : PySem.W.Frag} {mg : Str → Option Value} {base : Heap} {CD CT : Addr}
theorem scRatifiedBesides : FnScope ["treaty", "states", "d", "other", "i"] ["treaty", "states", "d"] (defScope sRatifiedBesides) := ⟨rfl, rfl, rfl, by decide +kernel, rfl, by decide +kernel, by decide +kernel⟩
theorem ok_ratified_besides {f : Addr} {fd : FuncData} (F : Fun K "ratified_besides" "ratified_besides" sRatifiedBesides f fd) (T : Txt K CD CT)
    (M_Treaty : Make P w K mg base "Treaty" CT 1 ["self"] (spTreatyInit CD CT)) (M_Deed : Make P w K mg base "Deed" CD 1 ["self", "state", "day", "ratified"] (spDeedInit CD))
    (D_set_terms : Def P w K mg base "set_terms" 1 ["treaty", "terms"] (spSetTerms K CT)) (D_terms_of : Def P w K mg base "terms_of" 1 ["treaty"] (spTermsOf CD CT)) :
    FnOk P w K mg base CX0 3 f fd ["treaty", "states", "d"] (spBesides K CD CT) := by
  refine F.ok scRatifiedBesides (fun vs H Q E h => ?_) (fun cdv A outer s H vs Q E hr h => ?_)
  · obtain ⟨a, g, b, J, d, rfl, _⟩ := h
    rfl
  · obtain ⟨a, g, b, J, d, rfl, hB, hw, hg, hJ, k⟩ := h
    refine ⟨_, pss_cons (ps_set (i := 3) scRatifiedBesides.nd rfl (Or.inl rfl) (pe_M0 M_Treaty hr))
      (pss_cons (ps_expr (pe_D D_set_terms hr (pa_cons (pv 3) (pa_cons (pe_D D_terms_of hr (pa_cons (pv 0) pa_nil)) pa_nil))))
      (pss_cons (ps_fld (pv 3) (pe_op op_cat (pe_fld (pv 0) rfl) (pe_lc (own := [("i", 4)]) (g := gName 4)  rfl scRatifiedBesides.nd (pi_list (pv 1)) (blkOk_by (own := [("i", 4)]) (N := ["treaty", "states", "d", "other", "i"]) (sc := defScope sRatifiedBesides) (by decide +kernel)) (fun _ _ _ _ _ => pg_name (i := 4) scRatifiedBesides.nd rfl (Or.inl rfl)) (fun _ _ _ _ _ => pts_nil) (fun _ _ _ _ _ => (pe_M M_Deed hr (pa_cons (pv 4) (pa_cons (pv 2) (pa_cons pe_bl pa_nil))))))) rfl)
      (pss_one (ps_ret (pv 3))))), ?_⟩
    -- other = Treaty()
    intro x dx nx ndx ne
    refine ⟨x, dx, rfl, upd_same, fun H1 l0 hT1 nl0 kp1 => ⟨rfl, ?_⟩⟩
    have s1 : Same H H1 := Same.made nx ndx kp1
    obtain ⟨dx', hx1⟩ := hT1.obj
    -- set_terms(other, terms_of(treaty))
    refine ⟨_, rfl, _, rfl, a, b, rfl, hB.same s1, fun p hp => ?_⟩
    have s1p := Same.upd (o := .lst (nsV (termsL b.treaty))) s1 hp
    refine ⟨x, p, dx', l0, _, b.treaty, rfl, (upd_ne (ne_of_none hx1 hp)).trans hx1, SqL.of upd_same, fun H2 hx2 kp2 => ?_⟩
    have s2 : Same H H2 := fun y o e => (kp2 y (ne_of_none e nx)).trans (s1p y o e)
    obtain ⟨l, as, hTr⟩ := hB.same s2
    obtain ⟨da, ho⟩ := hTr.obj
    refine ⟨_, rfl, a, CT, da, _, _, rfl, ho, T.clT, T.tDeeds, treF_deeds _ _, _, rfl, g, rfl, ⟨_, s2.seq hg⟩, fun D hD => ?_⟩
    refine lc_list (K := K) (a := g) (xs := nsV J) (fun j H' => Same H2 H' ∧ ∃ cs : List Addr, H' D = some (.lst (cs.map V.ref)) ∧ cs.length = min j J.length ∧ ∀ (i : Nat) (c : Addr), cs[i]? = some c → ∃ n, J[i]? = some n ∧ DeedAt CD H' c ⟨n, d, true⟩)
      ⟨Same.over hD (Same.refl _), [], upd_same, by simp, fun i c hc => by simp at hc⟩ (fun j H' _ h => (s2.trans h.1).seq hg) ?_ ?_
    · rintro j y H' hj ⟨hs, cs, hlD, hcl, hcs⟩
      obtain ⟨n, hn, rfl⟩ := nsV_get hj
      have hjl : j < J.length := (List.getElem?_eq_some_iff.mp hn).1
      refine ⟨rfl, ?_⟩
      unfold tYes
      refine iteT ?_
      refine ⟨_, rfl, _, rfl, ?_⟩
      intro y dy hy hdy hney
      refine ⟨y, dy, n, d, true, rfl, upd_same, fun H5 hDy kp5 => ⟨rfl, ?_⟩⟩
      have s5 : Same H' H5 := Same.made hy hdy kp5
      refine ⟨_, s5 _ _ hlD, ?_, Same.over hD (hs.trans s5), cs ++ [y], ?_, ?_, fun i c hc => ?_⟩
      · rw [List.length_map, hcl]
        exact small1000 (by omega)
      · rw [upd_same, List.map_append]
        rfl
      · rw [List.length_append, hcl]
        show min j J.length + 1 = _
        omega
      · have dn : ∀ c e', DeedAt CD H5 c e' → DeedAt CD (upd H5 D (.lst (cs.map V.ref ++ [.ref y]))) c e' := fun c e' ⟨dc, hc⟩ => ⟨dc, (upd_ne (ne_of hc (s5 _ _ hlD) (by intro z; cases z))).trans hc⟩
        by_cases hi : i < cs.length
        · rw [List.getElem?_append_left hi] at hc
          obtain ⟨n', hn', hd'⟩ := hcs i c hc
          exact ⟨n', hn', dn c _ (hd'.same s5)⟩
        · rw [List.getElem?_append_right (by omega)] at hc
          have hi0 : i - cs.length = 0 := by
            rcases Nat.eq_zero_or_pos (i - cs.length) with z | z
            · exact z
            · rw [List.getElem?_eq_none (by simp; omega)] at hc; cases hc
          rw [hi0] at hc
          have ec : c = y := by simpa using hc.symm
          subst ec
          have ei : i = j := by omega
          subst ei
          exact ⟨n, hn, dn c _ hDy⟩
    rintro H3 ⟨s3, cs, hlD, hcl, hcs⟩
    rw [nsV_length, Nat.min_self] at hcl
    have hT3 := hTr.same s3
    refine ⟨l, D, _, _, rfl, rfl, hT3.lst, hlD, ?_, fun p5 hp5 => ?_⟩
    · rw [List.length_map, List.length_map, hT3.len, hcl]
      have := hw.len
      exact Nat.le_of_lt (small1000 (by omega))
    have s4 : Same H3 (upd H3 p5 (.lst (as.map V.ref ++ cs.map V.ref))) := Same.upd (Same.refl _) hp5
    have hx3 := s3 _ _ hx2
    refine ⟨_, rfl, x, CT, dx', _, rfl, s4 _ _ hx3, T.clT, T.tDeeds, (by show 7 < 1000; decide), ?_⟩
    rw [put_deeds]
    have hpx : p5 ≠ x := Ne.symm (ne_of_none hx3 hp5)
    have dn : ∀ c e', DeedAt CD H3 c e' → DeedAt CD (upd (upd H3 p5 (.lst (as.map V.ref ++ cs.map V.ref))) x (.ins CT dx' (treF b.treaty p5))) c e' := fun c e' ⟨dc, hc⟩ => by
      have hcx : c ≠ x := by
        intro z
        rw [z, hx3] at hc
        have hc := HO.ins.inj (Option.some.inj hc)
        have h7 := congrArg List.length hc.2.2
        exact absurd h7 (by show ¬ (7 = 3); decide)
      exact ⟨dc, (upd_ne hcx).trans (s4 _ _ hc)⟩
    refine ⟨_, rfl, k _ x (fun y o e => (upd_ne (ne_of_none e nx)).trans (s4 _ _ (s3 _ _ (s2 _ _ e)))) ⟨p5, as ++ cs, ⟨dx', upd_same⟩, ?_, ?_, fun j c hc => ?_⟩⟩
    · rw [upd_ne hpx, upd_same, List.map_append]
    · show (as ++ cs).length = (b.events ++ _).length
      rw [List.length_append, List.length_append, List.length_map, hT3.len, hcl]
    · show ∃ e, (b.events ++ J.map fun i => (⟨i, d, true⟩ : Ev))[j]? = some e ∧ _
      by_cases hj : j < as.length
      · rw [List.getElem?_append_left hj] at hc
        obtain ⟨e, he, hd⟩ := hT3.at_ j c hc
        exact ⟨e, by rw [List.getElem?_append_left (by rw [← hT3.len]; exact hj)]; exact he, dn c e hd⟩
      · rw [List.getElem?_append_right (by omega)] at hc
        obtain ⟨n, hn, hd⟩ := hcs _ c hc
        refine ⟨⟨n, d, true⟩, ?_, dn c _ hd⟩
        rw [List.getElem?_append_right (by rw [← hT3.len]; omega), ← hT3.len, List.getElem?_map, hn]
        rfl
theorem scWouldRefusal : FnScope ["treaty", "s", "d", "refusal", "i"] ["treaty", "s", "d"] (defScope sWouldRefusal) := ⟨rfl, rfl, rfl, by decide +kernel, rfl, by decide +kernel, by decide +kernel⟩
theorem ok_would_refusal {f : Addr} {fd : FuncData} (F : Fun K "would_refusal" "would_refusal" sWouldRefusal f fd) (T : Txt K CD CT) (G : Consts mg) (mrange : mg "range" = none) (many : mg "any" = none)
    (D_day_refusal : Def P w K mg base "day_refusal" 2 ["treaty", "d"] (spDayRefusal CD CT)) (D_is_in_set : Def P w K mg base "is_in_set" 1 ["number", "i"] spIsInSet) (D_is_on_notice : Def P w K mg base "is_on_notice" 3 ["treaty", "i", "d"] (spIsOnNotice CD CT)) :
    FnOk P w K mg base CX0 4 f fd ["treaty", "s", "d"] (spWouldRefusal CD CT) := by
  refine F.ok scWouldRefusal (fun vs H Q E h => ?_) (fun cdv A outer s H vs Q E hr h => ?_)
  · obtain ⟨a, b, z, d, rfl, _⟩ := h
    rfl
  · obtain ⟨a, b, z, d, rfl, hB, hw, k⟩ := h
    refine ⟨_, pss_cons (ps_if (pt_cmp (pc_ge (pv 1) (pe_op op_shl pe_int (pe_fld (pv 0) rfl)))) (pss_one (ps_ret (pe_G G.NOT_AS_TOLD))) pss_nil)
      (pss_cons (ps_set (i := 3) scWouldRefusal.nd rfl (Or.inl rfl) (pe_D D_day_refusal hr (pa_cons (pv 0) (pa_cons (pv 2) pa_nil))))
      (pss_cons (ps_if (pt_cmp (pc_neI (pv 3) (pe_G G.NO_REFUSAL))) (pss_one (ps_ret (pv 3))) pss_nil)
      (pss_cons (ps_if (pt_val (pe_callB (cr_any rfl) (by rfl) many (by decide +kernel) (pa_cons (pe_lc (own := [("i", 4)]) (g := gName 4)  rfl scWouldRefusal.nd (pi_range1 rfl mrange (pa_cons (pe_fld (pv 0) rfl) pa_nil)) (blkOk_by (own := [("i", 4)]) (N := ["treaty", "s", "d", "refusal", "i"]) (sc := defScope sWouldRefusal) (by decide +kernel)) (fun _ _ _ _ _ => pg_name (i := 4) scWouldRefusal.nd rfl (Or.inl rfl)) (fun _ _ _ _ _ => pts_nil) (fun _ _ _ _ _ => (pe_and (pe_D D_is_in_set hr (pa_cons (pv 1) (pa_cons (pv 4) pa_nil))) (pe_one (pe_D D_is_on_notice hr (pa_cons (pv 0) (pa_cons (pv 4) (pa_cons (pv 2) pa_nil)))))))) pa_nil))) (pss_one (ps_ret (pe_G G.NOTICE_RUNS))) pss_nil)
      (pss_one (ps_ret (pe_G G.NO_REFUSAL)))))), ?_⟩
    obtain ⟨l, as, hTr⟩ := id hB
    obtain ⟨dx, ho⟩ := hTr.obj
    have hn10 := hw.n10
    refine ⟨_, rfl, _, rfl, a, CT, dx, _, _, rfl, ho, T.clT, T.tN, treF_n _ _, _, _, rfl, rfl, ⟨by omega, by omega, by decide⟩, _, _, rfl, rfl, _, rfl, ?_⟩
    rw [shl_nat]
    unfold wouldRef at k
    by_cases h1 : 2 ^ b.treaty.n ≤ z
    · refine if_true_of (decide_eq_true (by omega)) ?_
      have k := k H (Same.refl _)
      rw [if_pos h1] at k
      exact k
    refine if_false_of (decide_eq_false (by omega)) ?_
    rw [if_neg h1] at k
    refine ⟨_, rfl, _, rfl, a, b, d, rfl, hB, _, rfl, _, _, rfl, rfl, _, rfl, ?_⟩
    by_cases h0 : dayRef b d = 0
    · refine if_false_of (by dsimp only; rw [decide_eq_true h0]; rfl) ?_
      rw [if_pos h0] at k
      refine ⟨_, rfl, a, CT, dx, _, _, rfl, ho, T.clT, T.tN, treF_n _ _, _, rfl, by omega, by omega, fun D hD => ?_⟩
      refine lc_range (lo := 0) (n := b.treaty.n) (fun j H' => Same H H' ∧ H' D = some (.lst (((List.range j).map fun i => z.testBit i && b.leaving i d).map V.bl))) ⟨Same.over hD (Same.refl _), upd_same⟩ ?_ ?_
      · rintro j H' hj ⟨hs, hlD⟩
        rw [Int.zero_add]
        have hlen : (((List.range j).map fun i => z.testBit i && b.leaving i d).map V.bl).length < sizeLine := by
          rw [List.length_map, List.length_map, List.length_range]
          exact small1000 (by omega)
        have e1 : ((List.range (j + 1)).map fun i => z.testBit i && b.leaving i d).map V.bl = ((List.range j).map fun i => z.testBit i && b.leaving i d).map V.bl ++ [V.bl (z.testBit j && b.leaving j d)] := by
          rw [List.range_succ, List.map_append, List.map_append]
          rfl
        refine ⟨rfl, ?_⟩
        unfold tYes
        refine iteT ?_
        refine ⟨_, rfl, _, rfl, z, j, rfl, _, rfl, ?_⟩
        cases hb : z.testBit j with
        | true =>
          rw [hb, Bool.true_and] at e1
          refine iteT ?_
          refine ⟨_, rfl, _, rfl, _, rfl, a, b, j, d, rfl, hB.same hs, hw, hj, fun H2 s2 => ⟨_, s2 _ _ hlD, hlen, Same.over hD (hs.trans s2), ?_⟩⟩
          rw [e1]
          exact upd_same
        | false =>
          rw [hb, Bool.false_and] at e1
          refine iteF ?_
          refine ⟨_, hlD, hlen, Same.over hD hs, ?_⟩
          rw [e1]
          exact upd_same
      rintro H1 ⟨s1, hlD⟩
      refine ⟨D, _, rfl, SqL.of hlD, _, rfl, ?_⟩
      have ea : ((List.range b.treaty.n).map fun i => z.testBit i && b.leaving i d).any id = anyRuns b z d := by
        rw [List.any_map]
        rfl
      have k := k H1 s1
      cases hy : anyRuns b z d with
      | true =>
        refine if_true_of (ea.trans hy) ?_
        rw [if_pos hy] at k
        exact k
      | false =>
        refine if_false_of (ea.trans hy) ?_
        rw [if_neg (by rw [hy]; exact Bool.false_ne_true)] at k
        exact k
    · refine if_true_of (by dsimp only; rw [decide_eq_false h0]; rfl) ?_
      have k := k H (Same.refl _)
      rw [if_neg h0] at k
      exact ⟨_, rfl, k⟩
theorem scFoWould : FnScope ["treaty", "given", "s", "d", "refusal", "have", "joining", "i"] ["treaty", "given"] (defScope sFoWould) := ⟨rfl, rfl, rfl, by decide +kernel, rfl, by decide +kernel, by decide +kernel⟩
theorem ok_fo_would {f : Addr} {fd : FuncData} (F : Fun K "fo_would" "fo_would" sFoWould f fd) (T : Txt K CD CT) (G : Consts mg) (mrange : mg "range" = none)
    (D_would_refusal : Def P w K mg base "would_refusal" 4 ["treaty", "s", "d"] (spWouldRefusal CD CT)) (D_ratified_states : Def P w K mg base "ratified_states" 3 ["treaty", "d"] (spRatifiedStates CD CT)) (D_is_in_set : Def P w K mg base "is_in_set" 1 ["number", "i"] spIsInSet)
    (D_fo_day : Def P w K mg base "fo_day" 7 ["treaty", "given"] (spDay CD CT)) (D_ratified_besides : Def P w K mg base "ratified_besides" 3 ["treaty", "states", "d"] (spBesides K CD CT)) :
    FnOk P w K mg base CX0 8 f fd ["treaty", "given"] (spFo K CD CT (c2 .would)) := by
  refine F.ok scFoWould (fun vs H Q E h => ?_) (fun cdv A outer s H vs Q E hr h => ?_)
  · obtain ⟨a, g, l, as, b, xs, c, rfl, _⟩ := h
    rfl
  · obtain ⟨a, g, l, as, b, xs, c, rfl, hT, hw, hg, hc, k⟩ := h
    obtain ⟨z, d, rfl, rfl⟩ := c2_some hc
    have hw4 := hw rfl
    obtain ⟨hw, _⟩ := hw rfl
    have hn10 := hw.n10
    refine ⟨_, pss_cons (ps_set (i := 2) scFoWould.nd rfl (Or.inr rfl) (pe_ix ix_list (pv 1) pe_int (fun _ _ => rfl)))
      (pss_cons (ps_set (i := 3) scFoWould.nd rfl (Or.inl rfl) (pe_ix ix_list (pv 1) pe_int (fun _ _ => rfl)))
      (pss_cons (ps_set (i := 4) scFoWould.nd rfl (Or.inl rfl) (pe_D D_would_refusal hr (pa_cons (pv 0) (pa_cons (pv 2) (pa_cons (pv 3) pa_nil)))))
      (pss_cons (ps_if (pt_cmp (pc_neI (pv 4) (pe_G G.NO_REFUSAL))) (pss_one (ps_ret (pe_lst (pa_cons (pv 4) pa_nil)))) pss_nil)
      (pss_cons (ps_set (i := 5) scFoWould.nd rfl (Or.inr rfl) (pe_D D_ratified_states hr (pa_cons (pv 0) (pa_cons (pv 3) pa_nil))))
      (pss_cons (ps_setLc (i := 6) (own := [("i", 7)]) (g := gName 7) (tt := tAnd (tB (tCall spIsInSet [] E0 (tCons (tVar 2) (tCons (tVar 7) tNil)))) (tTest (tOp (rIn K true) (tVar 7) (tVar 5)))) rfl scFoWould.nd rfl rfl (sw_true rfl rfl rfl (by decide +kernel)) (pi_range1 rfl mrange (pa_cons (pe_fld (pv 0) rfl) pa_nil)) (blkOk_by (own := [("i", 7)]) (N := ["treaty", "given", "s", "d", "refusal", "have", "joining", "i"]) (sc := defScope sFoWould) (by decide +kernel)) (fun _ _ _ _ _ => pg_name (i := 7) scFoWould.nd rfl (Or.inl rfl)) (fun _ _ _ _ _ => (pts_one (PW.pt (pw_and (pt_val (pe_D D_is_in_set hr (pa_cons (pv 2) (pa_cons (pv 7) pa_nil)))) (pw_and1 (pt_cmpR op_notIn_seq (pv 7) (pv 5) rfl)))))) (fun _ _ _ _ _ => (pv 7)))
      (pss_one (ps_ret (pe_D D_fo_day hr (pa_cons (pe_D D_ratified_besides hr (pa_cons (pv 0) (pa_cons (pv 6) (pa_cons (pv 3) pa_nil)))) (pa_cons (pe_lst pa_nil) pa_nil)))))))))), ?_⟩
    obtain ⟨dx, ho⟩ := hT.obj
    refine ⟨_, rfl, g, _, _, _, rfl, rfl, hg, at_of (j := 0) (v := nV z) rfl rfl, _, rfl, g, _, _, _, rfl, rfl, hg, at_of (j := 1) (v := nV d) rfl rfl, ?_⟩
    refine ⟨_, rfl, _, rfl, _, rfl, a, b, z, d, rfl, hT.bk, hw, fun H1 s1 => ⟨_, rfl, _, _, rfl, rfl, _, rfl, ?_⟩⟩
    by_cases h0 : wouldRef b z d = 0
    · refine if_false_of (by dsimp only; rw [decide_eq_true h0]; rfl) ?_
      obtain ⟨⟨hd, hlast⟩, ea⟩ := would_yes h0
      refine ⟨_, rfl, _, rfl, a, b, d, rfl, hT.bk.same s1, hw, fun H2 p2 s2 hp2 hl2 => ?_⟩
      have s12 := s1.trans s2
      refine ⟨_, rfl, a, CT, dx, _, _, rfl, s12 _ _ ho, T.clT, T.tN, treF_n _ _, _, rfl, by omega, by omega, fun D hD => ?_⟩
      refine lc_range (lo := 0) (n := b.treaty.n) (fun j H' => Same H2 H' ∧ H' D = some (.lst (nsV ((List.range j).filter fun i => z.testBit i && !b.ratified i d)))) ⟨Same.over hD (Same.refl _), upd_same⟩ ?_ ?_
      · rintro j H' hj ⟨hs, hlD⟩
        rw [Int.zero_add, range_filter_succ]
        have hlen : (nsV ((List.range j).filter fun i => z.testBit i && !b.ratified i d)).length < sizeLine := by
          rw [nsV_length]
          have h1 := List.length_filter_le (fun i => z.testBit i && !b.ratified i d) (List.range j)
          rw [List.length_range] at h1
          exact small1000 (by omega)
        refine ⟨rfl, _, rfl, _, rfl, z, j, rfl, _, rfl, ?_⟩
        cases hb : z.testBit j with
        | true =>
          refine iteT ?_
          refine ⟨_, rfl, _, rfl, p2, _, rfl, .inl (SqL.of (hs _ _ hl2)), rfl, nsV_flat _, _, rfl, ?_⟩
          have e1 : (if true = true then !inV (nV j) (nsV (b.set d)) else inV (nV j) (nsV (b.set d))) = !b.ratified j d := by
            rw [if_pos rfl, inV_ns, mem_set hj]
          cases hrt : b.ratified j d with
          | true =>
            refine if_false_of (e1.trans (by rw [hrt]; rfl)) ?_
            refine ⟨hs, ?_⟩
            rw [Bool.true_and, if_neg (by intro q; cases q), List.append_nil]
            exact hlD
          | false =>
            refine if_true_of (e1.trans (by rw [hrt]; rfl)) ?_
            refine ⟨_, rfl, _, hlD, hlen, Same.over hD hs, ?_⟩
            rw [Bool.true_and, if_pos (show (!false) = true from rfl), nsV_snoc]
            exact upd_same
        | false =>
          refine iteF ?_
          refine if_false_of rfl ?_
          refine ⟨hs, ?_⟩
          rw [Bool.false_and, if_neg Bool.false_ne_true, List.append_nil]
          exact hlD
      rintro H3 ⟨s3, hl3⟩
      have s13 := s12.trans s3
      have hJn : ∀ i ∈ (List.range b.treaty.n).filter (fun i => z.testBit i && !b.ratified i d), i < b.treaty.n := fun i hi => List.mem_range.mp (List.mem_filter.mp hi).1
      have hJl : ((List.range b.treaty.n).filter fun i => z.testBit i && !b.ratified i d).length ≤ 10 := by
        have h1 := List.length_filter_le (fun i => z.testBit i && !b.ratified i d) (List.range b.treaty.n)
        rw [List.length_range] at h1
        omega
      refine ⟨_, rfl, _, rfl, _, rfl, a, D, b, _, d, rfl, hT.bk.same s13, hw, SqL.of hl3, hJl, fun H4 a' s4 hB4 => ⟨Nat.zero_le _, fun p5 hp5 => ?_⟩⟩
      have s5 : Same H4 (upd H4 p5 (.lst [])) := Same.upd (Same.refl _) hp5
      refine ⟨a', p5, _, rfl, hB4.same s5, wf_joined hw4 hJn hJl hd hlast, fun H6 p s6 hp => ?_⟩
      rw [with_joined] at ea
      exact fo_same k hT ea (s13.trans (s4.trans (s5.trans s6))) hp rfl
    · refine if_true_of (by dsimp only; rw [decide_eq_false h0]; rfl) ?_
      refine ⟨_, rfl, by show 1 ≤ sizeLine; decide, fun p hp => ?_⟩
      exact fo_same k hT (would_no h0) s1 hp rfl
theorem scFewestLacking : FnScope ["treaty", "d", "have", "lacking", "named", "others", "more", "i"] ["treaty", "d"] (defScope sFewestLacking) := ⟨rfl, rfl, rfl, by decide +kernel, rfl, by decide +kernel, by decide +kernel⟩
theorem ok_fewest_lacking {f : Addr} {fd : FuncData} (F : Fun K "fewest_lacking" "fewest_lacking" sFewestLacking f fd) (T : Txt K CD CT) (mlen : mg "len" = none) (mrange : mg "range" = none) (mmax : mg "max" = none)
    (D_ratified_states : Def P w K mg base "ratified_states" 3 ["treaty", "d"] (spRatifiedStates CD CT)) (D_is_in_set : Def P w K mg base "is_in_set" 1 ["number", "i"] spIsInSet) :
    FnOk P w K mg base CX0 4 f fd ["treaty", "d"] (spFewestLacking CD CT) := by
  refine F.ok scFewestLacking (fun vs H Q E h => ?_) (fun cdv A outer s H vs Q E hr h => ?_)
  · obtain ⟨a, b, d, rfl, _⟩ := h
    rfl
  · obtain ⟨a, b, d, rfl, hB, hw, k⟩ := h
    have hn10 := hw.n10
    refine ⟨_, pss_cons (ps_set (i := 2) scFewestLacking.nd rfl (Or.inr rfl) (pe_D D_ratified_states hr (pa_cons (pv 0) (pa_cons (pv 1) pa_nil))))
      (pss_cons (ps_setLc (i := 3) (own := [("i", 7)]) (g := gName 7) (tt := tTest (tOp (rIn K true) (tVar 7) (tVar 2))) rfl scFewestLacking.nd rfl rfl (sw_true rfl rfl rfl (by decide +kernel)) (pi_range1 rfl mrange (pa_cons (pe_fld (pv 0) rfl) pa_nil)) (blkOk_by (own := [("i", 7)]) (N := ["treaty", "d", "have", "lacking", "named", "others", "more", "i"]) (sc := defScope sFewestLacking) (by decide +kernel)) (fun _ _ _ _ _ => pg_name (i := 7) scFewestLacking.nd rfl (Or.inl rfl)) (fun _ _ _ _ _ => (pts_one (pt_cmpR op_notIn_seq (pv 7) (pv 2) rfl))) (fun _ _ _ _ _ => (pv 7)))
      (pss_cons (ps_setLc (i := 4) (own := [("i", 7)]) (g := gName 7) (tt := tB (tCall spIsInSet [] E0 (tCons (tFld K (tVar 0) "named") (tCons (tVar 7) tNil)))) rfl scFewestLacking.nd rfl rfl (sw_true rfl rfl rfl (by decide +kernel)) (pi_list (pv 3)) (blkOk_by (own := [("i", 7)]) (N := ["treaty", "d", "have", "lacking", "named", "others", "more", "i"]) (sc := defScope sFewestLacking) (by decide +kernel)) (fun _ _ _ _ _ => pg_name (i := 7) scFewestLacking.nd rfl (Or.inl rfl)) (fun _ _ _ _ _ => (pts_one (pt_val (pe_D D_is_in_set hr (pa_cons (pe_fld (pv 0) rfl) (pa_cons (pv 7) pa_nil)))))) (fun _ _ _ _ _ => (pv 7)))
      (pss_cons (ps_setLc (i := 5) (own := [("i", 7)]) (g := gName 7) (tt := tNot (tB (tCall spIsInSet [] E0 (tCons (tFld K (tVar 0) "named") (tCons (tVar 7) tNil))))) rfl scFewestLacking.nd rfl rfl (sw_true rfl rfl rfl (by decide +kernel)) (pi_list (pv 3)) (blkOk_by (own := [("i", 7)]) (N := ["treaty", "d", "have", "lacking", "named", "others", "more", "i"]) (sc := defScope sFewestLacking) (by decide +kernel)) (fun _ _ _ _ _ => pg_name (i := 7) scFewestLacking.nd rfl (Or.inl rfl)) (fun _ _ _ _ _ => (pts_one (pt_not (pt_val (pe_D D_is_in_set hr (pa_cons (pe_fld (pv 0) rfl) (pa_cons (pv 7) pa_nil))))))) (fun _ _ _ _ _ => (pv 7)))
      (pss_cons (ps_set (i := 6) scFewestLacking.nd rfl (Or.inl rfl) (pe_callB (call_max2 rfl) (by rfl) mmax (by decide +kernel) (pa_cons pe_int (pa_cons (pe_op op_sub (pe_op op_sub (pe_fld (pv 0) rfl) (pe_callB call_len_seq (by rfl) mlen PySem.boot_len (pa_cons (pv 2) pa_nil))) (pe_callB call_len_seq (by rfl) mlen PySem.boot_len (pa_cons (pv 4) pa_nil))) pa_nil))))
      (pss_one (ps_ret (pe_op op_cat (pv 4) (pe_slice sl_list (pv 5) po_none (po_some (pv 6)))))))))), ?_⟩
    refine ⟨_, rfl, _, rfl, a, b, d, rfl, hB, hw, fun H1 p1 s1 hp1 hl1 => ?_⟩
    obtain ⟨l, as, hTr⟩ := id hB
    obtain ⟨dx, ho⟩ := hTr.obj
    -- lacking
    refine ⟨_, rfl, a, CT, dx, _, _, rfl, s1 _ _ ho, T.clT, T.tN, treF_n _ _, _, rfl, by omega, by omega, fun D1 hD1 => ?_⟩
    refine lc_range (lo := 0) (n := b.treaty.n) (fun j H' => Same H1 H' ∧ H' D1 = some (.lst (nsV ((List.range j).filter fun i => !b.ratified i d)))) ⟨Same.over hD1 (Same.refl _), upd_same⟩ ?_ ?_
    · rintro j H' hj ⟨hs, hlD⟩
      rw [Int.zero_add, range_filter_succ]
      have hlen : (nsV ((List.range j).filter fun i => !b.ratified i d)).length < sizeLine := by
        rw [nsV_length]
        have h1 := List.length_filter_le (fun i => !b.ratified i d) (List.range j)
        rw [List.length_range] at h1
        exact small1000 (by omega)
      refine ⟨rfl, _, rfl, _, rfl, p1, _, rfl, .inl (SqL.of (hs _ _ hl1)), rfl, nsV_flat _, _, rfl, ?_⟩
      have e1 : (if true = true then !inV (nV j) (nsV (b.set d)) else inV (nV j) (nsV (b.set d))) = !b.ratified j d := by
        rw [if_pos rfl, inV_ns, mem_set hj]
      cases hrt : b.ratified j d with
      | true =>
        refine if_false_of (e1.trans (by rw [hrt]; rfl)) ?_
        refine ⟨hs, ?_⟩
        rw [if_neg (by intro q; cases q), List.append_nil]
        exact hlD
      | false =>
        refine if_true_of (e1.trans (by rw [hrt]; rfl)) ?_
        refine ⟨_, rfl, _, hlD, hlen, Same.over hD1 hs, ?_⟩
        rw [if_pos (show (!false) = true from rfl), nsV_snoc]
        exact upd_same
    rintro H2 ⟨s2, hl2⟩
    have hl2 : H2 D1 = some (.lst (nsV (lackOf b d))) := hl2
    have hll : (lackOf b d).length ≤ 10 := by
      unfold lackOf
      have h1 := List.length_filter_le (fun i => !b.ratified i d) (List.range b.treaty.n)
      rw [List.length_range] at h1
      omega
    have s12 := s1.trans s2
    -- named
    refine ⟨_, rfl, D1, rfl, ⟨_, SqL.of hl2⟩, fun D2 hD2 => ?_⟩
    refine lc_list (K := K) (a := D1) (xs := nsV (lackOf b d)) (fun j H' => Same H2 H' ∧ H' D2 = some (.lst (nsV (((lackOf b d).take j).filter b.treaty.named.testBit)))) ⟨Same.over hD2 (Same.refl _), upd_same⟩ (fun j H' _ h => SqL.of (h.1 _ _ hl2)) ?_ ?_
    · rintro j x H' hj ⟨hs, hlD⟩
      obtain ⟨n, hn, rfl⟩ := nsV_get hj
      rw [filter_snoc _ hn]
      refine ⟨rfl, _, rfl, a, CT, dx, _, _, rfl, hs _ _ (s12 _ _ ho), T.clT, T.tNamed, treF_named _ _, _, rfl, b.treaty.named, n, rfl, _, rfl, ?_⟩
      cases hb : b.treaty.named.testBit n with
      | true =>
        refine iteT ?_
        refine ⟨_, rfl, _, hlD, few_len _ (by omega) _, Same.over hD2 hs, ?_⟩
        rw [if_pos rfl, nsV_snoc]
        exact upd_same
      | false =>
        refine iteF ?_
        rw [if_neg Bool.false_ne_true, List.append_nil]
        exact ⟨hs, hlD⟩
    rintro H3 ⟨s3, hl3⟩
    rw [nsV_length, List.take_length] at hl3
    have hl3 : H3 D2 = some (.lst (nsV (namedOf b d))) := hl3
    have s13 := s12.trans s3
    have hl23 := s3 _ _ hl2
    -- others
    refine ⟨_, rfl, D1, rfl, ⟨_, SqL.of hl23⟩, fun D3 hD3 => ?_⟩
    refine lc_list (K := K) (a := D1) (xs := nsV (lackOf b d)) (fun j H' => Same H3 H' ∧ H' D3 = some (.lst (nsV (((lackOf b d).take j).filter fun i => !b.treaty.named.testBit i)))) ⟨Same.over hD3 (Same.refl _), upd_same⟩ (fun j H' _ h => SqL.of (h.1 _ _ hl23)) ?_ ?_
    · rintro j x H' hj ⟨hs, hlD⟩
      obtain ⟨n, hn, rfl⟩ := nsV_get hj
      rw [filter_snoc _ hn]
      refine ⟨rfl, _, rfl, a, CT, dx, _, _, rfl, hs _ _ (s13 _ _ ho), T.clT, T.tNamed, treF_named _ _, _, rfl, b.treaty.named, n, rfl, _, rfl, ?_⟩
      cases hb : b.treaty.named.testBit n with
      | true =>
        refine iteF ?_
        rw [if_neg (by intro q; cases q), List.append_nil]
        exact ⟨hs, hlD⟩
      | false =>
        refine iteT ?_
        refine ⟨_, rfl, _, hlD, few_len _ (by omega) _, Same.over hD3 hs, ?_⟩
        rw [if_pos (show (!false) = true from rfl), nsV_snoc]
        exact upd_same
    rintro H4 ⟨s4, hl4⟩
    rw [nsV_length, List.take_length] at hl4
    have hl4 : H4 D3 = some (.lst (nsV (othersOf b d))) := hl4
    have s14 := s13.trans s4
    have hl1' := s4 _ _ (s3 _ _ (s2 _ _ hl1))
    have hl3' := s4 _ _ hl3
    -- more
    refine ⟨_, rfl, a, CT, dx, _, _, rfl, s14 _ _ ho, T.clT, T.tNeed, treF_need _ _, _, rfl, p1, _, rfl, .inl (SqL.of hl1'), _, _, rfl, rfl, _, rfl, D2, _, rfl, .inl (SqL.of hl3'), _, _, rfl, rfl, _, _, rfl, ?_⟩
    have em : (if (b.treaty.need : Int) - ((nsV (b.set d)).length : Int) - ((nsV (namedOf b d)).length : Int) > 0 then (b.treaty.need : Int) - ((nsV (b.set d)).length : Int) - ((nsV (namedOf b d)).length : Int) else 0) = ((moreOf b d : Nat) : Int) := by
      rw [nsV_length, nsV_length]
      unfold moreOf
      split <;> omega
    refine ⟨_, rfl, _, rfl, _, rfl, _, rfl, D3, _, rfl, SqL.of hl4, fun p5 hp5 => ?_⟩
    have ec : cutV (nsV (othersOf b d)) none (some (if (b.treaty.need : Int) - ((nsV (b.set d)).length : Int) - ((nsV (namedOf b d)).length : Int) > 0 then (b.treaty.need : Int) - ((nsV (b.set d)).length : Int) - ((nsV (namedOf b d)).length : Int) else 0)) = nsV ((othersOf b d).take (moreOf b d)) := by
      rw [em]
      unfold cutV
      rw [HT.sIx_none, HT.sIx_nat, List.drop_zero, Nat.sub_zero, nsV_length]
      unfold nsV
      rw [← List.map_take, ← List.take_eq_take_min]
    rw [ec]
    have s5 : Same H4 (upd H4 p5 (.lst (nsV ((othersOf b d).take (moreOf b d))))) := Same.upd (Same.refl _) hp5
    have hnl : (namedOf b d).length ≤ 10 := by
      unfold namedOf
      exact Nat.le_trans (List.length_filter_le _ _) hll
    have hol : (othersOf b d).length ≤ 10 := by
      unfold othersOf
      exact Nat.le_trans (List.length_filter_le _ _) hll
    refine ⟨D2, p5, _, _, rfl, rfl, s5 _ _ hl3', upd_same, ?_, fun p hp => ?_⟩
    · rw [nsV_length, nsV_length, List.length_take]
      exact Nat.le_of_lt (small1000 (by omega))
    have s6 := s14.trans s5
    refine k _ p (Same.upd s6 hp) (s6.free hp) ?_
    rw [upd_same]
    unfold fewOf nsV
    rw [List.map_append]
theorem few_lt {b : Book} {d i : Nat} (h : i ∈ fewOf b d) : i < b.treaty.n := by
  have hl : i ∈ lackOf b d := by
    unfold fewOf at h
    rcases List.mem_append.mp h with h | h
    · exact (List.mem_filter.mp h).1
    · exact (List.mem_filter.mp (List.mem_of_mem_take h)).1
  exact List.mem_range.mp (List.mem_filter.mp hl).1
theorem few_length {b : Book} (w : WF b) (d : Nat) : (fewOf b d).length ≤ 10 := by
  have h1 : ∀ n s : Nat, Km479.size n s ≤ n := fun n s => cntR_le s.testBit n
  have h2 := (fewest_few w d).2
  have := h1 b.treaty.n (Km479.bits (fewOf b d))
  have := w.n10
  omega
theorem scFoFewest : FnScope ["treaty", "given", "d", "refusal", "states"] ["treaty", "given"] (defScope sFoFewest) := ⟨rfl, rfl, rfl, by decide +kernel, rfl, by decide +kernel, by decide +kernel⟩
theorem ok_fo_fewest {f : Addr} {fd : FuncData} (F : Fun K "fo_fewest" "fo_fewest" sFoFewest f fd) (G : Consts mg) (mlen : mg "len" = none)
    (D_day_refusal : Def P w K mg base "day_refusal" 2 ["treaty", "d"] (spDayRefusal CD CT)) (D_force_day : Def P w K mg base "force_day" 6 ["treaty"] (spForceDay CD CT)) (D_fewest_lacking : Def P w K mg base "fewest_lacking" 4 ["treaty", "d"] (spFewestLacking CD CT)) (D_set_number : Def P w K mg base "set_number" 1 ["states"] (spSetNumber K)) :
    FnOk P w K mg base CX0 7 f fd ["treaty", "given"] (spFo K CD CT (c1 .fewest)) := by
  refine F.ok scFoFewest (fun vs H Q E h => ?_) (fun cdv A outer s H vs Q E hr h => ?_)
  · obtain ⟨a, g, l, as, b, xs, c, rfl, _⟩ := h
    rfl
  · obtain ⟨a, g, l, as, b, xs, c, rfl, hT, hw, hg, hc, k⟩ := h
    obtain ⟨d, rfl, rfl⟩ := c1_some hc
    obtain ⟨hw, _⟩ := hw rfl
    refine ⟨_, pss_cons (ps_set (i := 2) scFoFewest.nd rfl (Or.inl rfl) (pe_ix ix_list (pv 1) pe_int (fun _ _ => rfl)))
      (pss_cons (ps_set (i := 3) scFoFewest.nd rfl (Or.inl rfl) (pe_D D_day_refusal hr (pa_cons (pv 0) (pa_cons (pv 2) pa_nil))))
      (pss_cons (ps_if (pt_cmp (pc_neI (pv 3) (pe_G G.NO_REFUSAL))) (pss_one (ps_ret (pe_lst (pa_cons (pv 3) pa_nil)))) pss_nil)
      (pss_cons (ps_if (pt_cmp (pc_notN (pe_D D_force_day hr (pa_cons (pv 0) pa_nil)))) (pss_one (ps_ret (pe_lst (pa_cons (pe_G G.ALREADY_SO) pa_nil)))) pss_nil)
      (pss_cons (ps_set (i := 4) scFoFewest.nd rfl (Or.inl rfl) (pe_D D_fewest_lacking hr (pa_cons (pv 0) (pa_cons (pv 2) pa_nil))))
      (pss_one (ps_ret (pe_lst (pa_cons (pe_callB call_len_seq (by rfl) mlen PySem.boot_len (pa_cons (pv 4) pa_nil)) (pa_cons (pe_D D_set_number hr (pa_cons (pv 4) pa_nil)) pa_nil))))))))), ?_⟩
    have ea := fewest_act b d
    refine ⟨_, rfl, g, _, _, _, rfl, rfl, hg, at_of (j := 0) (v := nV d) rfl rfl, ?_⟩
    refine ⟨_, rfl, _, rfl, a, b, d, rfl, hT.bk, _, rfl, _, _, rfl, rfl, _, rfl, ?_⟩
    by_cases h0 : dayRef b d = 0
    · refine if_false_of (by dsimp only; rw [decide_eq_true h0]; rfl) ?_
      obtain ⟨z1, z2⟩ := dayRef_zero h0
      rw [if_neg z1, if_neg z2] at ea
      refine ⟨_, rfl, a, b, rfl, hT.bk, hw, fun H1 s1 => ⟨_, rfl, ?_⟩⟩
      cases hf : b.from_ with
      | some z =>
        refine if_true_of rfl ?_
        rw [if_pos (by rw [hf]; intro q; cases q)] at ea
        exact ⟨by show 1 ≤ sizeLine; decide, fun p hp => fo_same k hT ea s1 hp rfl⟩
      | none =>
        refine if_false_of rfl ?_
        obtain ⟨f1, f2⟩ := fewest_few hw d
        rw [if_neg (fun q => q hf), f1] at ea
        have ea : Km479.act b (.fewest d) = (b, ⟨Km479.n2i (Km479.size b.treaty.n (Km479.bits (fewOf b d))), [Km479.bits (fewOf b d)]⟩) := ea
        rw [f2] at ea
        refine ⟨_, rfl, _, rfl, a, b, d, rfl, hT.bk.same s1, hw, fun H2 p2 s2 hp2 hl2 => ?_⟩
        refine ⟨_, rfl, p2, _, rfl, .inl (SqL.of hl2), _, rfl, p2, fewOf b d, rfl, SqL.of hl2, by have := few_length hw d; omega, fun i hi => by have := few_lt hi; have := hw.n10; omega, fun H3 s3 => ?_⟩
        refine ⟨by show 2 ≤ sizeLine; decide, fun p hp => fo_same k hT ea (s1.trans (s2.trans s3)) hp ?_⟩
        rw [nsV_length]
        rfl
    · refine if_true_of (by dsimp only; rw [decide_eq_false h0]; rfl) ?_
      refine ⟨_, rfl, by show 1 ≤ sizeLine; decide, fun p hp => ?_⟩
      rcases dayRef_cases h0 with ⟨z, e⟩ | ⟨z1, z2, e⟩
      · rw [if_pos z] at ea
        rw [e]
        exact fo_same k hT ea (Same.refl _) hp rfl
      · rw [if_neg z1, if_pos z2] at ea
        rw [e]
        exact fo_same k hT ea (Same.refl _) hp rfl
end
end TF
set_option Elab.async false
set_option maxRecDepth 100000
set_option maxHeartbeats 2000000
namespace TF
open PySem PySem.Spec PyProof.Rows L2
open Km479 (Treaty Book)
/-- a name of the top that holds a written tuple -/
def GT (K : PySem.W.Frag) (mg : Str → Option Value) (x : Str) (a : Addr) (xs : List V) : Prop := mg x = some (.ref a) ∧ ∀ H, SqT K H a xs
theorem pe_GT {X : Cx} {x : Str} {a : Addr} {xs : List V} {pos : Pos} (h : GT X.K X.mg x a xs) (hg : Gl X x := by rfl) (hdb : (x == ("__debug__" : Str)) = false := by decide) : PE X (.Name x pos) (tC (.ref a)) :=
  pe_glob (v := .ref a) hg h.1 rfl (hd := hdb)
/-- a part: its number, its numbers in a list that is new -/
def PartAt (new : Addr → Prop) (H : Hp) (t : Addr) (p : Part) : Prop := ∃ g, new g ∧ H t = some (.tup [nV p.1, .ref g]) ∧ H g = some (.lst (nsV p.2))
structure PartsAt (new : Addr → Prop) (H : Hp) (ts : List Addr) (ps : List Part) : Prop where
  len : ts.length = ps.length
  at_ : ∀ (j : Nat) (t : Addr), ts[j]? = some t → ∃ p, ps[j]? = some p ∧ PartAt new H t p
theorem PartAt.same {new : Addr → Prop} {H H' : Hp} {t : Addr} {p : Part} (s : Same H H') (h : PartAt new H t p) : PartAt new H' t p := by
  obtain ⟨g, h1, h2, h3⟩ := h
  exact ⟨g, h1, s _ _ h2, s _ _ h3⟩
def spSplit (K : PySem.W.Frag) : Sp := fun vs H Q _ => ∃ (c : Addr) (ps : List Part), vs = [.ref c] ∧ SqL K H c (nsV (flat ps)) ∧ (∀ p ∈ ps, Shaped p) ∧ (flat ps).length ≤ 7000 ∧ ps.length ≤ 1000 ∧
  ∀ (H' : Hp) (q : Addr) (ts : List Addr), Same H H' → H q = none → H' q = some (.lst (ts.map V.ref)) → PartsAt (fun g => H g = none) H' ts ps → Q (.ref q) H'
/-! ### where a part stands -/
def place (ps : List Part) (j : Nat) : Nat := (flat (ps.take j)).length
theorem flat_append (a b : List Part) : flat (a ++ b) = flat a ++ flat b := List.flatMap_append
theorem flat_split {ps : List Part} {j : Nat} {p : Part} (h : ps[j]? = some p) : flat ps = flat (ps.take j) ++ (p.1 :: p.2) ++ flat (ps.drop (j + 1)) := by
  have hlt : j < ps.length := (List.getElem?_eq_some_iff.mp h).1
  have e : ps = ps.take j ++ [p] ++ ps.drop (j + 1) := by
    rw [← take_snoc h, List.take_append_drop]
  have e2 : flat [p] = p.1 :: p.2 := by
    unfold flat
    simp
  conv => lhs; rw [e]
  rw [flat_append, flat_append, e2]
theorem place_succ {ps : List Part} {j : Nat} {p : Part} (h : ps[j]? = some p) : place ps (j + 1) = place ps j + 1 + p.2.length := by
  unfold place
  have e2 : flat [p] = p.1 :: p.2 := by
    unfold flat
    simp
  rw [take_snoc h, flat_append, e2, List.length_append, List.length_cons]
  omega
theorem place_lt {ps : List Part} {j : Nat} {p : Part} (h : ps[j]? = some p) : place ps j + 1 + p.2.length ≤ (flat ps).length := by
  rw [flat_split h, List.length_append, List.length_append, List.length_cons]
  unfold place
  omega
theorem place_end (ps : List Part) : place ps ps.length = (flat ps).length := by
  unfold place
  rw [List.take_length]
theorem at_place {ps : List Part} {j : Nat} {p : Part} (h : ps[j]? = some p) : (flat ps)[place ps j]? = some p.1 := by
  rw [flat_split h, List.append_assoc]
  unfold place
  rw [List.getElem?_append_right (Nat.le_refl _), Nat.sub_self]
  rfl
theorem cut_place {ps : List Part} {j : Nat} {p : Part} (h : ps[j]? = some p) {lo hi : Int} (hlo : lo = ((place ps j + 1 : Nat) : Int)) (hhi : hi = ((place ps j + 1 + p.2.length : Nat) : Int)) :
    cutV (nsV (flat ps)) (some lo) (some hi) = nsV p.2 := by
  have hl := place_lt h
  unfold cutV
  rw [hlo, hhi, HT.sIx_nat, HT.sIx_nat, nsV_length, Nat.min_eq_left (by omega), Nat.min_eq_left (by omega)]
  have e1 : place ps j + 1 + p.2.length - (place ps j + 1) = p.2.length := by omega
  rw [e1]
  unfold nsV
  rw [← List.map_drop, ← List.map_take]
  congr 1
  rw [flat_split h, List.append_assoc]
  have e2 : place ps j + 1 = (flat (ps.take j)).length + 1 := rfl
  rw [e2, List.drop_append, List.drop_eq_nil_of_le (by omega), List.nil_append]
  have e3 : (flat (ps.take j)).length + 1 - (flat (ps.take j)).length = 1 := by omega
  rw [e3]
  show (p.2 ++ flat (ps.drop (j + 1))).take p.2.length = p.2
  rw [List.take_append_of_le_length (Nat.le_refl _), List.take_length]
section
variable {P : Program} {w : World} {K : PySem.W.Frag} {mg : Str → Option Value} {base : Heap} {CD CT : Addr}
theorem scSplitCalls : FnScope ["calls", "parts", "at", "behind"] ["calls"] (defScope sSplitCalls) := ⟨rfl, rfl, rfl, by decide +kernel, rfl, by decide +kernel, by decide +kernel⟩
theorem ok_split_calls {f aW : Addr} {fd : FuncData} (F : Fun K "split_calls" "split_calls" sSplitCalls f fd) (mlen : mg "len" = none) (W : GT K mg "WIDTHS" aW (nsV widths)) : FnOk P w K mg base CX0 1 f fd ["calls"] (spSplit K) := by
  refine F.ok scSplitCalls (fun vs H Q E h => ?_) (fun cdv A outer s H vs Q E hr h => ?_)
  · obtain ⟨c, ps, rfl, _⟩ := h
    rfl
  · obtain ⟨c, ps, rfl, hc, hsh, hlen, hps, k⟩ := h
    refine ⟨_, pss_cons (ps_set (i := 1) scSplitCalls.nd rfl (Or.inl rfl) (pe_lst pa_nil))
      (pss_cons (ps_set (i := 2) scSplitCalls.nd rfl (Or.inl rfl) pe_int)
      (pss_cons (ps_while PassesOwn.never (pt_cmp (pc_lt (pv 2) (pe_callB call_len_seq (by rfl) mlen PySem.boot_len (pa_cons (pv 0) pa_nil)))) (pss_cons (ps_set (i := 3) scSplitCalls.nd rfl (Or.inl rfl) (pe_op op_add (pe_op op_add (pv 2) pe_int) (pe_ix ix_tup (pe_GT W) (pe_ix ix_list (pv 0) (pv 2) (fun _ _ => rfl)) (fun _ _ => rfl)))) (pss_cons (ps_expr (pe_bm PySem.F.plainAttrs_list PySem.F.slot_list_append PySem.F.type_list_append mt_append (pv 1) (pa_cons (pe_tup (pa_cons (pe_ix ix_list (pv 0) (pv 2) (fun _ _ => rfl)) (pa_cons (pe_slice sl_list (pv 0) (po_some (pe_op op_add (pv 2) pe_int)) (po_some (pv 3))) pa_nil))) pa_nil))) (pss_one (ps_set (i := 2) scSplitCalls.nd rfl (Or.inl rfl) (pv 3))))))
      (pss_one (ps_ret (pv 1))))), ?_⟩
    refine ⟨Nat.zero_le _, fun q hq => ?_⟩
    refine ⟨fun m σ H' => ∃ (j : Nat) (ts : List Addr) (u : Option V), m = ps.length - j ∧ j ≤ ps.length ∧ σ = [some (.ref c), some (.ref q), some (nV (place ps j)), u] ∧ Same H H' ∧ H' q = some (.lst (ts.map V.ref)) ∧ PartsAt (fun g => H g = none ∧ g ≠ q) H' ts (ps.take j),
      ⟨_, 0, [], none, rfl, Nat.zero_le _, rfl, Same.over hq (Same.refl _), upd_same, rfl, fun j t ht => by simp at ht⟩, ?_⟩
    rintro m σ H' ⟨j, ts, u, rfl, hj, rfl, hs, hl, hp⟩
    refine ⟨_, rfl, _, rfl, c, _, rfl, .inl (hs.seq hc), _, _, rfl, rfl, _, rfl, ?_⟩
    rw [nsV_length]
    by_cases hlt : j < ps.length
    · obtain ⟨p, hpj⟩ : ∃ p, ps[j]? = some p := ⟨_, List.getElem?_eq_getElem hlt⟩
      have hpl := place_lt hpj
      have hsp := hsh p (List.mem_of_getElem? hpj)
      refine if_true_of (decide_eq_true (by omega)) ?_
      refine ⟨fun σ' H'' => ∃ (ts : List Addr) (u : Option V), σ' = [some (.ref c), some (.ref q), some (nV (place ps (j + 1))), u] ∧ Same H H'' ∧ H'' q = some (.lst (ts.map V.ref)) ∧ PartsAt (fun g => H g = none ∧ g ≠ q) H'' ts (ps.take (j + 1)),
        fun σ' H'' ⟨ts', u', e1, e2, e3, e4⟩ => ⟨ps.length - (j + 1), by omega, j + 1, ts', u', rfl, hlt, e1, e2, e3, e4⟩, ?_⟩
      have i1 : atI (nsV (flat ps)) (place ps j : Int) = some (nV p.1) := atI_nat (by unfold nsV; rw [List.getElem?_map, at_place hpj]; rfl)
      have i2 : atI (nsV widths) (p.1 : Int) = some (nV p.2.length) := atI_nat (by unfold nsV; rw [List.getElem?_map, show widths[p.1]? = some p.2.length from hsp]; rfl)
      -- behind
      refine ⟨_, rfl, _, _, rfl, rfl, _, rfl, _, rfl, c, _, _, _, rfl, rfl, hs.seq hc, i1, aW, _, _, _, rfl, rfl, W.2 H', i2, _, _, rfl, rfl, ?_⟩
      -- parts.append((calls[at], calls[at + 1:behind]))
      refine ⟨_, rfl, .inl ⟨rfl, _, SqL.of hl⟩, _, rfl, _, rfl, c, _, _, _, rfl, rfl, hs.seq hc, i1, _, rfl, _, rfl, _, _, rfl, rfl, _, rfl, _, rfl, _, rfl, c, _, rfl, hs.seq hc, fun g hg => ?_⟩
      rw [cut_place hpj (by omega) (by omega)]
      have s1 : Same H' (upd H' g (.lst (nsV p.2))) := Same.upd (Same.refl _) hg
      refine ⟨by show 2 ≤ sizeLine; decide, fun t ht => ?_⟩
      have s2 : Same H' (upd (upd H' g (.lst (nsV p.2))) t (.tup [nV p.1, .ref g])) := Same.upd s1 ht
      have hgt : g ≠ t := ne_of_none upd_same ht
      have hq2 := s2 _ _ hl
      have htq : t ≠ q := Ne.symm (ne_of_none (s1 _ _ hl) ht)
      have hgq : g ≠ q := Ne.symm (ne_of_none hl hg)
      have hH : H g = none := hs.free hg
      refine ⟨q, _, _, rfl, rfl, hq2, ?_, ?_⟩
      · rw [List.length_map, hp.len, List.length_take]
        exact small1000 (by omega)
      refine ⟨_, rfl, ts ++ [t], some (nV (place ps j + 1 + p.2.length)), ?_, ?_, ?_, ?_⟩
      · rw [place_succ hpj]
        rfl
      · exact Same.over hq (hs.trans s2)
      · rw [upd_same, List.map_append]
        rfl
      · have keep : ∀ x o, H' x = some o → x ≠ q → upd (upd (upd H' g (.lst (nsV p.2))) t (.tup [nV p.1, .ref g])) q (.lst (ts.map V.ref ++ [.ref t])) x = some o := fun x o e hx => (upd_ne hx).trans (s2 _ _ e)
        refine ⟨?_, fun i t' ht' => ?_⟩
        · rw [List.length_append, hp.len, List.length_take, List.length_take]
          simp
          omega
        · by_cases hi : i < ts.length
          · rw [List.getElem?_append_left hi] at ht'
            obtain ⟨p', hp', g', hn', h1', h2'⟩ := hp.at_ i t' ht'
            refine ⟨p', ?_, g', hn', keep _ _ h1' (ne_of h1' hl (by intro z; cases z)), keep _ _ h2' ?_⟩
            · rw [List.getElem?_take] at hp' ⊢
              by_cases hij : i < j
              · rw [if_pos hij] at hp'
                rw [if_pos (by omega)]
                exact hp'
              · rw [if_neg hij] at hp'
                cases hp'
            · exact hn'.2
          · rw [List.getElem?_append_right (by omega)] at ht'
            have hi0 : i - ts.length = 0 := by
              rcases Nat.eq_zero_or_pos (i - ts.length) with z | z
              · exact z
              · rw [List.getElem?_eq_none (by simp; omega)] at ht'; cases ht'
            rw [hi0] at ht'
            have et : t' = t := by simpa using ht'.symm
            subst et
            have hij : i = j := by
              have := hp.len
              rw [List.length_take] at this
              omega
            subst hij
            refine ⟨p, ?_, g, ⟨hH, hgq⟩, (upd_ne htq).trans upd_same, (upd_ne hgq).trans ((upd_ne hgt).trans upd_same)⟩
            rw [List.getElem?_take, if_pos (by omega)]
            exact hpj
    · have ej : j = ps.length := by omega
      subst ej
      refine if_false_of (decide_eq_false (by rw [place_end]; omega)) ?_
      rw [List.take_length] at hp
      refine ⟨_, rfl, k H' q ts hs hq hl ⟨hp.len, fun i t ht => ?_⟩⟩
      obtain ⟨p, e, g, hn, h1, h2⟩ := hp.at_ i t ht
      exact ⟨p, e, g, hn.1, h1, h2⟩
end
end TF
set_option Elab.async false
set_option maxRecDepth 100000
set_option maxHeartbeats 2000000
namespace TF
open PySem PySem.Spec PyProof.Rows L2
open Km479 (Treaty Book)
/-- a def that a tuple of the top holds -/
def Held (P : Program) (w : World) (K : PySem.W.Frag) (mg : Str → Option Value) (base : Heap) (k : Nat) (f : Addr) (sp : Sp) : Prop :=
  ∃ (fd : FuncData) (ps : List Str) (k' : Nat), k' ≤ k ∧ FnOk P w K mg base CX0 k' f fd ps sp ∧ PySem.W.keepIn K (.ref f) = true ∧ Binds K fd ps []
/-- what is called is the value of an expression: a def, with its promise -/
def tCallX (P : Program) (w : World) (K : PySem.W.Frag) (mg : Str → Option Value) (base : Heap) (k : Nat) (tf : TE) (t : TA) : TE := fun σ H Q => tf σ H fun y H1 => ∃ f sp, y = .ref f ∧ Held P w K mg base k f sp ∧ t σ H1 fun vs H2 => sp vs H2 Q E0
theorem pe_callX {X : Cx} {k : Nat} {fe e : Expr} {es : List Expr} {pos : Pos} {tf : TE} {t : TA} (hf : PE X fe tf) (hr : Room k X.A) (ha : PA X (e :: es) t)
    (ht : eval (.Call fe (e :: es) [] pos) X.env = (do callWith pos (← eval fe X.env) [] (backTo pos (starEach (e :: es) X.env)) (backToKw pos (keywordEach [] X.env))) := by rfl)
    (he : starEach (e :: es) X.env = (false, eval e X.env) :: starEach es X.env := by rfl) (hpl : (backTo pos (starEach es X.env)).any (·.1) = false := by rfl) :
    PE X (.Call fe (e :: es) [] pos) (tCallX X.prog X.w X.K X.mg X.base k tf t) := by
  refine ⟨fun pins s σ H Q I h => ?_⟩
  refine Call_ (thn (hf.run pins s σ H _ I h) fun u s1 ⟨y, H1, I1, ry, f, sp, ey, hH, q⟩ => ?_) ht
  subst ey
  obtain rfl : u = Value.ref f := ry
  obtain ⟨fd, ps, k', hk', F, hk, hb⟩ := hH
  refine PySem.W.callWith_K (h₀ := X.base) I.ok.mod.kin hk (thn (ha.run pos pins s1 σ H1 _ I1 q) fun us s2 ⟨vs, H2, I2, r, q2⟩ => ⟨I2.kIn, ?_⟩) he hpl
  refine run_fn F (hr.mono hk') hb .nil pass0 I2 r ?_
  rw [List.append_nil]
  exact q2
/-- answers': a list of whole numbers is handed in, what is due comes out -/
def spAnswers (K : PySem.W.Frag) : Sp := fun vs H Q _ => ∃ (c : Addr) (ms : List Nat), vs = [.ref c] ∧ SqL K H c (nsV ms) ∧ ms.length ≤ 7000 ∧ PyKm479.answers_asked (intsOf ms) = true ∧
  ∀ (H' : Hp) (p : Addr), H' p = some (.lst ((PyKm479.answers (intsOf ms)).map V.int)) → Q (.ref p) H'
def cs (ps : List Part) : List (List (List Int)) := ps.map fun p => PyKm479.whole (rawOf p)
/-- what has been told behind the first j calls -/
def toldTo (ps : List Part) (j : Nat) : List Int := PyFlat.told (PyFlat.played Km479Neutral.step Km479Neutral.start ((cs ps).take j))
theorem cs_get {ps : List Part} {j : Nat} {p : Part} (h : ps[j]? = some p) : (cs ps)[j]? = some (PyKm479.whole (rawOf p)) := by
  unfold cs
  rw [List.getElem?_map, h]
  rfl
theorem toldTo_succ {ps : List Part} {j : Nat} {p : Part} (h : ps[j]? = some p) : toldTo ps (j + 1) = toldTo ps j ++ (((Km479Neutral.step (after Km479Neutral.start ((cs ps).take j)) (PyKm479.whole (rawOf p))).2.length : Int) :: (Km479Neutral.step (after Km479Neutral.start ((cs ps).take j)) (PyKm479.whole (rawOf p))).2) := by
  unfold toldTo
  rw [take_snoc (cs_get h), played_snoc, told_append, told_one]
theorem toldTo_len (ps : List Part) (j : Nat) : (toldTo ps j).length ≤ (PyFlat.told (PyFlat.played Km479Neutral.step Km479Neutral.start (cs ps))).length := played_take _ _ _
section
variable {P : Program} {w : World} {K : PySem.W.Frag} {mg : Str → Option Value} {base : Heap} {CD CT : Addr}
/-- a list beside the book, changed -/
theorem TrAt.off {H : Hp} {a l q : Addr} {as : List Addr} {b : Book} {xs : List V} {o : HO} (h : TrAt CD CT H a l as b) (hlq : l ≠ q) (hq : H q = some (.lst xs)) : TrAt CD CT (upd H q o) a l as b := by
  obtain ⟨⟨dx, ho⟩, h2, h3, h4⟩ := h
  refine ⟨⟨dx, (upd_ne (ne_of ho hq (by intro z; cases z))).trans ho⟩, (upd_ne hlq).trans h2, h3, fun j c hc => ?_⟩
  obtain ⟨e, he, dc, hd⟩ := h4 j c hc
  exact ⟨e, he, dc, (upd_ne (ne_of hd hq (by intro z; cases z))).trans hd⟩
/-- the tuple of the calls' defs: each keeps its call's promise -/
def CallsOk (P : Program) (w : World) (K : PySem.W.Frag) (mg : Str → Option Value) (base : Heap) (CD CT : Addr) (k : Nat) (fs : List Addr) : Prop :=
  ∀ (j : Nat) (fn : List Nat → Option Km479.Call), callFns[j]? = some fn → ∃ f, fs[j]? = some f ∧ Held P w K mg base k f (spFo K CD CT fn)
/-- the reading of CALLS[number](treaty, given) -/
theorem read_dispatch {k : Nat} {aC : Addr} {fs : List Addr} (TC : GT K mg "CALLS" aC (fs.map V.ref)) (hC : CallsOk P w K mg base CD CT k fs) {H : Hp} {a g l : Addr} {as : List Addr} {b : Book} {j : Nat} {xs : List Nat} {fn : List Nat → Option Km479.Call} {c : Km479.Call} {Q : VK} {σ : L2.St} {i0 i1 i2 : Nat}
    (h0 : σ[i0]? = some (some (.ref a))) (h1 : σ[i1]? = some (some (nV j))) (h2 : σ[i2]? = some (some (.ref g)))
    (hT : TrAt CD CT H a l as b) (hw : Km479.isStart c = false → WF4 b) (hg : SqL K H g (nsV xs)) (hfn : callFns[j]? = some fn) (hc : fn xs = some c)
    (kk : ∀ (H' : Hp) (p l' : Addr) (as' : List Addr), TrAt CD CT H' a l' as' (Km479.act b c).1 → (l' = l ∨ H l' = none) → (∀ x o, H x = some o → x ≠ a → x ≠ l → H' x = some o) →
      H p = none → H' p = some (.lst ((Km479Neutral.told (Km479.act b c).2).map V.int)) → Q (.ref p) H') :
    tCallX P w K mg base k (tOp (rIxT K) (tC (.ref aC)) (tVar i1)) (tCons (tVar i0) (tCons (tVar i2) tNil)) σ H Q := by
  obtain ⟨f, hf, hH⟩ := hC j fn hfn
  exact ⟨_, h1, aC, _, _, _, rfl, rfl, TC.2 H, atI_nat (by rw [List.getElem?_map, hf]; rfl), f, _, rfl, hH, _, h0, _, h2, a, g, l, as, b, xs, c, rfl, hT, hw, hg, hc, kk⟩
theorem scAnswers : FnScope ["calls", "treaty", "told", "number", "given", "answer"] ["calls"] (defScope sAnswers) := ⟨rfl, rfl, rfl, by decide +kernel, rfl, by decide +kernel, by decide +kernel⟩
theorem ok_answers {f aC : Addr} {fd : FuncData} {fs : List Addr} {kA : Nat} (hkA : 2 ≤ kA) (F : Fun K "answers" "answers" sAnswers f fd) (mlen : mg "len" = none)
    (M_Treaty : Make P w K mg base "Treaty" CT 1 ["self"] (spTreatyInit CD CT)) (D_split_calls : Def P w K mg base "split_calls" 1 ["calls"] (spSplit K)) (TC : GT K mg "CALLS" aC (fs.map V.ref)) (hC : CallsOk P w K mg base CD CT kA fs) :
    FnOk P w K mg base CX0 (kA + 1) f fd ["calls"] (spAnswers K) := by
  refine F.ok scAnswers (fun vs H Q E h => ?_) (fun cdv A outer s H vs Q E hr h => ?_)
  · obtain ⟨c, ms, rfl, _⟩ := h
    rfl
  · obtain ⟨c, ms, rfl, hc, hlen, hask, k⟩ := h
    obtain ⟨ps, rfl, hsh, hmay, hans, hshort, hps⟩ := asked_parts hask
    refine ⟨_, pss_cons (ps_set (i := 1) scAnswers.nd rfl (Or.inl rfl) (pe_M0 M_Treaty hr hkA))
      (pss_cons (ps_set (i := 2) scAnswers.nd rfl (Or.inl rfl) (pe_lst pa_nil))
      (pss_cons (ps_for PassesOwn.never rfl (pi_list (pe_D D_split_calls hr (pa_cons (pv 0) pa_nil) (Nat.le_trans (by decide) hkA))) (pg_tup rfl (pgs_cons (pg_name (i := 3) scAnswers.nd rfl (Or.inl rfl)) (pgs_cons (pg_name (i := 4) scAnswers.nd rfl (Or.inl rfl)) (pgs_nil)))) (pss_cons (ps_set (i := 5) scAnswers.nd rfl (Or.inl rfl) (pe_callX (pe_ix ix_tup (pe_GT TC) (pv 3) (fun _ _ => rfl)) hr (pa_cons (pv 1) (pa_cons (pv 4) pa_nil)))) (pss_cons (ps_expr (pe_bm PySem.F.plainAttrs_list PySem.F.slot_list_append PySem.F.type_list_append mt_append (pv 2) (pa_cons (pe_callB call_len_seq (by rfl) mlen PySem.boot_len (pa_cons (pv 5) pa_nil)) pa_nil))) (pss_one (ps_expr (pe_bm PySem.F.plainAttrs_list PySem.F.slot_list_extend PySem.F.type_list_extend mt_extend (pv 2) (pa_cons (pv 5) pa_nil)))))))
      (pss_one (ps_ret (pv 2))))), ?_⟩
    -- treaty = Treaty()
    intro a dx na ndx ne
    refine ⟨a, dx, rfl, upd_same, fun H1 l0 hT1 nl0 kp1 => ⟨rfl, ?_⟩⟩
    have s1 : Same H H1 := Same.made na ndx kp1
    -- told = []
    refine ⟨Nat.zero_le _, fun q hq => ?_⟩
    have s2 : Same H1 (upd H1 q (.lst [])) := Same.upd (Same.refl _) hq
    have s02 := s1.trans s2
    have hT2 := hT1.same s2
    have hlq : l0 ≠ q := ne_of_none hT1.lst hq
    have haq : a ≠ q := by
      obtain ⟨dx', ho⟩ := hT1.obj
      exact ne_of_none ho hq
    -- split_calls(calls)
    refine ⟨_, rfl, c, ps, rfl, s02.seq hc, hsh, hlen, hps, fun H3 r ts s3 nr hr3 hparts => ?_⟩
    have hT3 := hT2.same s3
    have hq3 : H3 q = some (.lst []) := s3 _ _ upd_same
    refine ⟨r, rfl, ⟨_, SqL.of hr3⟩, ?_⟩
    refine for_list (K := K) (a := r) (xs := ts.map V.ref) (fun j σ H' => ∃ (l : Addr) (as : List Addr) (b : Book) (u v x : Option V), σ = [some (.ref c), some (.ref a), some (.ref q), u, v, x] ∧
        TrAt CD CT H' a l as b ∧ (l = l0 ∨ H3 l = none) ∧ Rel (after Km479Neutral.start ((cs ps).take j)) b ∧ H' q = some (.lst ((toldTo ps j).map V.int)) ∧ (∀ x o, H3 x = some o → x ≠ a → x ≠ l0 → x ≠ q → H' x = some o))
      ⟨l0, [], noBook, none, none, none, rfl, hT3, .inl rfl, rfl, hq3, fun x o e _ _ _ => e⟩ ?_ ?_ ?_
    · rintro j σ H' _ ⟨l, as, b, u, v, w', _, _, _, _, _, fr⟩
      refine SqL.of (fr r _ hr3 ?_ ?_ ?_)
      · intro z
        subst z
        obtain ⟨dx', ho⟩ := hT2.obj
        rw [nr] at ho
        cases ho
      · intro z
        subst z
        have q2 := hT2.lst
        rw [nr] at q2
        cases q2
      · intro z
        subst z
        rw [upd_same] at nr
        cases nr
    · rintro j x σ H' hj ⟨l, as, b, u, v, w', rfl, hT, hl, hR, hq', fr⟩
      rw [List.getElem?_map] at hj
      cases ht : ts[j]? with
      | none => rw [ht] at hj; cases hj
      | some t =>
        rw [ht] at hj
        have hx : x = .ref t := (Option.some.inj hj).symm
        subst hx
        obtain ⟨p, hp, g, ng, h3t, h3g⟩ := hparts.at_ j t ht
        obtain ⟨dx3, ho3⟩ := hT3.obj
        obtain ⟨dx2, ho2⟩ := hT2.obj
        have ht' : H' t = some (.tup [nV p.1, .ref g]) := fr t _ h3t (ne_of h3t ho3 (by intro z; cases z)) (ne_of h3t hT3.lst (by intro z; cases z)) (ne_of h3t hq3 (by intro z; cases z))
        have hg' : H' g = some (.lst (nsV p.2)) := fr g _ h3g (Ne.symm (ne_of_none ho2 ng)) (Ne.symm (ne_of_none hT2.lst ng)) (Ne.symm (ne_of_none upd_same ng))
        obtain ⟨fn, cl, hfn, hcl, hcall⟩ := callOf_part (hsh p (List.mem_of_getElem? hp))
        obtain ⟨st1, st2, st3⟩ := step_rel hR hcall (may_at hmay (cs_get hp))
        have hql : q ≠ l := by
          rcases hl with rfl | hl
          · exact Ne.symm hlq
          · exact ne_of_none hq3 hl
        have hlast : (toldTo ps (j + 1)).length ≤ 10000000 := by
          have z := toldTo_len ps (j + 1)
          rw [hans] at hshort
          exact Nat.le_trans z hshort
        have hst := toldTo_succ hp
        rw [st1] at hst
        refine ⟨t, _, rfl, SqT.of ht', rfl, _, _, rfl, _, _, rfl, rfl, ?_⟩
        refine read_dispatch TC hC (i0 := 1) (i1 := 3) (i2 := 4) rfl rfl rfl hT st3 (SqL.of hg') hfn hcl (fun H4 pA l4 as4 hT4 hl4 fr4 npA hpA => ?_)
        have hq4 : H4 q = some (.lst ((toldTo ps j).map V.int)) := fr4 q _ hq' (Ne.symm haq) hql
        have hpq : pA ≠ q := Ne.symm (ne_of_none hq' npA)
        have hl4q : l4 ≠ q := by
          rcases hl4 with rfl | z
          · exact Ne.symm hql
          · exact Ne.symm (ne_of_none hq' z)
        have hlen1 : (toldTo ps j).length + (Km479Neutral.told (Km479.act b cl).2).length + 1 ≤ 10000000 := by
          rw [hst, List.length_append, List.length_cons] at hlast
          omega
        refine ⟨_, rfl, .inl ⟨rfl, _, SqL.of hq4⟩, _, rfl, pA, _, rfl, .inl (SqL.of hpA), q, _, _, rfl, rfl, hq4, ?_, ?_⟩
        · rw [List.length_map]
          exact Nat.lt_of_le_of_lt (show _ ≤ 10000000 by omega) (by decide)
        refine ⟨_, rfl, .inl ⟨rfl, _, SqL.of upd_same⟩, _, rfl, q, pA, _, _, rfl, rfl, upd_same, (upd_ne hpq).trans hpA, ?_, ?_⟩
        · rw [List.length_append, List.length_map, List.length_map]
          exact Nat.le_of_lt (Nat.lt_of_le_of_lt (show _ ≤ 10000000 by simp; omega) (by decide))
        refine ⟨l4, as4, (Km479.act b cl).1, _, _, _, rfl, (hT4.off hl4q hq4).off hl4q upd_same, ?_, ?_, ?_, ?_⟩
        · rcases hl4 with rfl | z
          · exact hl
          · cases e3 : H3 l4 with
            | none => exact .inr rfl
            | some o =>
              by_cases z0 : l4 = l0
              · exact .inl z0
              · have za : l4 ≠ a := by
                  intro z1
                  obtain ⟨dx', ho'⟩ := hT.obj
                  rw [z1, ho'] at z
                  cases z
                have := fr l4 o e3 za z0 hl4q
                rw [z] at this
                cases this
        · rw [take_snoc (cs_get hp), after_snoc]
          exact st2
        · rw [upd_same, hst, List.map_append, List.length_map]
          congr 2
          rw [List.append_assoc]
          rfl
        · intro y o e hya hyl hyq
          have hyl2 : y ≠ l := by
            rcases hl with rfl | z
            · exact hyl
            · exact ne_of_none e z
          rw [upd_ne hyq, upd_ne hyq]
          exact fr4 y o (fr y o e hya hyl hyq) hya hyl2
    · rintro σ H' ⟨l, as, b, u, v, w', rfl, hT, hl, hR, hq', fr⟩
      refine ⟨_, rfl, k H' q ?_⟩
      rw [hq', hans, List.length_map, hparts.len]
      unfold toldTo
      rw [List.take_of_length_le (by unfold cs; rw [List.length_map]; exact Nat.le_refl _)]
      rfl
end
end TF
set_option Elab.async false
set_option maxRecDepth 100000
set_option maxHeartbeats 2000000
set_option linter.unusedVariables false
namespace TF
open PySem PySem.Spec PyProof.Rows L2
open PySem.W (Codec)
open Km479 (Treaty Book)
theorem intsOf_toNat : ∀ {l : List Int}, (∀ x ∈ l, 0 ≤ x) → intsOf (l.map Int.toNat) = l
  | [], _ => rfl
  | a :: l, h => by
    show ((a.toNat : Nat) : Int) :: intsOf (l.map Int.toNat) = a :: l
    rw [Int.toNat_of_nonneg (h a List.mem_cons_self), intsOf_toNat fun x hx => h x (List.mem_cons_of_mem _ hx)]
theorem all_mk {P : Program} {w : World} {K : PySem.W.Frag} {h : Heap} {mg : Str → Option Value} {fa : Addr} (X : K.In h) (G : h.Ns mainGlobals mg) (hfa : mg "answers" = some (.ref fa))
    {CDeed : Addr}
    {f_Deed_init : Addr} {od_Deed_init an_Deed_init : Option Addr} {sl_Deed_init : Array (Option Value)} {oc_Deed_init kV_Deed_init dc_Deed_init pm_Deed_init cd_Deed_init ct_Deed_init : Value}
    {CTreaty : Addr}
    {f_Treaty_init : Addr} {od_Treaty_init an_Treaty_init : Option Addr} {sl_Treaty_init : Array (Option Value)} {oc_Treaty_init kV_Treaty_init dc_Treaty_init pm_Treaty_init cd_Treaty_init ct_Treaty_init : Value}
    {f_terms_of : Addr} {od_terms_of an_terms_of : Option Addr} {sl_terms_of : Array (Option Value)} {oc_terms_of kV_terms_of dc_terms_of pm_terms_of cd_terms_of ct_terms_of : Value}
    {f_set_terms : Addr} {od_set_terms an_set_terms : Option Addr} {sl_set_terms : Array (Option Value)} {oc_set_terms kV_set_terms dc_set_terms pm_set_terms cd_set_terms ct_set_terms : Value}
    {f_set_number : Addr} {od_set_number an_set_number : Option Addr} {sl_set_number : Array (Option Value)} {oc_set_number kV_set_number dc_set_number pm_set_number cd_set_number ct_set_number : Value}
    {f_is_in_set : Addr} {od_is_in_set an_is_in_set : Option Addr} {sl_is_in_set : Array (Option Value)} {oc_is_in_set kV_is_in_set dc_is_in_set pm_is_in_set cd_is_in_set ct_is_in_set : Value}
    {f_last_day : Addr} {od_last_day an_last_day : Option Addr} {sl_last_day : Array (Option Value)} {oc_last_day kV_last_day dc_last_day pm_last_day cd_last_day ct_last_day : Value}
    {f_last_deeds : Addr} {od_last_deeds an_last_deeds : Option Addr} {sl_last_deeds : Array (Option Value)} {oc_last_deeds kV_last_deeds dc_last_deeds pm_last_deeds cd_last_deeds ct_last_deeds : Value}
    {f_out_day : Addr} {od_out_day an_out_day : Option Addr} {sl_out_day : Array (Option Value)} {oc_out_day kV_out_day dc_out_day pm_out_day cd_out_day ct_out_day : Value}
    {f_is_notice_running : Addr} {od_is_notice_running an_is_notice_running : Option Addr} {sl_is_notice_running : Array (Option Value)} {oc_is_notice_running kV_is_notice_running dc_is_notice_running pm_is_notice_running cd_is_notice_running ct_is_notice_running : Value}
    {f_counts_as_ratified : Addr} {od_counts_as_ratified an_counts_as_ratified : Option Addr} {sl_counts_as_ratified : Array (Option Value)} {oc_counts_as_ratified kV_counts_as_ratified dc_counts_as_ratified pm_counts_as_ratified cd_counts_as_ratified ct_counts_as_ratified : Value}
    {f_is_on_notice : Addr} {od_is_on_notice an_is_on_notice : Option Addr} {sl_is_on_notice : Array (Option Value)} {oc_is_on_notice kV_is_on_notice dc_is_on_notice pm_is_on_notice cd_is_on_notice ct_is_on_notice : Value}
    {f_has_ratified : Addr} {od_has_ratified an_has_ratified : Option Addr} {sl_has_ratified : Array (Option Value)} {oc_has_ratified kV_has_ratified dc_has_ratified pm_has_ratified cd_has_ratified ct_has_ratified : Value}
    {f_ratified_states : Addr} {od_ratified_states an_ratified_states : Option Addr} {sl_ratified_states : Array (Option Value)} {oc_ratified_states kV_ratified_states dc_ratified_states pm_ratified_states cd_ratified_states ct_ratified_states : Value}
    {f_enough_ratified : Addr} {od_enough_ratified an_enough_ratified : Option Addr} {sl_enough_ratified : Array (Option Value)} {oc_enough_ratified kV_enough_ratified dc_enough_ratified pm_enough_ratified cd_enough_ratified ct_enough_ratified : Value}
    {f_first_enough_day : Addr} {od_first_enough_day an_first_enough_day : Option Addr} {sl_first_enough_day : Array (Option Value)} {oc_first_enough_day kV_first_enough_day dc_first_enough_day pm_first_enough_day cd_first_enough_day ct_first_enough_day : Value}
    {f_force_day : Addr} {od_force_day an_force_day : Option Addr} {sl_force_day : Array (Option Value)} {oc_force_day kV_force_day dc_force_day pm_force_day cd_force_day ct_force_day : Value}
    {f_out_days : Addr} {od_out_days an_out_days : Option Addr} {sl_out_days : Array (Option Value)} {oc_out_days kV_out_days dc_out_days pm_out_days cd_out_days ct_out_days : Value}
    {f_end_day : Addr} {od_end_day an_end_day : Option Addr} {sl_end_day : Array (Option Value)} {oc_end_day kV_end_day dc_end_day pm_end_day cd_end_day ct_end_day : Value}
    {f_is_within : Addr} {od_is_within an_is_within : Option Addr} {sl_is_within : Array (Option Value)} {oc_is_within kV_is_within dc_is_within pm_is_within cd_is_within ct_is_within : Value}
    {f_bound_states : Addr} {od_bound_states an_bound_states : Option Addr} {sl_bound_states : Array (Option Value)} {oc_bound_states kV_bound_states dc_bound_states pm_bound_states cd_bound_states ct_bound_states : Value}
    {f_ratified_besides : Addr} {od_ratified_besides an_ratified_besides : Option Addr} {sl_ratified_besides : Array (Option Value)} {oc_ratified_besides kV_ratified_besides dc_ratified_besides pm_ratified_besides cd_ratified_besides ct_ratified_besides : Value}
    {f_fewest_lacking : Addr} {od_fewest_lacking an_fewest_lacking : Option Addr} {sl_fewest_lacking : Array (Option Value)} {oc_fewest_lacking kV_fewest_lacking dc_fewest_lacking pm_fewest_lacking cd_fewest_lacking ct_fewest_lacking : Value}
    {f_change_days : Addr} {od_change_days an_change_days : Option Addr} {sl_change_days : Array (Option Value)} {oc_change_days kV_change_days dc_change_days pm_change_days cd_change_days ct_change_days : Value}
    {f_bound_rows : Addr} {od_bound_rows an_bound_rows : Option Addr} {sl_bound_rows : Array (Option Value)} {oc_bound_rows kV_bound_rows dc_bound_rows pm_bound_rows cd_bound_rows ct_bound_rows : Value}
    {f_first_bound_day : Addr} {od_first_bound_day an_first_bound_day : Option Addr} {sl_first_bound_day : Array (Option Value)} {oc_first_bound_day kV_first_bound_day dc_first_bound_day pm_first_bound_day cd_first_bound_day ct_first_bound_day : Value}
    {f_first_free_day : Addr} {od_first_free_day an_first_free_day : Option Addr} {sl_first_free_day : Array (Option Value)} {oc_first_free_day kV_first_free_day dc_first_free_day pm_first_free_day cd_first_free_day ct_first_free_day : Value}
    {f_count_bound_days : Addr} {od_count_bound_days an_count_bound_days : Option Addr} {sl_count_bound_days : Array (Option Value)} {oc_count_bound_days kV_count_bound_days dc_count_bound_days pm_count_bound_days cd_count_bound_days ct_count_bound_days : Value}
    {f_fullest_row : Addr} {od_fullest_row an_fullest_row : Option Addr} {sl_fullest_row : Array (Option Value)} {oc_fullest_row kV_fullest_row dc_fullest_row pm_fullest_row cd_fullest_row ct_fullest_row : Value}
    {f_are_terms : Addr} {od_are_terms an_are_terms : Option Addr} {sl_are_terms : Array (Option Value)} {oc_are_terms kV_are_terms dc_are_terms pm_are_terms cd_are_terms ct_are_terms : Value}
    {f_day_refusal : Addr} {od_day_refusal an_day_refusal : Option Addr} {sl_day_refusal : Array (Option Value)} {oc_day_refusal kV_day_refusal dc_day_refusal pm_day_refusal cd_day_refusal ct_day_refusal : Value}
    {f_deed_refusal : Addr} {od_deed_refusal an_deed_refusal : Option Addr} {sl_deed_refusal : Array (Option Value)} {oc_deed_refusal kV_deed_refusal dc_deed_refusal pm_deed_refusal cd_deed_refusal ct_deed_refusal : Value}
    {f_would_refusal : Addr} {od_would_refusal an_would_refusal : Option Addr} {sl_would_refusal : Array (Option Value)} {oc_would_refusal kV_would_refusal dc_would_refusal pm_would_refusal cd_would_refusal ct_would_refusal : Value}
    {f_fo_day : Addr} {od_fo_day an_fo_day : Option Addr} {sl_fo_day : Array (Option Value)} {oc_fo_day kV_fo_day dc_fo_day pm_fo_day cd_fo_day ct_fo_day : Value}
    {f_split_calls : Addr} {od_split_calls an_split_calls : Option Addr} {sl_split_calls : Array (Option Value)} {oc_split_calls kV_split_calls dc_split_calls pm_split_calls cd_split_calls ct_split_calls : Value}
    {f_fo_start : Addr} {od_fo_start an_fo_start : Option Addr} {sl_fo_start : Array (Option Value)} {oc_fo_start kV_fo_start dc_fo_start pm_fo_start cd_fo_start ct_fo_start : Value}
    {f_fo_ratify : Addr} {od_fo_ratify an_fo_ratify : Option Addr} {sl_fo_ratify : Array (Option Value)} {oc_fo_ratify kV_fo_ratify dc_fo_ratify pm_fo_ratify cd_fo_ratify ct_fo_ratify : Value}
    {f_fo_notice : Addr} {od_fo_notice an_fo_notice : Option Addr} {sl_fo_notice : Array (Option Value)} {oc_fo_notice kV_fo_notice dc_fo_notice pm_fo_notice cd_fo_notice ct_fo_notice : Value}
    {f_fo_ends : Addr} {od_fo_ends an_fo_ends : Option Addr} {sl_fo_ends : Array (Option Value)} {oc_fo_ends kV_fo_ends dc_fo_ends pm_fo_ends cd_fo_ends ct_fo_ends : Value}
    {f_fo_bound : Addr} {od_fo_bound an_fo_bound : Option Addr} {sl_fo_bound : Array (Option Value)} {oc_fo_bound kV_fo_bound dc_fo_bound pm_fo_bound cd_fo_bound ct_fo_bound : Value}
    {f_fo_parties : Addr} {od_fo_parties an_fo_parties : Option Addr} {sl_fo_parties : Array (Option Value)} {oc_fo_parties kV_fo_parties dc_fo_parties pm_fo_parties cd_fo_parties ct_fo_parties : Value}
    {f_fo_ratified : Addr} {od_fo_ratified an_fo_ratified : Option Addr} {sl_fo_ratified : Array (Option Value)} {oc_fo_ratified kV_fo_ratified dc_fo_ratified pm_fo_ratified cd_fo_ratified ct_fo_ratified : Value}
    {f_fo_lacks : Addr} {od_fo_lacks an_fo_lacks : Option Addr} {sl_fo_lacks : Array (Option Value)} {oc_fo_lacks kV_fo_lacks dc_fo_lacks pm_fo_lacks cd_fo_lacks ct_fo_lacks : Value}
    {f_fo_since : Addr} {od_fo_since an_fo_since : Option Addr} {sl_fo_since : Array (Option Value)} {oc_fo_since kV_fo_since dc_fo_since pm_fo_since cd_fo_since ct_fo_since : Value}
    {f_fo_until : Addr} {od_fo_until an_fo_until : Option Addr} {sl_fo_until : Array (Option Value)} {oc_fo_until kV_fo_until dc_fo_until pm_fo_until cd_fo_until ct_fo_until : Value}
    {f_fo_would : Addr} {od_fo_would an_fo_would : Option Addr} {sl_fo_would : Array (Option Value)} {oc_fo_would kV_fo_would dc_fo_would pm_fo_would cd_fo_would ct_fo_would : Value}
    {f_fo_fewest : Addr} {od_fo_fewest an_fo_fewest : Option Addr} {sl_fo_fewest : Array (Option Value)} {oc_fo_fewest kV_fo_fewest dc_fo_fewest pm_fo_fewest cd_fo_fewest ct_fo_fewest : Value}
    {f_fo_days : Addr} {od_fo_days an_fo_days : Option Addr} {sl_fo_days : Array (Option Value)} {oc_fo_days kV_fo_days dc_fo_days pm_fo_days cd_fo_days ct_fo_days : Value}
    {f_fo_most : Addr} {od_fo_most an_fo_most : Option Addr} {sl_fo_most : Array (Option Value)} {oc_fo_most kV_fo_most dc_fo_most pm_fo_most cd_fo_most ct_fo_most : Value}
    {f_fo_event : Addr} {od_fo_event an_fo_event : Option Addr} {sl_fo_event : Array (Option Value)} {oc_fo_event kV_fo_event dc_fo_event pm_fo_event cd_fo_event ct_fo_event : Value}
    {f_fo_back : Addr} {od_fo_back an_fo_back : Option Addr} {sl_fo_back : Array (Option Value)} {oc_fo_back kV_fo_back dc_fo_back pm_fo_back cd_fo_back ct_fo_back : Value}
    {f_fo_state : Addr} {od_fo_state an_fo_state : Option Addr} {sl_fo_state : Array (Option Value)} {oc_fo_state kV_fo_state dc_fo_state pm_fo_state cd_fo_state ct_fo_state : Value}
    {f_answers : Addr} {od_answers an_answers : Option Addr} {sl_answers : Array (Option Value)} {oc_answers kV_answers dc_answers pm_answers cd_answers ct_answers : Value}
    {t_MOST_STATES : Tok}
    {t_MOST_WAIT : Tok}
    {t_MOST_NOTICE : Tok}
    {t_LATEST_DAY : Tok}
    {t_MOST_DEEDS : Tok}
    {t_NO_REFUSAL : Tok}
    {t_NONE_THERE : Tok}
    {t_NOT_RATIFIED : Tok}
    {t_LATER_DONE : Tok}
    {t_NOTICE_RUNS : Tok}
    {t_ALREADY_SO : Tok}
    {t_NOT_AS_TOLD : Tok}
    {t_FULL : Tok}
    {t_NO_DAY : Tok}
    {t_NO_END : Tok}
    {A_WIDTHS : Addr} {oc_WIDTHS : Value} {od_WIDTHS : Option Addr} {its_WIDTHS : Array Value} {n_WIDTHS : Nat} {sl_WIDTHS : Array (Option Value)}
    {A_CALLS : Addr} {oc_CALLS : Value} {od_CALLS : Option Addr} {its_CALLS : Array Value} {n_CALLS : Nat} {sl_CALLS : Array (Option Value)}
    (g_Deed : PySem.W.nsIn K mainGlobals "Deed" = some (some (.ref CDeed)))
    (a_Deed_init : PySem.W.findIn K (.ref CDeed) "__init__" = some (some (.ref f_Deed_init)))
    (l_Deed_init : K.lookup f_Deed_init = some ⟨oc_Deed_init, od_Deed_init, .func (PySem.W.fnOf "__init__" "Deed.__init__" (defArgs sDeedInit) (defBody sDeedInit) (defScope sDeedInit) .none kV_Deed_init dc_Deed_init pm_Deed_init an_Deed_init cd_Deed_init ct_Deed_init), sl_Deed_init⟩)
    (c_Deed_init : PySem.W.codeIn K cd_Deed_init "Deed.__init__" = true)
    (k_Deed_init : PySem.W.keepIn K (.ref f_Deed_init) = true)
    (i_Deed_init : PySem.W.isFn K (.ref f_Deed_init) = true)
    (pg_Deed : PySem.W.plainGet K CDeed Str.empty = true)
    (hd_Deed : PySem.W.hasDictIn K CDeed = true)
    (po_Deed : PySem.W.plainOver K CDeed = true)
    (sa_Deed : PySem.W.findIn K (.ref CDeed) "__setattr__" = some (some (.builtin "object.__setattr__")))
    (mk_Deed : PySem.W.makesIn K CDeed = true)
    (kc_Deed : PySem.W.keepIn K (.ref CDeed) = true)
    (n_Deed_state : PySem.W.findIn K (.ref CDeed) "state" = some none)
    (n_Deed_day : PySem.W.findIn K (.ref CDeed) "day" = some none)
    (n_Deed_ratified : PySem.W.findIn K (.ref CDeed) "ratified" = some none)
    (g_Treaty : PySem.W.nsIn K mainGlobals "Treaty" = some (some (.ref CTreaty)))
    (a_Treaty_init : PySem.W.findIn K (.ref CTreaty) "__init__" = some (some (.ref f_Treaty_init)))
    (l_Treaty_init : K.lookup f_Treaty_init = some ⟨oc_Treaty_init, od_Treaty_init, .func (PySem.W.fnOf "__init__" "Treaty.__init__" (defArgs sTreatyInit) (defBody sTreatyInit) (defScope sTreatyInit) .none kV_Treaty_init dc_Treaty_init pm_Treaty_init an_Treaty_init cd_Treaty_init ct_Treaty_init), sl_Treaty_init⟩)
    (c_Treaty_init : PySem.W.codeIn K cd_Treaty_init "Treaty.__init__" = true)
    (k_Treaty_init : PySem.W.keepIn K (.ref f_Treaty_init) = true)
    (i_Treaty_init : PySem.W.isFn K (.ref f_Treaty_init) = true)
    (pg_Treaty : PySem.W.plainGet K CTreaty Str.empty = true)
    (hd_Treaty : PySem.W.hasDictIn K CTreaty = true)
    (po_Treaty : PySem.W.plainOver K CTreaty = true)
    (sa_Treaty : PySem.W.findIn K (.ref CTreaty) "__setattr__" = some (some (.builtin "object.__setattr__")))
    (mk_Treaty : PySem.W.makesIn K CTreaty = true)
    (kc_Treaty : PySem.W.keepIn K (.ref CTreaty) = true)
    (n_Treaty_n : PySem.W.findIn K (.ref CTreaty) "n" = some none)
    (n_Treaty_need : PySem.W.findIn K (.ref CTreaty) "need" = some none)
    (n_Treaty_named : PySem.W.findIn K (.ref CTreaty) "named" = some none)
    (n_Treaty_wait : PySem.W.findIn K (.ref CTreaty) "wait" = some none)
    (n_Treaty_notice : PySem.W.findIn K (.ref CTreaty) "notice" = some none)
    (n_Treaty_floor : PySem.W.findIn K (.ref CTreaty) "floor" = some none)
    (n_Treaty_deeds : PySem.W.findIn K (.ref CTreaty) "deeds" = some none)
    (a_terms_of : PySem.W.nsIn K mainGlobals "terms_of" = some (some (.ref f_terms_of)))
    (l_terms_of : K.lookup f_terms_of = some ⟨oc_terms_of, od_terms_of, .func (PySem.W.fnOf "terms_of" "terms_of" (defArgs sTermsOf) (defBody sTermsOf) (defScope sTermsOf) .none kV_terms_of dc_terms_of pm_terms_of an_terms_of cd_terms_of ct_terms_of), sl_terms_of⟩)
    (c_terms_of : PySem.W.codeIn K cd_terms_of "terms_of" = true)
    (k_terms_of : PySem.W.keepIn K (.ref f_terms_of) = true)
    (a_set_terms : PySem.W.nsIn K mainGlobals "set_terms" = some (some (.ref f_set_terms)))
    (l_set_terms : K.lookup f_set_terms = some ⟨oc_set_terms, od_set_terms, .func (PySem.W.fnOf "set_terms" "set_terms" (defArgs sSetTerms) (defBody sSetTerms) (defScope sSetTerms) .none kV_set_terms dc_set_terms pm_set_terms an_set_terms cd_set_terms ct_set_terms), sl_set_terms⟩)
    (c_set_terms : PySem.W.codeIn K cd_set_terms "set_terms" = true)
    (k_set_terms : PySem.W.keepIn K (.ref f_set_terms) = true)
    (a_set_number : PySem.W.nsIn K mainGlobals "set_number" = some (some (.ref f_set_number)))
    (l_set_number : K.lookup f_set_number = some ⟨oc_set_number, od_set_number, .func (PySem.W.fnOf "set_number" "set_number" (defArgs sSetNumber) (defBody sSetNumber) (defScope sSetNumber) .none kV_set_number dc_set_number pm_set_number an_set_number cd_set_number ct_set_number), sl_set_number⟩)
    (c_set_number : PySem.W.codeIn K cd_set_number "set_number" = true)
    (k_set_number : PySem.W.keepIn K (.ref f_set_number) = true)
    (a_is_in_set : PySem.W.nsIn K mainGlobals "is_in_set" = some (some (.ref f_is_in_set)))
    (l_is_in_set : K.lookup f_is_in_set = some ⟨oc_is_in_set, od_is_in_set, .func (PySem.W.fnOf "is_in_set" "is_in_set" (defArgs sIsInSet) (defBody sIsInSet) (defScope sIsInSet) .none kV_is_in_set dc_is_in_set pm_is_in_set an_is_in_set cd_is_in_set ct_is_in_set), sl_is_in_set⟩)
    (c_is_in_set : PySem.W.codeIn K cd_is_in_set "is_in_set" = true)
    (k_is_in_set : PySem.W.keepIn K (.ref f_is_in_set) = true)
    (a_last_day : PySem.W.nsIn K mainGlobals "last_day" = some (some (.ref f_last_day)))
    (l_last_day : K.lookup f_last_day = some ⟨oc_last_day, od_last_day, .func (PySem.W.fnOf "last_day" "last_day" (defArgs sLastDay) (defBody sLastDay) (defScope sLastDay) .none kV_last_day dc_last_day pm_last_day an_last_day cd_last_day ct_last_day), sl_last_day⟩)
    (c_last_day : PySem.W.codeIn K cd_last_day "last_day" = true)
    (k_last_day : PySem.W.keepIn K (.ref f_last_day) = true)
    (a_last_deeds : PySem.W.nsIn K mainGlobals "last_deeds" = some (some (.ref f_last_deeds)))
    (l_last_deeds : K.lookup f_last_deeds = some ⟨oc_last_deeds, od_last_deeds, .func (PySem.W.fnOf "last_deeds" "last_deeds" (defArgs sLastDeeds) (defBody sLastDeeds) (defScope sLastDeeds) .none kV_last_deeds dc_last_deeds pm_last_deeds an_last_deeds cd_last_deeds ct_last_deeds), sl_last_deeds⟩)
    (c_last_deeds : PySem.W.codeIn K cd_last_deeds "last_deeds" = true)
    (k_last_deeds : PySem.W.keepIn K (.ref f_last_deeds) = true)
    (a_out_day : PySem.W.nsIn K mainGlobals "out_day" = some (some (.ref f_out_day)))
    (l_out_day : K.lookup f_out_day = some ⟨oc_out_day, od_out_day, .func (PySem.W.fnOf "out_day" "out_day" (defArgs sOutDay) (defBody sOutDay) (defScope sOutDay) .none kV_out_day dc_out_day pm_out_day an_out_day cd_out_day ct_out_day), sl_out_day⟩)
    (c_out_day : PySem.W.codeIn K cd_out_day "out_day" = true)
    (k_out_day : PySem.W.keepIn K (.ref f_out_day) = true)
    (a_is_notice_running : PySem.W.nsIn K mainGlobals "is_notice_running" = some (some (.ref f_is_notice_running)))
    (l_is_notice_running : K.lookup f_is_notice_running = some ⟨oc_is_notice_running, od_is_notice_running, .func (PySem.W.fnOf "is_notice_running" "is_notice_running" (defArgs sIsNoticeRunning) (defBody sIsNoticeRunning) (defScope sIsNoticeRunning) .none kV_is_notice_running dc_is_notice_running pm_is_notice_running an_is_notice_running cd_is_notice_running ct_is_notice_running), sl_is_notice_running⟩)
    (c_is_notice_running : PySem.W.codeIn K cd_is_notice_running "is_notice_running" = true)
    (k_is_notice_running : PySem.W.keepIn K (.ref f_is_notice_running) = true)
    (a_counts_as_ratified : PySem.W.nsIn K mainGlobals "counts_as_ratified" = some (some (.ref f_counts_as_ratified)))
    (l_counts_as_ratified : K.lookup f_counts_as_ratified = some ⟨oc_counts_as_ratified, od_counts_as_ratified, .func (PySem.W.fnOf "counts_as_ratified" "counts_as_ratified" (defArgs sCountsAsRatified) (defBody sCountsAsRatified) (defScope sCountsAsRatified) .none kV_counts_as_ratified dc_counts_as_ratified pm_counts_as_ratified an_counts_as_ratified cd_counts_as_ratified ct_counts_as_ratified), sl_counts_as_ratified⟩)
    (c_counts_as_ratified : PySem.W.codeIn K cd_counts_as_ratified "counts_as_ratified" = true)
    (k_counts_as_ratified : PySem.W.keepIn K (.ref f_counts_as_ratified) = true)
    (a_is_on_notice : PySem.W.nsIn K mainGlobals "is_on_notice" = some (some (.ref f_is_on_notice)))
    (l_is_on_notice : K.lookup f_is_on_notice = some ⟨oc_is_on_notice, od_is_on_notice, .func (PySem.W.fnOf "is_on_notice" "is_on_notice" (defArgs sIsOnNotice) (defBody sIsOnNotice) (defScope sIsOnNotice) .none kV_is_on_notice dc_is_on_notice pm_is_on_notice an_is_on_notice cd_is_on_notice ct_is_on_notice), sl_is_on_notice⟩)
    (c_is_on_notice : PySem.W.codeIn K cd_is_on_notice "is_on_notice" = true)
    (k_is_on_notice : PySem.W.keepIn K (.ref f_is_on_notice) = true)
    (a_has_ratified : PySem.W.nsIn K mainGlobals "has_ratified" = some (some (.ref f_has_ratified)))
    (l_has_ratified : K.lookup f_has_ratified = some ⟨oc_has_ratified, od_has_ratified, .func (PySem.W.fnOf "has_ratified" "has_ratified" (defArgs sHasRatified) (defBody sHasRatified) (defScope sHasRatified) .none kV_has_ratified dc_has_ratified pm_has_ratified an_has_ratified cd_has_ratified ct_has_ratified), sl_has_ratified⟩)
    (c_has_ratified : PySem.W.codeIn K cd_has_ratified "has_ratified" = true)
    (k_has_ratified : PySem.W.keepIn K (.ref f_has_ratified) = true)
    (a_ratified_states : PySem.W.nsIn K mainGlobals "ratified_states" = some (some (.ref f_ratified_states)))
    (l_ratified_states : K.lookup f_ratified_states = some ⟨oc_ratified_states, od_ratified_states, .func (PySem.W.fnOf "ratified_states" "ratified_states" (defArgs sRatifiedStates) (defBody sRatifiedStates) (defScope sRatifiedStates) .none kV_ratified_states dc_ratified_states pm_ratified_states an_ratified_states cd_ratified_states ct_ratified_states), sl_ratified_states⟩)
    (c_ratified_states : PySem.W.codeIn K cd_ratified_states "ratified_states" = true)
    (k_ratified_states : PySem.W.keepIn K (.ref f_ratified_states) = true)
    (a_enough_ratified : PySem.W.nsIn K mainGlobals "enough_ratified" = some (some (.ref f_enough_ratified)))
    (l_enough_ratified : K.lookup f_enough_ratified = some ⟨oc_enough_ratified, od_enough_ratified, .func (PySem.W.fnOf "enough_ratified" "enough_ratified" (defArgs sEnoughRatified) (defBody sEnoughRatified) (defScope sEnoughRatified) .none kV_enough_ratified dc_enough_ratified pm_enough_ratified an_enough_ratified cd_enough_ratified ct_enough_ratified), sl_enough_ratified⟩)
    (c_enough_ratified : PySem.W.codeIn K cd_enough_ratified "enough_ratified" = true)
    (k_enough_ratified : PySem.W.keepIn K (.ref f_enough_ratified) = true)
    (a_first_enough_day : PySem.W.nsIn K mainGlobals "first_enough_day" = some (some (.ref f_first_enough_day)))
    (l_first_enough_day : K.lookup f_first_enough_day = some ⟨oc_first_enough_day, od_first_enough_day, .func (PySem.W.fnOf "first_enough_day" "first_enough_day" (defArgs sFirstEnoughDay) (defBody sFirstEnoughDay) (defScope sFirstEnoughDay) .none kV_first_enough_day dc_first_enough_day pm_first_enough_day an_first_enough_day cd_first_enough_day ct_first_enough_day), sl_first_enough_day⟩)
    (c_first_enough_day : PySem.W.codeIn K cd_first_enough_day "first_enough_day" = true)
    (k_first_enough_day : PySem.W.keepIn K (.ref f_first_enough_day) = true)
    (a_force_day : PySem.W.nsIn K mainGlobals "force_day" = some (some (.ref f_force_day)))
    (l_force_day : K.lookup f_force_day = some ⟨oc_force_day, od_force_day, .func (PySem.W.fnOf "force_day" "force_day" (defArgs sForceDay) (defBody sForceDay) (defScope sForceDay) .none kV_force_day dc_force_day pm_force_day an_force_day cd_force_day ct_force_day), sl_force_day⟩)
    (c_force_day : PySem.W.codeIn K cd_force_day "force_day" = true)
    (k_force_day : PySem.W.keepIn K (.ref f_force_day) = true)
    (a_out_days : PySem.W.nsIn K mainGlobals "out_days" = some (some (.ref f_out_days)))
    (l_out_days : K.lookup f_out_days = some ⟨oc_out_days, od_out_days, .func (PySem.W.fnOf "out_days" "out_days" (defArgs sOutDays) (defBody sOutDays) (defScope sOutDays) .none kV_out_days dc_out_days pm_out_days an_out_days cd_out_days ct_out_days), sl_out_days⟩)
    (c_out_days : PySem.W.codeIn K cd_out_days "out_days" = true)
    (k_out_days : PySem.W.keepIn K (.ref f_out_days) = true)
    (a_end_day : PySem.W.nsIn K mainGlobals "end_day" = some (some (.ref f_end_day)))
    (l_end_day : K.lookup f_end_day = some ⟨oc_end_day, od_end_day, .func (PySem.W.fnOf "end_day" "end_day" (defArgs sEndDay) (defBody sEndDay) (defScope sEndDay) .none kV_end_day dc_end_day pm_end_day an_end_day cd_end_day ct_end_day), sl_end_day⟩)
    (c_end_day : PySem.W.codeIn K cd_end_day "end_day" = true)
    (k_end_day : PySem.W.keepIn K (.ref f_end_day) = true)
    (a_is_within : PySem.W.nsIn K mainGlobals "is_within" = some (some (.ref f_is_within)))
    (l_is_within : K.lookup f_is_within = some ⟨oc_is_within, od_is_within, .func (PySem.W.fnOf "is_within" "is_within" (defArgs sIsWithin) (defBody sIsWithin) (defScope sIsWithin) .none kV_is_within dc_is_within pm_is_within an_is_within cd_is_within ct_is_within), sl_is_within⟩)
    (c_is_within : PySem.W.codeIn K cd_is_within "is_within" = true)
    (k_is_within : PySem.W.keepIn K (.ref f_is_within) = true)
    (a_bound_states : PySem.W.nsIn K mainGlobals "bound_states" = some (some (.ref f_bound_states)))
    (l_bound_states : K.lookup f_bound_states = some ⟨oc_bound_states, od_bound_states, .func (PySem.W.fnOf "bound_states" "bound_states" (defArgs sBoundStates) (defBody sBoundStates) (defScope sBoundStates) .none kV_bound_states dc_bound_states pm_bound_states an_bound_states cd_bound_states ct_bound_states), sl_bound_states⟩)
    (c_bound_states : PySem.W.codeIn K cd_bound_states "bound_states" = true)
    (k_bound_states : PySem.W.keepIn K (.ref f_bound_states) = true)
    (a_ratified_besides : PySem.W.nsIn K mainGlobals "ratified_besides" = some (some (.ref f_ratified_besides)))
    (l_ratified_besides : K.lookup f_ratified_besides = some ⟨oc_ratified_besides, od_ratified_besides, .func (PySem.W.fnOf "ratified_besides" "ratified_besides" (defArgs sRatifiedBesides) (defBody sRatifiedBesides) (defScope sRatifiedBesides) .none kV_ratified_besides dc_ratified_besides pm_ratified_besides an_ratified_besides cd_ratified_besides ct_ratified_besides), sl_ratified_besides⟩)
    (c_ratified_besides : PySem.W.codeIn K cd_ratified_besides "ratified_besides" = true)
    (k_ratified_besides : PySem.W.keepIn K (.ref f_ratified_besides) = true)
    (a_fewest_lacking : PySem.W.nsIn K mainGlobals "fewest_lacking" = some (some (.ref f_fewest_lacking)))
    (l_fewest_lacking : K.lookup f_fewest_lacking = some ⟨oc_fewest_lacking, od_fewest_lacking, .func (PySem.W.fnOf "fewest_lacking" "fewest_lacking" (defArgs sFewestLacking) (defBody sFewestLacking) (defScope sFewestLacking) .none kV_fewest_lacking dc_fewest_lacking pm_fewest_lacking an_fewest_lacking cd_fewest_lacking ct_fewest_lacking), sl_fewest_lacking⟩)
    (c_fewest_lacking : PySem.W.codeIn K cd_fewest_lacking "fewest_lacking" = true)
    (k_fewest_lacking : PySem.W.keepIn K (.ref f_fewest_lacking) = true)
    (a_change_days : PySem.W.nsIn K mainGlobals "change_days" = some (some (.ref f_change_days)))
    (l_change_days : K.lookup f_change_days = some ⟨oc_change_days, od_change_days, .func (PySem.W.fnOf "change_days" "change_days" (defArgs sChangeDays) (defBody sChangeDays) (defScope sChangeDays) .none kV_change_days dc_change_days pm_change_days an_change_days cd_change_days ct_change_days), sl_change_days⟩)
    (c_change_days : PySem.W.codeIn K cd_change_days "change_days" = true)
    (k_change_days : PySem.W.keepIn K (.ref f_change_days) = true)
    (a_bound_rows : PySem.W.nsIn K mainGlobals "bound_rows" = some (some (.ref f_bound_rows)))
    (l_bound_rows : K.lookup f_bound_rows = some ⟨oc_bound_rows, od_bound_rows, .func (PySem.W.fnOf "bound_rows" "bound_rows" (defArgs sBoundRows) (defBody sBoundRows) (defScope sBoundRows) .none kV_bound_rows dc_bound_rows pm_bound_rows an_bound_rows cd_bound_rows ct_bound_rows), sl_bound_rows⟩)
    (c_bound_rows : PySem.W.codeIn K cd_bound_rows "bound_rows" = true)
    (k_bound_rows : PySem.W.keepIn K (.ref f_bound_rows) = true)
    (a_first_bound_day : PySem.W.nsIn K mainGlobals "first_bound_day" = some (some (.ref f_first_bound_day)))
    (l_first_bound_day : K.lookup f_first_bound_day = some ⟨oc_first_bound_day, od_first_bound_day, .func (PySem.W.fnOf "first_bound_day" "first_bound_day" (defArgs sFirstBoundDay) (defBody sFirstBoundDay) (defScope sFirstBoundDay) .none kV_first_bound_day dc_first_bound_day pm_first_bound_day an_first_bound_day cd_first_bound_day ct_first_bound_day), sl_first_bound_day⟩)
    (c_first_bound_day : PySem.W.codeIn K cd_first_bound_day "first_bound_day" = true)
    (k_first_bound_day : PySem.W.keepIn K (.ref f_first_bound_day) = true)
    (a_first_free_day : PySem.W.nsIn K mainGlobals "first_free_day" = some (some (.ref f_first_free_day)))
    (l_first_free_day : K.lookup f_first_free_day = some ⟨oc_first_free_day, od_first_free_day, .func (PySem.W.fnOf "first_free_day" "first_free_day" (defArgs sFirstFreeDay) (defBody sFirstFreeDay) (defScope sFirstFreeDay) .none kV_first_free_day dc_first_free_day pm_first_free_day an_first_free_day cd_first_free_day ct_first_free_day), sl_first_free_day⟩)
    (c_first_free_day : PySem.W.codeIn K cd_first_free_day "first_free_day" = true)
    (k_first_free_day : PySem.W.keepIn K (.ref f_first_free_day) = true)
    (a_count_bound_days : PySem.W.nsIn K mainGlobals "count_bound_days" = some (some (.ref f_count_bound_days)))
    (l_count_bound_days : K.lookup f_count_bound_days = some ⟨oc_count_bound_days, od_count_bound_days, .func (PySem.W.fnOf "count_bound_days" "count_bound_days" (defArgs sCountBoundDays) (defBody sCountBoundDays) (defScope sCountBoundDays) .none kV_count_bound_days dc_count_bound_days pm_count_bound_days an_count_bound_days cd_count_bound_days ct_count_bound_days), sl_count_bound_days⟩)
    (c_count_bound_days : PySem.W.codeIn K cd_count_bound_days "count_bound_days" = true)
    (k_count_bound_days : PySem.W.keepIn K (.ref f_count_bound_days) = true)
    (a_fullest_row : PySem.W.nsIn K mainGlobals "fullest_row" = some (some (.ref f_fullest_row)))
    (l_fullest_row : K.lookup f_fullest_row = some ⟨oc_fullest_row, od_fullest_row, .func (PySem.W.fnOf "fullest_row" "fullest_row" (defArgs sFullestRow) (defBody sFullestRow) (defScope sFullestRow) .none kV_fullest_row dc_fullest_row pm_fullest_row an_fullest_row cd_fullest_row ct_fullest_row), sl_fullest_row⟩)
    (c_fullest_row : PySem.W.codeIn K cd_fullest_row "fullest_row" = true)
    (k_fullest_row : PySem.W.keepIn K (.ref f_fullest_row) = true)
    (a_are_terms : PySem.W.nsIn K mainGlobals "are_terms" = some (some (.ref f_are_terms)))
    (l_are_terms : K.lookup f_are_terms = some ⟨oc_are_terms, od_are_terms, .func (PySem.W.fnOf "are_terms" "are_terms" (defArgs sAreTerms) (defBody sAreTerms) (defScope sAreTerms) .none kV_are_terms dc_are_terms pm_are_terms an_are_terms cd_are_terms ct_are_terms), sl_are_terms⟩)
    (c_are_terms : PySem.W.codeIn K cd_are_terms "are_terms" = true)
    (k_are_terms : PySem.W.keepIn K (.ref f_are_terms) = true)
    (a_day_refusal : PySem.W.nsIn K mainGlobals "day_refusal" = some (some (.ref f_day_refusal)))
    (l_day_refusal : K.lookup f_day_refusal = some ⟨oc_day_refusal, od_day_refusal, .func (PySem.W.fnOf "day_refusal" "day_refusal" (defArgs sDayRefusal) (defBody sDayRefusal) (defScope sDayRefusal) .none kV_day_refusal dc_day_refusal pm_day_refusal an_day_refusal cd_day_refusal ct_day_refusal), sl_day_refusal⟩)
    (c_day_refusal : PySem.W.codeIn K cd_day_refusal "day_refusal" = true)
    (k_day_refusal : PySem.W.keepIn K (.ref f_day_refusal) = true)
    (a_deed_refusal : PySem.W.nsIn K mainGlobals "deed_refusal" = some (some (.ref f_deed_refusal)))
    (l_deed_refusal : K.lookup f_deed_refusal = some ⟨oc_deed_refusal, od_deed_refusal, .func (PySem.W.fnOf "deed_refusal" "deed_refusal" (defArgs sDeedRefusal) (defBody sDeedRefusal) (defScope sDeedRefusal) .none kV_deed_refusal dc_deed_refusal pm_deed_refusal an_deed_refusal cd_deed_refusal ct_deed_refusal), sl_deed_refusal⟩)
    (c_deed_refusal : PySem.W.codeIn K cd_deed_refusal "deed_refusal" = true)
    (k_deed_refusal : PySem.W.keepIn K (.ref f_deed_refusal) = true)
    (a_would_refusal : PySem.W.nsIn K mainGlobals "would_refusal" = some (some (.ref f_would_refusal)))
    (l_would_refusal : K.lookup f_would_refusal = some ⟨oc_would_refusal, od_would_refusal, .func (PySem.W.fnOf "would_refusal" "would_refusal" (defArgs sWouldRefusal) (defBody sWouldRefusal) (defScope sWouldRefusal) .none kV_would_refusal dc_would_refusal pm_would_refusal an_would_refusal cd_would_refusal ct_would_refusal), sl_would_refusal⟩)
    (c_would_refusal : PySem.W.codeIn K cd_would_refusal "would_refusal" = true)
    (k_would_refusal : PySem.W.keepIn K (.ref f_would_refusal) = true)
    (a_fo_day : PySem.W.nsIn K mainGlobals "fo_day" = some (some (.ref f_fo_day)))
    (l_fo_day : K.lookup f_fo_day = some ⟨oc_fo_day, od_fo_day, .func (PySem.W.fnOf "fo_day" "fo_day" (defArgs sFoDay) (defBody sFoDay) (defScope sFoDay) .none kV_fo_day dc_fo_day pm_fo_day an_fo_day cd_fo_day ct_fo_day), sl_fo_day⟩)
    (c_fo_day : PySem.W.codeIn K cd_fo_day "fo_day" = true)
    (k_fo_day : PySem.W.keepIn K (.ref f_fo_day) = true)
    (a_split_calls : PySem.W.nsIn K mainGlobals "split_calls" = some (some (.ref f_split_calls)))
    (l_split_calls : K.lookup f_split_calls = some ⟨oc_split_calls, od_split_calls, .func (PySem.W.fnOf "split_calls" "split_calls" (defArgs sSplitCalls) (defBody sSplitCalls) (defScope sSplitCalls) .none kV_split_calls dc_split_calls pm_split_calls an_split_calls cd_split_calls ct_split_calls), sl_split_calls⟩)
    (c_split_calls : PySem.W.codeIn K cd_split_calls "split_calls" = true)
    (k_split_calls : PySem.W.keepIn K (.ref f_split_calls) = true)
    (a_fo_start : PySem.W.nsIn K mainGlobals "fo_start" = some (some (.ref f_fo_start)))
    (l_fo_start : K.lookup f_fo_start = some ⟨oc_fo_start, od_fo_start, .func (PySem.W.fnOf "fo_start" "fo_start" (defArgs sFoStart) (defBody sFoStart) (defScope sFoStart) .none kV_fo_start dc_fo_start pm_fo_start an_fo_start cd_fo_start ct_fo_start), sl_fo_start⟩)
    (c_fo_start : PySem.W.codeIn K cd_fo_start "fo_start" = true)
    (k_fo_start : PySem.W.keepIn K (.ref f_fo_start) = true)
    (a_fo_ratify : PySem.W.nsIn K mainGlobals "fo_ratify" = some (some (.ref f_fo_ratify)))
    (l_fo_ratify : K.lookup f_fo_ratify = some ⟨oc_fo_ratify, od_fo_ratify, .func (PySem.W.fnOf "fo_ratify" "fo_ratify" (defArgs sFoRatify) (defBody sFoRatify) (defScope sFoRatify) .none kV_fo_ratify dc_fo_ratify pm_fo_ratify an_fo_ratify cd_fo_ratify ct_fo_ratify), sl_fo_ratify⟩)
    (c_fo_ratify : PySem.W.codeIn K cd_fo_ratify "fo_ratify" = true)
    (k_fo_ratify : PySem.W.keepIn K (.ref f_fo_ratify) = true)
    (a_fo_notice : PySem.W.nsIn K mainGlobals "fo_notice" = some (some (.ref f_fo_notice)))
    (l_fo_notice : K.lookup f_fo_notice = some ⟨oc_fo_notice, od_fo_notice, .func (PySem.W.fnOf "fo_notice" "fo_notice" (defArgs sFoNotice) (defBody sFoNotice) (defScope sFoNotice) .none kV_fo_notice dc_fo_notice pm_fo_notice an_fo_notice cd_fo_notice ct_fo_notice), sl_fo_notice⟩)
    (c_fo_notice : PySem.W.codeIn K cd_fo_notice "fo_notice" = true)
    (k_fo_notice : PySem.W.keepIn K (.ref f_fo_notice) = true)
    (a_fo_ends : PySem.W.nsIn K mainGlobals "fo_ends" = some (some (.ref f_fo_ends)))
    (l_fo_ends : K.lookup f_fo_ends = some ⟨oc_fo_ends, od_fo_ends, .func (PySem.W.fnOf "fo_ends" "fo_ends" (defArgs sFoEnds) (defBody sFoEnds) (defScope sFoEnds) .none kV_fo_ends dc_fo_ends pm_fo_ends an_fo_ends cd_fo_ends ct_fo_ends), sl_fo_ends⟩)
    (c_fo_ends : PySem.W.codeIn K cd_fo_ends "fo_ends" = true)
    (k_fo_ends : PySem.W.keepIn K (.ref f_fo_ends) = true)
    (a_fo_bound : PySem.W.nsIn K mainGlobals "fo_bound" = some (some (.ref f_fo_bound)))
    (l_fo_bound : K.lookup f_fo_bound = some ⟨oc_fo_bound, od_fo_bound, .func (PySem.W.fnOf "fo_bound" "fo_bound" (defArgs sFoBound) (defBody sFoBound) (defScope sFoBound) .none kV_fo_bound dc_fo_bound pm_fo_bound an_fo_bound cd_fo_bound ct_fo_bound), sl_fo_bound⟩)
    (c_fo_bound : PySem.W.codeIn K cd_fo_bound "fo_bound" = true)
    (k_fo_bound : PySem.W.keepIn K (.ref f_fo_bound) = true)
    (a_fo_parties : PySem.W.nsIn K mainGlobals "fo_parties" = some (some (.ref f_fo_parties)))
    (l_fo_parties : K.lookup f_fo_parties = some ⟨oc_fo_parties, od_fo_parties, .func (PySem.W.fnOf "fo_parties" "fo_parties" (defArgs sFoParties) (defBody sFoParties) (defScope sFoParties) .none kV_fo_parties dc_fo_parties pm_fo_parties an_fo_parties cd_fo_parties ct_fo_parties), sl_fo_parties⟩)
    (c_fo_parties : PySem.W.codeIn K cd_fo_parties "fo_parties" = true)
    (k_fo_parties : PySem.W.keepIn K (.ref f_fo_parties) = true)
    (a_fo_ratified : PySem.W.nsIn K mainGlobals "fo_ratified" = some (some (.ref f_fo_ratified)))
    (l_fo_ratified : K.lookup f_fo_ratified = some ⟨oc_fo_ratified, od_fo_ratified, .func (PySem.W.fnOf "fo_ratified" "fo_ratified" (defArgs sFoRatified) (defBody sFoRatified) (defScope sFoRatified) .none kV_fo_ratified dc_fo_ratified pm_fo_ratified an_fo_ratified cd_fo_ratified ct_fo_ratified), sl_fo_ratified⟩)
    (c_fo_ratified : PySem.W.codeIn K cd_fo_ratified "fo_ratified" = true)
    (k_fo_ratified : PySem.W.keepIn K (.ref f_fo_ratified) = true)
    (a_fo_lacks : PySem.W.nsIn K mainGlobals "fo_lacks" = some (some (.ref f_fo_lacks)))
    (l_fo_lacks : K.lookup f_fo_lacks = some ⟨oc_fo_lacks, od_fo_lacks, .func (PySem.W.fnOf "fo_lacks" "fo_lacks" (defArgs sFoLacks) (defBody sFoLacks) (defScope sFoLacks) .none kV_fo_lacks dc_fo_lacks pm_fo_lacks an_fo_lacks cd_fo_lacks ct_fo_lacks), sl_fo_lacks⟩)
    (c_fo_lacks : PySem.W.codeIn K cd_fo_lacks "fo_lacks" = true)
    (k_fo_lacks : PySem.W.keepIn K (.ref f_fo_lacks) = true)
    (a_fo_since : PySem.W.nsIn K mainGlobals "fo_since" = some (some (.ref f_fo_since)))
    (l_fo_since : K.lookup f_fo_since = some ⟨oc_fo_since, od_fo_since, .func (PySem.W.fnOf "fo_since" "fo_since" (defArgs sFoSince) (defBody sFoSince) (defScope sFoSince) .none kV_fo_since dc_fo_since pm_fo_since an_fo_since cd_fo_since ct_fo_since), sl_fo_since⟩)
    (c_fo_since : PySem.W.codeIn K cd_fo_since "fo_since" = true)
    (k_fo_since : PySem.W.keepIn K (.ref f_fo_since) = true)
    (a_fo_until : PySem.W.nsIn K mainGlobals "fo_until" = some (some (.ref f_fo_until)))
    (l_fo_until : K.lookup f_fo_until = some ⟨oc_fo_until, od_fo_until, .func (PySem.W.fnOf "fo_until" "fo_until" (defArgs sFoUntil) (defBody sFoUntil) (defScope sFoUntil) .none kV_fo_until dc_fo_until pm_fo_until an_fo_until cd_fo_until ct_fo_until), sl_fo_until⟩)
    (c_fo_until : PySem.W.codeIn K cd_fo_until "fo_until" = true)
    (k_fo_until : PySem.W.keepIn K (.ref f_fo_until) = true)
    (a_fo_would : PySem.W.nsIn K mainGlobals "fo_would" = some (some (.ref f_fo_would)))
    (l_fo_would : K.lookup f_fo_would = some ⟨oc_fo_would, od_fo_would, .func (PySem.W.fnOf "fo_would" "fo_would" (defArgs sFoWould) (defBody sFoWould) (defScope sFoWould) .none kV_fo_would dc_fo_would pm_fo_would an_fo_would cd_fo_would ct_fo_would), sl_fo_would⟩)
    (c_fo_would : PySem.W.codeIn K cd_fo_would "fo_would" = true)
    (k_fo_would : PySem.W.keepIn K (.ref f_fo_would) = true)
    (a_fo_fewest : PySem.W.nsIn K mainGlobals "fo_fewest" = some (some (.ref f_fo_fewest)))
    (l_fo_fewest : K.lookup f_fo_fewest = some ⟨oc_fo_fewest, od_fo_fewest, .func (PySem.W.fnOf "fo_fewest" "fo_fewest" (defArgs sFoFewest) (defBody sFoFewest) (defScope sFoFewest) .none kV_fo_fewest dc_fo_fewest pm_fo_fewest an_fo_fewest cd_fo_fewest ct_fo_fewest), sl_fo_fewest⟩)
    (c_fo_fewest : PySem.W.codeIn K cd_fo_fewest "fo_fewest" = true)
    (k_fo_fewest : PySem.W.keepIn K (.ref f_fo_fewest) = true)
    (a_fo_days : PySem.W.nsIn K mainGlobals "fo_days" = some (some (.ref f_fo_days)))
    (l_fo_days : K.lookup f_fo_days = some ⟨oc_fo_days, od_fo_days, .func (PySem.W.fnOf "fo_days" "fo_days" (defArgs sFoDays) (defBody sFoDays) (defScope sFoDays) .none kV_fo_days dc_fo_days pm_fo_days an_fo_days cd_fo_days ct_fo_days), sl_fo_days⟩)
    (c_fo_days : PySem.W.codeIn K cd_fo_days "fo_days" = true)
    (k_fo_days : PySem.W.keepIn K (.ref f_fo_days) = true)
    (a_fo_most : PySem.W.nsIn K mainGlobals "fo_most" = some (some (.ref f_fo_most)))
    (l_fo_most : K.lookup f_fo_most = some ⟨oc_fo_most, od_fo_most, .func (PySem.W.fnOf "fo_most" "fo_most" (defArgs sFoMost) (defBody sFoMost) (defScope sFoMost) .none kV_fo_most dc_fo_most pm_fo_most an_fo_most cd_fo_most ct_fo_most), sl_fo_most⟩)
    (c_fo_most : PySem.W.codeIn K cd_fo_most "fo_most" = true)
    (k_fo_most : PySem.W.keepIn K (.ref f_fo_most) = true)
    (a_fo_event : PySem.W.nsIn K mainGlobals "fo_event" = some (some (.ref f_fo_event)))
    (l_fo_event : K.lookup f_fo_event = some ⟨oc_fo_event, od_fo_event, .func (PySem.W.fnOf "fo_event" "fo_event" (defArgs sFoEvent) (defBody sFoEvent) (defScope sFoEvent) .none kV_fo_event dc_fo_event pm_fo_event an_fo_event cd_fo_event ct_fo_event), sl_fo_event⟩)
    (c_fo_event : PySem.W.codeIn K cd_fo_event "fo_event" = true)
    (k_fo_event : PySem.W.keepIn K (.ref f_fo_event) = true)
    (a_fo_back : PySem.W.nsIn K mainGlobals "fo_back" = some (some (.ref f_fo_back)))
    (l_fo_back : K.lookup f_fo_back = some ⟨oc_fo_back, od_fo_back, .func (PySem.W.fnOf "fo_back" "fo_back" (defArgs sFoBack) (defBody sFoBack) (defScope sFoBack) .none kV_fo_back dc_fo_back pm_fo_back an_fo_back cd_fo_back ct_fo_back), sl_fo_back⟩)
    (c_fo_back : PySem.W.codeIn K cd_fo_back "fo_back" = true)
    (k_fo_back : PySem.W.keepIn K (.ref f_fo_back) = true)
    (a_fo_state : PySem.W.nsIn K mainGlobals "fo_state" = some (some (.ref f_fo_state)))
    (l_fo_state : K.lookup f_fo_state = some ⟨oc_fo_state, od_fo_state, .func (PySem.W.fnOf "fo_state" "fo_state" (defArgs sFoState) (defBody sFoState) (defScope sFoState) .none kV_fo_state dc_fo_state pm_fo_state an_fo_state cd_fo_state ct_fo_state), sl_fo_state⟩)
    (c_fo_state : PySem.W.codeIn K cd_fo_state "fo_state" = true)
    (k_fo_state : PySem.W.keepIn K (.ref f_fo_state) = true)
    (a_answers : PySem.W.nsIn K mainGlobals "answers" = some (some (.ref f_answers)))
    (l_answers : K.lookup f_answers = some ⟨oc_answers, od_answers, .func (PySem.W.fnOf "answers" "answers" (defArgs sAnswers) (defBody sAnswers) (defScope sAnswers) .none kV_answers dc_answers pm_answers an_answers cd_answers ct_answers), sl_answers⟩)
    (c_answers : PySem.W.codeIn K cd_answers "answers" = true)
    (k_answers : PySem.W.keepIn K (.ref f_answers) = true)
    (b_len : PySem.W.nsIn K mainGlobals "len" = some none)
    (b_range : PySem.W.nsIn K mainGlobals "range" = some none)
    (b_sum : PySem.W.nsIn K mainGlobals "sum" = some none)
    (b_sorted : PySem.W.nsIn K mainGlobals "sorted" = some none)
    (b_max : PySem.W.nsIn K mainGlobals "max" = some none)
    (b_min : PySem.W.nsIn K mainGlobals "min" = some none)
    (b_any : PySem.W.nsIn K mainGlobals "any" = some none)
    (b_enumerate : PySem.W.nsIn K mainGlobals "enumerate" = some none)
    (v_MOST_STATES : PySem.W.nsIn K mainGlobals "MOST_STATES" = some (some (.int (10) t_MOST_STATES)))
    (v_MOST_WAIT : PySem.W.nsIn K mainGlobals "MOST_WAIT" = some (some (.int (365) t_MOST_WAIT)))
    (v_MOST_NOTICE : PySem.W.nsIn K mainGlobals "MOST_NOTICE" = some (some (.int (365) t_MOST_NOTICE)))
    (v_LATEST_DAY : PySem.W.nsIn K mainGlobals "LATEST_DAY" = some (some (.int (10000) t_LATEST_DAY)))
    (v_MOST_DEEDS : PySem.W.nsIn K mainGlobals "MOST_DEEDS" = some (some (.int (24) t_MOST_DEEDS)))
    (v_NO_REFUSAL : PySem.W.nsIn K mainGlobals "NO_REFUSAL" = some (some (.int (0) t_NO_REFUSAL)))
    (v_NONE_THERE : PySem.W.nsIn K mainGlobals "NONE_THERE" = some (some (.int (-2) t_NONE_THERE)))
    (v_NOT_RATIFIED : PySem.W.nsIn K mainGlobals "NOT_RATIFIED" = some (some (.int (-6) t_NOT_RATIFIED)))
    (v_LATER_DONE : PySem.W.nsIn K mainGlobals "LATER_DONE" = some (some (.int (-13) t_LATER_DONE)))
    (v_NOTICE_RUNS : PySem.W.nsIn K mainGlobals "NOTICE_RUNS" = some (some (.int (-16) t_NOTICE_RUNS)))
    (v_ALREADY_SO : PySem.W.nsIn K mainGlobals "ALREADY_SO" = some (some (.int (-17) t_ALREADY_SO)))
    (v_NOT_AS_TOLD : PySem.W.nsIn K mainGlobals "NOT_AS_TOLD" = some (some (.int (-22) t_NOT_AS_TOLD)))
    (v_FULL : PySem.W.nsIn K mainGlobals "FULL" = some (some (.int (-28) t_FULL)))
    (v_NO_DAY : PySem.W.nsIn K mainGlobals "NO_DAY" = some (some (.int (-33) t_NO_DAY)))
    (v_NO_END : PySem.W.nsIn K mainGlobals "NO_END" = some (some (.int (-61) t_NO_END)))
    (g_WIDTHS : PySem.W.nsIn K mainGlobals "WIDTHS" = some (some (.ref A_WIDTHS)))
    (l_WIDTHS : K.lookup A_WIDTHS = some ⟨oc_WIDTHS, od_WIDTHS, .seq its_WIDTHS n_WIDTHS, sl_WIDTHS⟩)
    (oc_WIDTHS_is : oc_WIDTHS = .type "tuple")
    (its_WIDTHS_size : its_WIDTHS.size ≤ sizeLine)
    (its_WIDTHS_are : Vals (nsV widths) its_WIDTHS.toList)
    (g_CALLS : PySem.W.nsIn K mainGlobals "CALLS" = some (some (.ref A_CALLS)))
    (l_CALLS : K.lookup A_CALLS = some ⟨oc_CALLS, od_CALLS, .seq its_CALLS n_CALLS, sl_CALLS⟩)
    (oc_CALLS_is : oc_CALLS = .type "tuple")
    (its_CALLS_size : its_CALLS.size ≤ sizeLine)
    (its_CALLS_are : Vals ([f_fo_start, f_fo_ratify, f_fo_notice, f_fo_day, f_fo_ends, f_fo_bound, f_fo_parties, f_fo_ratified, f_fo_lacks, f_fo_since, f_fo_until, f_fo_would, f_fo_fewest, f_fo_days, f_fo_most, f_fo_event, f_fo_back, f_fo_state].map V.ref) its_CALLS.toList)
    : ∃ fd : FuncData, (∀ (s : Shared) (us : List Value), us.length = (["calls"] : List Str).length → BindsTo s fd ⟨us, []⟩ ((["calls"] : List Str).zip us)) ∧ ∀ base : Heap, K.In base → base.Ns mainGlobals mg → FnOk P w K mg base CX0 11 fa fd ["calls"] (spAnswers K) := by
  have e := hfa.symm.trans (PySem.W.mg_of X G a_answers)
  cases e
  have mlen := PySem.W.mg_none_of X G b_len
  have mrange := PySem.W.mg_none_of X G b_range
  have msum := PySem.W.mg_none_of X G b_sum
  have msorted := PySem.W.mg_none_of X G b_sorted
  have mmax := PySem.W.mg_none_of X G b_max
  have mmin := PySem.W.mg_none_of X G b_min
  have many := PySem.W.mg_none_of X G b_any
  have menumerate := PySem.W.mg_none_of X G b_enumerate
  have C : Consts mg := ⟨⟨_, PySem.W.mg_of X G v_MOST_STATES⟩, ⟨_, PySem.W.mg_of X G v_MOST_WAIT⟩, ⟨_, PySem.W.mg_of X G v_MOST_NOTICE⟩, ⟨_, PySem.W.mg_of X G v_LATEST_DAY⟩, ⟨_, PySem.W.mg_of X G v_MOST_DEEDS⟩, ⟨_, PySem.W.mg_of X G v_NO_REFUSAL⟩, ⟨_, PySem.W.mg_of X G v_NONE_THERE⟩, ⟨_, PySem.W.mg_of X G v_NOT_RATIFIED⟩, ⟨_, PySem.W.mg_of X G v_LATER_DONE⟩, ⟨_, PySem.W.mg_of X G v_NOTICE_RUNS⟩, ⟨_, PySem.W.mg_of X G v_ALREADY_SO⟩, ⟨_, PySem.W.mg_of X G v_NOT_AS_TOLD⟩, ⟨_, PySem.W.mg_of X G v_FULL⟩, ⟨_, PySem.W.mg_of X G v_NO_DAY⟩, ⟨_, PySem.W.mg_of X G v_NO_END⟩⟩
  have T_WIDTHS : GT K mg "WIDTHS" A_WIDTHS (nsV widths) := ⟨PySem.W.mg_of X G g_WIDTHS, fun _ => .inr ⟨_, _, _, l_WIDTHS, oc_WIDTHS_is, rfl, its_WIDTHS_size, its_WIDTHS_are⟩⟩
  have T_CALLS : GT K mg "CALLS" A_CALLS ([f_fo_start, f_fo_ratify, f_fo_notice, f_fo_day, f_fo_ends, f_fo_bound, f_fo_parties, f_fo_ratified, f_fo_lacks, f_fo_since, f_fo_until, f_fo_would, f_fo_fewest, f_fo_days, f_fo_most, f_fo_event, f_fo_back, f_fo_state].map V.ref) := ⟨PySem.W.mg_of X G g_CALLS, fun _ => .inr ⟨_, _, _, l_CALLS, oc_CALLS_is, rfl, its_CALLS_size, its_CALLS_are⟩⟩
  have T : Txt K CDeed CTreaty := ⟨⟨pg_Deed, hd_Deed, po_Deed, sa_Deed⟩, n_Deed_state, n_Deed_day, n_Deed_ratified, ⟨pg_Treaty, hd_Treaty, po_Treaty, sa_Treaty⟩, n_Treaty_n, n_Treaty_need, n_Treaty_named, n_Treaty_wait, n_Treaty_notice, n_Treaty_floor, n_Treaty_deeds⟩
  have F_Deed_init := fun_mk (st := sDeedInit) l_Deed_init c_Deed_init k_Deed_init
  have B_Deed_init := F_Deed_init.binds (ps := ["self", "state", "day", "ratified"]) fun _ _ _ _ _ _ us hl => match us, hl with | [_, _, _, _], _ => rfl
  have F_Treaty_init := fun_mk (st := sTreatyInit) l_Treaty_init c_Treaty_init k_Treaty_init
  have B_Treaty_init := F_Treaty_init.binds (ps := ["self"]) fun _ _ _ _ _ _ us hl => match us, hl with | [_], _ => rfl
  have F_terms_of := fun_mk (st := sTermsOf) l_terms_of c_terms_of k_terms_of
  have B_terms_of := F_terms_of.binds (ps := ["treaty"]) fun _ _ _ _ _ _ us hl => match us, hl with | [_], _ => rfl
  have F_set_terms := fun_mk (st := sSetTerms) l_set_terms c_set_terms k_set_terms
  have B_set_terms := F_set_terms.binds (ps := ["treaty", "terms"]) fun _ _ _ _ _ _ us hl => match us, hl with | [_, _], _ => rfl
  have F_set_number := fun_mk (st := sSetNumber) l_set_number c_set_number k_set_number
  have B_set_number := F_set_number.binds (ps := ["states"]) fun _ _ _ _ _ _ us hl => match us, hl with | [_], _ => rfl
  have F_is_in_set := fun_mk (st := sIsInSet) l_is_in_set c_is_in_set k_is_in_set
  have B_is_in_set := F_is_in_set.binds (ps := ["number", "i"]) fun _ _ _ _ _ _ us hl => match us, hl with | [_, _], _ => rfl
  have F_last_day := fun_mk (st := sLastDay) l_last_day c_last_day k_last_day
  have B_last_day := F_last_day.binds (ps := ["treaty"]) fun _ _ _ _ _ _ us hl => match us, hl with | [_], _ => rfl
  have F_last_deeds := fun_mk (st := sLastDeeds) l_last_deeds c_last_deeds k_last_deeds
  have B_last_deeds := F_last_deeds.binds (ps := ["treaty", "d"]) fun _ _ _ _ _ _ us hl => match us, hl with | [_, _], _ => rfl
  have F_out_day := fun_mk (st := sOutDay) l_out_day c_out_day k_out_day
  have B_out_day := F_out_day.binds (ps := ["treaty", "deed"]) fun _ _ _ _ _ _ us hl => match us, hl with | [_, _], _ => rfl
  have F_is_notice_running := fun_mk (st := sIsNoticeRunning) l_is_notice_running c_is_notice_running k_is_notice_running
  have B_is_notice_running := F_is_notice_running.binds (ps := ["treaty", "deed", "d"]) fun _ _ _ _ _ _ us hl => match us, hl with | [_, _, _], _ => rfl
  have F_counts_as_ratified := fun_mk (st := sCountsAsRatified) l_counts_as_ratified c_counts_as_ratified k_counts_as_ratified
  have B_counts_as_ratified := F_counts_as_ratified.binds (ps := ["treaty", "deed", "d"]) fun _ _ _ _ _ _ us hl => match us, hl with | [_, _, _], _ => rfl
  have F_is_on_notice := fun_mk (st := sIsOnNotice) l_is_on_notice c_is_on_notice k_is_on_notice
  have B_is_on_notice := F_is_on_notice.binds (ps := ["treaty", "i", "d"]) fun _ _ _ _ _ _ us hl => match us, hl with | [_, _, _], _ => rfl
  have F_has_ratified := fun_mk (st := sHasRatified) l_has_ratified c_has_ratified k_has_ratified
  have B_has_ratified := F_has_ratified.binds (ps := ["treaty", "i", "d"]) fun _ _ _ _ _ _ us hl => match us, hl with | [_, _, _], _ => rfl
  have F_ratified_states := fun_mk (st := sRatifiedStates) l_ratified_states c_ratified_states k_ratified_states
  have B_ratified_states := F_ratified_states.binds (ps := ["treaty", "d"]) fun _ _ _ _ _ _ us hl => match us, hl with | [_, _], _ => rfl
  have F_enough_ratified := fun_mk (st := sEnoughRatified) l_enough_ratified c_enough_ratified k_enough_ratified
  have B_enough_ratified := F_enough_ratified.binds (ps := ["treaty", "d"]) fun _ _ _ _ _ _ us hl => match us, hl with | [_, _], _ => rfl
  have F_first_enough_day := fun_mk (st := sFirstEnoughDay) l_first_enough_day c_first_enough_day k_first_enough_day
  have B_first_enough_day := F_first_enough_day.binds (ps := ["treaty"]) fun _ _ _ _ _ _ us hl => match us, hl with | [_], _ => rfl
  have F_force_day := fun_mk (st := sForceDay) l_force_day c_force_day k_force_day
  have B_force_day := F_force_day.binds (ps := ["treaty"]) fun _ _ _ _ _ _ us hl => match us, hl with | [_], _ => rfl
  have F_out_days := fun_mk (st := sOutDays) l_out_days c_out_days k_out_days
  have B_out_days := F_out_days.binds (ps := ["treaty"]) fun _ _ _ _ _ _ us hl => match us, hl with | [_], _ => rfl
  have F_end_day := fun_mk (st := sEndDay) l_end_day c_end_day k_end_day
  have B_end_day := F_end_day.binds (ps := ["treaty"]) fun _ _ _ _ _ _ us hl => match us, hl with | [_], _ => rfl
  have F_is_within := fun_mk (st := sIsWithin) l_is_within c_is_within k_is_within
  have B_is_within := F_is_within.binds (ps := ["start", "end", "d"]) fun _ _ _ _ _ _ us hl => match us, hl with | [_, _, _], _ => rfl
  have F_bound_states := fun_mk (st := sBoundStates) l_bound_states c_bound_states k_bound_states
  have B_bound_states := F_bound_states.binds (ps := ["treaty", "d"]) fun _ _ _ _ _ _ us hl => match us, hl with | [_, _], _ => rfl
  have F_ratified_besides := fun_mk (st := sRatifiedBesides) l_ratified_besides c_ratified_besides k_ratified_besides
  have B_ratified_besides := F_ratified_besides.binds (ps := ["treaty", "states", "d"]) fun _ _ _ _ _ _ us hl => match us, hl with | [_, _, _], _ => rfl
  have F_fewest_lacking := fun_mk (st := sFewestLacking) l_fewest_lacking c_fewest_lacking k_fewest_lacking
  have B_fewest_lacking := F_fewest_lacking.binds (ps := ["treaty", "d"]) fun _ _ _ _ _ _ us hl => match us, hl with | [_, _], _ => rfl
  have F_change_days := fun_mk (st := sChangeDays) l_change_days c_change_days k_change_days
  have B_change_days := F_change_days.binds (ps := ["treaty", "start", "end"]) fun _ _ _ _ _ _ us hl => match us, hl with | [_, _, _], _ => rfl
  have F_bound_rows := fun_mk (st := sBoundRows) l_bound_rows c_bound_rows k_bound_rows
  have B_bound_rows := F_bound_rows.binds (ps := ["treaty"]) fun _ _ _ _ _ _ us hl => match us, hl with | [_], _ => rfl
  have F_first_bound_day := fun_mk (st := sFirstBoundDay) l_first_bound_day c_first_bound_day k_first_bound_day
  have B_first_bound_day := F_first_bound_day.binds (ps := ["rows", "i"]) fun _ _ _ _ _ _ us hl => match us, hl with | [_, _], _ => rfl
  have F_first_free_day := fun_mk (st := sFirstFreeDay) l_first_free_day c_first_free_day k_first_free_day
  have B_first_free_day := F_first_free_day.binds (ps := ["rows", "i", "behind"]) fun _ _ _ _ _ _ us hl => match us, hl with | [_, _, _], _ => rfl
  have F_count_bound_days := fun_mk (st := sCountBoundDays) l_count_bound_days c_count_bound_days k_count_bound_days
  have B_count_bound_days := F_count_bound_days.binds (ps := ["rows", "i", "latest"]) fun _ _ _ _ _ _ us hl => match us, hl with | [_, _, _], _ => rfl
  have F_fullest_row := fun_mk (st := sFullestRow) l_fullest_row c_fullest_row k_fullest_row
  have B_fullest_row := F_fullest_row.binds (ps := ["rows"]) fun _ _ _ _ _ _ us hl => match us, hl with | [_], _ => rfl
  have F_are_terms := fun_mk (st := sAreTerms) l_are_terms c_are_terms k_are_terms
  have B_are_terms := F_are_terms.binds (ps := ["n", "need", "named", "wait", "notice", "floor"]) fun _ _ _ _ _ _ us hl => match us, hl with | [_, _, _, _, _, _], _ => rfl
  have F_day_refusal := fun_mk (st := sDayRefusal) l_day_refusal c_day_refusal k_day_refusal
  have B_day_refusal := F_day_refusal.binds (ps := ["treaty", "d"]) fun _ _ _ _ _ _ us hl => match us, hl with | [_, _], _ => rfl
  have F_deed_refusal := fun_mk (st := sDeedRefusal) l_deed_refusal c_deed_refusal k_deed_refusal
  have B_deed_refusal := F_deed_refusal.binds (ps := ["treaty", "i", "d"]) fun _ _ _ _ _ _ us hl => match us, hl with | [_, _, _], _ => rfl
  have F_would_refusal := fun_mk (st := sWouldRefusal) l_would_refusal c_would_refusal k_would_refusal
  have B_would_refusal := F_would_refusal.binds (ps := ["treaty", "s", "d"]) fun _ _ _ _ _ _ us hl => match us, hl with | [_, _, _], _ => rfl
  have F_fo_day := fun_mk (st := sFoDay) l_fo_day c_fo_day k_fo_day
  have B_fo_day := F_fo_day.binds (ps := ["treaty", "given"]) fun _ _ _ _ _ _ us hl => match us, hl with | [_, _], _ => rfl
  have F_split_calls := fun_mk (st := sSplitCalls) l_split_calls c_split_calls k_split_calls
  have B_split_calls := F_split_calls.binds (ps := ["calls"]) fun _ _ _ _ _ _ us hl => match us, hl with | [_], _ => rfl
  have F_fo_start := fun_mk (st := sFoStart) l_fo_start c_fo_start k_fo_start
  have B_fo_start := F_fo_start.binds (ps := ["treaty", "given"]) fun _ _ _ _ _ _ us hl => match us, hl with | [_, _], _ => rfl
  have F_fo_ratify := fun_mk (st := sFoRatify) l_fo_ratify c_fo_ratify k_fo_ratify
  have B_fo_ratify := F_fo_ratify.binds (ps := ["treaty", "given"]) fun _ _ _ _ _ _ us hl => match us, hl with | [_, _], _ => rfl
  have F_fo_notice := fun_mk (st := sFoNotice) l_fo_notice c_fo_notice k_fo_notice
  have B_fo_notice := F_fo_notice.binds (ps := ["treaty", "given"]) fun _ _ _ _ _ _ us hl => match us, hl with | [_, _], _ => rfl
  have F_fo_ends := fun_mk (st := sFoEnds) l_fo_ends c_fo_ends k_fo_ends
  have B_fo_ends := F_fo_ends.binds (ps := ["treaty", "given"]) fun _ _ _ _ _ _ us hl => match us, hl with | [_, _], _ => rfl
  have F_fo_bound := fun_mk (st := sFoBound) l_fo_bound c_fo_bound k_fo_bound
  have B_fo_bound := F_fo_bound.binds (ps := ["treaty", "given"]) fun _ _ _ _ _ _ us hl => match us, hl with | [_, _], _ => rfl
  have F_fo_parties := fun_mk (st := sFoParties) l_fo_parties c_fo_parties k_fo_parties
  have B_fo_parties := F_fo_parties.binds (ps := ["treaty", "given"]) fun _ _ _ _ _ _ us hl => match us, hl with | [_, _], _ => rfl
  have F_fo_ratified := fun_mk (st := sFoRatified) l_fo_ratified c_fo_ratified k_fo_ratified
  have B_fo_ratified := F_fo_ratified.binds (ps := ["treaty", "given"]) fun _ _ _ _ _ _ us hl => match us, hl with | [_, _], _ => rfl
  have F_fo_lacks := fun_mk (st := sFoLacks) l_fo_lacks c_fo_lacks k_fo_lacks
  have B_fo_lacks := F_fo_lacks.binds (ps := ["treaty", "given"]) fun _ _ _ _ _ _ us hl => match us, hl with | [_, _], _ => rfl
  have F_fo_since := fun_mk (st := sFoSince) l_fo_since c_fo_since k_fo_since
  have B_fo_since := F_fo_since.binds (ps := ["treaty", "given"]) fun _ _ _ _ _ _ us hl => match us, hl with | [_, _], _ => rfl
  have F_fo_until := fun_mk (st := sFoUntil) l_fo_until c_fo_until k_fo_until
  have B_fo_until := F_fo_until.binds (ps := ["treaty", "given"]) fun _ _ _ _ _ _ us hl => match us, hl with | [_, _], _ => rfl
  have F_fo_would := fun_mk (st := sFoWould) l_fo_would c_fo_would k_fo_would
  have B_fo_would := F_fo_would.binds (ps := ["treaty", "given"]) fun _ _ _ _ _ _ us hl => match us, hl with | [_, _], _ => rfl
  have F_fo_fewest := fun_mk (st := sFoFewest) l_fo_fewest c_fo_fewest k_fo_fewest
  have B_fo_fewest := F_fo_fewest.binds (ps := ["treaty", "given"]) fun _ _ _ _ _ _ us hl => match us, hl with | [_, _], _ => rfl
  have F_fo_days := fun_mk (st := sFoDays) l_fo_days c_fo_days k_fo_days
  have B_fo_days := F_fo_days.binds (ps := ["treaty", "given"]) fun _ _ _ _ _ _ us hl => match us, hl with | [_, _], _ => rfl
  have F_fo_most := fun_mk (st := sFoMost) l_fo_most c_fo_most k_fo_most
  have B_fo_most := F_fo_most.binds (ps := ["treaty", "given"]) fun _ _ _ _ _ _ us hl => match us, hl with | [_, _], _ => rfl
  have F_fo_event := fun_mk (st := sFoEvent) l_fo_event c_fo_event k_fo_event
  have B_fo_event := F_fo_event.binds (ps := ["treaty", "given"]) fun _ _ _ _ _ _ us hl => match us, hl with | [_, _], _ => rfl
  have F_fo_back := fun_mk (st := sFoBack) l_fo_back c_fo_back k_fo_back
  have B_fo_back := F_fo_back.binds (ps := ["treaty", "given"]) fun _ _ _ _ _ _ us hl => match us, hl with | [_, _], _ => rfl
  have F_fo_state := fun_mk (st := sFoState) l_fo_state c_fo_state k_fo_state
  have B_fo_state := F_fo_state.binds (ps := ["treaty", "given"]) fun _ _ _ _ _ _ us hl => match us, hl with | [_, _], _ => rfl
  have F_answers := fun_mk (st := sAnswers) l_answers c_answers k_answers
  refine ⟨PySem.W.fnOf "answers" "answers" (defArgs sAnswers) (defBody sAnswers) (defScope sAnswers) .none kV_answers dc_answers pm_answers an_answers cd_answers ct_answers, fun s us hu => match us, hu with | [_], _ => .of_eq rfl, fun base _ _ => ?_⟩
  have M_Deed : Make P w K mg base "Deed" CDeed 1 ["self", "state", "day", "ratified"] (spDeedInit CDeed) := ⟨f_Deed_init, _, PySem.W.mg_of X G g_Deed, ⟨mk_Deed, a_Deed_init, i_Deed_init, kc_Deed⟩, B_Deed_init, ok_deed_init F_Deed_init T⟩
  have M_Treaty : Make P w K mg base "Treaty" CTreaty 1 ["self"] (spTreatyInit CDeed CTreaty) := ⟨f_Treaty_init, _, PySem.W.mg_of X G g_Treaty, ⟨mk_Treaty, a_Treaty_init, i_Treaty_init, kc_Treaty⟩, B_Treaty_init, ok_treaty_init F_Treaty_init T⟩
  have D_terms_of : Def P w K mg base "terms_of" 1 ["treaty"] (spTermsOf CDeed CTreaty) := ⟨f_terms_of, _, PySem.W.mg_of X G a_terms_of, k_terms_of, B_terms_of, ok_terms_of F_terms_of T⟩
  have D_set_terms : Def P w K mg base "set_terms" 1 ["treaty", "terms"] (spSetTerms K CTreaty) := ⟨f_set_terms, _, PySem.W.mg_of X G a_set_terms, k_set_terms, B_set_terms, ok_set_terms F_set_terms T⟩
  have D_set_number : Def P w K mg base "set_number" 1 ["states"] (spSetNumber K) := ⟨f_set_number, _, PySem.W.mg_of X G a_set_number, k_set_number, B_set_number, ok_set_number F_set_number msum⟩
  have D_is_in_set : Def P w K mg base "is_in_set" 1 ["number", "i"] (spIsInSet) := ⟨f_is_in_set, _, PySem.W.mg_of X G a_is_in_set, k_is_in_set, B_is_in_set, ok_is_in_set F_is_in_set⟩
  have D_last_day : Def P w K mg base "last_day" 1 ["treaty"] (spLastDay CDeed CTreaty) := ⟨f_last_day, _, PySem.W.mg_of X G a_last_day, k_last_day, B_last_day, ok_last_day F_last_day T mlen⟩
  have D_last_deeds : Def P w K mg base "last_deeds" 1 ["treaty", "d"] (spLastDeeds CDeed CTreaty) := ⟨f_last_deeds, _, PySem.W.mg_of X G a_last_deeds, k_last_deeds, B_last_deeds, ok_last_deeds F_last_deeds T mrange⟩
  have D_out_day : Def P w K mg base "out_day" 1 ["treaty", "deed"] (spOutDay CDeed CTreaty) := ⟨f_out_day, _, PySem.W.mg_of X G a_out_day, k_out_day, B_out_day, ok_out_day F_out_day T⟩
  have D_is_notice_running : Def P w K mg base "is_notice_running" 2 ["treaty", "deed", "d"] (spRuns CDeed CTreaty) := ⟨f_is_notice_running, _, PySem.W.mg_of X G a_is_notice_running, k_is_notice_running, B_is_notice_running, ok_is_notice_running F_is_notice_running T D_out_day⟩
  have D_counts_as_ratified : Def P w K mg base "counts_as_ratified" 2 ["treaty", "deed", "d"] (spCounts CDeed CTreaty) := ⟨f_counts_as_ratified, _, PySem.W.mg_of X G a_counts_as_ratified, k_counts_as_ratified, B_counts_as_ratified, ok_counts_as_ratified F_counts_as_ratified T D_out_day⟩
  have D_is_on_notice : Def P w K mg base "is_on_notice" 3 ["treaty", "i", "d"] (spIsOnNotice CDeed CTreaty) := ⟨f_is_on_notice, _, PySem.W.mg_of X G a_is_on_notice, k_is_on_notice, B_is_on_notice, ok_is_on_notice F_is_on_notice D_last_deeds D_is_notice_running⟩
  have D_has_ratified : Def P w K mg base "has_ratified" 3 ["treaty", "i", "d"] (spHasRatified CDeed CTreaty) := ⟨f_has_ratified, _, PySem.W.mg_of X G a_has_ratified, k_has_ratified, B_has_ratified, ok_has_ratified F_has_ratified D_last_deeds D_counts_as_ratified⟩
  have D_ratified_states : Def P w K mg base "ratified_states" 3 ["treaty", "d"] (spRatifiedStates CDeed CTreaty) := ⟨f_ratified_states, _, PySem.W.mg_of X G a_ratified_states, k_ratified_states, B_ratified_states, ok_ratified_states F_ratified_states menumerate D_last_deeds D_counts_as_ratified⟩
  have D_enough_ratified : Def P w K mg base "enough_ratified" 4 ["treaty", "d"] (spEnough CDeed CTreaty) := ⟨f_enough_ratified, _, PySem.W.mg_of X G a_enough_ratified, k_enough_ratified, B_enough_ratified, ok_enough F_enough_ratified T mlen D_ratified_states D_set_number⟩
  have D_first_enough_day : Def P w K mg base "first_enough_day" 5 ["treaty"] (spFirstEnough CDeed CTreaty) := ⟨f_first_enough_day, _, PySem.W.mg_of X G a_first_enough_day, k_first_enough_day, B_first_enough_day, ok_first_enough F_first_enough_day T D_enough_ratified⟩
  have D_force_day : Def P w K mg base "force_day" 6 ["treaty"] (spForceDay CDeed CTreaty) := ⟨f_force_day, _, PySem.W.mg_of X G a_force_day, k_force_day, B_force_day, ok_force_day F_force_day T D_first_enough_day⟩
  have D_out_days : Def P w K mg base "out_days" 2 ["treaty"] (spOutDays CDeed CTreaty) := ⟨f_out_days, _, PySem.W.mg_of X G a_out_days, k_out_days, B_out_days, ok_out_days F_out_days T D_out_day⟩
  have D_end_day : Def P w K mg base "end_day" 7 ["treaty"] (spEndDay CDeed CTreaty) := ⟨f_end_day, _, PySem.W.mg_of X G a_end_day, k_end_day, B_end_day, ok_end_day F_end_day T mlen msorted D_force_day D_out_days D_ratified_states⟩
  have D_is_within : Def P w K mg base "is_within" 1 ["start", "end", "d"] (spIsWithin) := ⟨f_is_within, _, PySem.W.mg_of X G a_is_within, k_is_within, B_is_within, ok_is_within F_is_within⟩
  have D_bound_states : Def P w K mg base "bound_states" 9 ["treaty", "d"] (spBoundStates CDeed CTreaty) := ⟨f_bound_states, _, PySem.W.mg_of X G a_bound_states, k_bound_states, B_bound_states, ok_bound_states F_bound_states D_is_within D_force_day D_end_day D_ratified_states⟩
  have D_ratified_besides : Def P w K mg base "ratified_besides" 3 ["treaty", "states", "d"] (spBesides K CDeed CTreaty) := ⟨f_ratified_besides, _, PySem.W.mg_of X G a_ratified_besides, k_ratified_besides, B_ratified_besides, ok_ratified_besides F_ratified_besides T M_Treaty M_Deed D_set_terms D_terms_of⟩
  have D_fewest_lacking : Def P w K mg base "fewest_lacking" 4 ["treaty", "d"] (spFewestLacking CDeed CTreaty) := ⟨f_fewest_lacking, _, PySem.W.mg_of X G a_fewest_lacking, k_fewest_lacking, B_fewest_lacking, ok_fewest_lacking F_fewest_lacking T mlen mrange mmax D_ratified_states D_is_in_set⟩
  have D_change_days : Def P w K mg base "change_days" 3 ["treaty", "start", "end"] (spChangeDays CDeed CTreaty) := ⟨f_change_days, _, PySem.W.mg_of X G a_change_days, k_change_days, B_change_days, ok_change_days F_change_days T msorted D_out_days⟩
  have D_bound_rows : Def P w K mg base "bound_rows" 8 ["treaty"] (spBoundRows CDeed CTreaty) := ⟨f_bound_rows, _, PySem.W.mg_of X G a_bound_rows, k_bound_rows, B_bound_rows, ok_bound_rows F_bound_rows D_force_day D_end_day D_change_days D_is_within D_ratified_states⟩
  have D_first_bound_day : Def P w K mg base "first_bound_day" 1 ["rows", "i"] (spFirstBound) := ⟨f_first_bound_day, _, PySem.W.mg_of X G a_first_bound_day, k_first_bound_day, B_first_bound_day, ok_first_bound_day F_first_bound_day⟩
  have D_first_free_day : Def P w K mg base "first_free_day" 1 ["rows", "i", "behind"] (spFirstFree) := ⟨f_first_free_day, _, PySem.W.mg_of X G a_first_free_day, k_first_free_day, B_first_free_day, ok_first_free_day F_first_free_day⟩
  have D_count_bound_days : Def P w K mg base "count_bound_days" 1 ["rows", "i", "latest"] (spCount) := ⟨f_count_bound_days, _, PySem.W.mg_of X G a_count_bound_days, k_count_bound_days, B_count_bound_days, ok_count_bound_days F_count_bound_days menumerate mmin⟩
  have D_fullest_row : Def P w K mg base "fullest_row" 1 ["rows"] (spFullest) := ⟨f_fullest_row, _, PySem.W.mg_of X G a_fullest_row, k_fullest_row, B_fullest_row, ok_fullest_row F_fullest_row mlen⟩
  have D_are_terms : Def P w K mg base "are_terms" 1 ["n", "need", "named", "wait", "notice", "floor"] (spAreTerms) := ⟨f_are_terms, _, PySem.W.mg_of X G a_are_terms, k_are_terms, B_are_terms, ok_are_terms F_are_terms C⟩
  have D_day_refusal : Def P w K mg base "day_refusal" 2 ["treaty", "d"] (spDayRefusal CDeed CTreaty) := ⟨f_day_refusal, _, PySem.W.mg_of X G a_day_refusal, k_day_refusal, B_day_refusal, ok_day_refusal F_day_refusal C D_last_day⟩
  have D_deed_refusal : Def P w K mg base "deed_refusal" 3 ["treaty", "i", "d"] (spDeedRefusal CDeed CTreaty) := ⟨f_deed_refusal, _, PySem.W.mg_of X G a_deed_refusal, k_deed_refusal, B_deed_refusal, ok_deed_refusal F_deed_refusal T C D_day_refusal⟩
  have D_would_refusal : Def P w K mg base "would_refusal" 4 ["treaty", "s", "d"] (spWouldRefusal CDeed CTreaty) := ⟨f_would_refusal, _, PySem.W.mg_of X G a_would_refusal, k_would_refusal, B_would_refusal, ok_would_refusal F_would_refusal T C mrange many D_day_refusal D_is_in_set D_is_on_notice⟩
  have D_fo_day : Def P w K mg base "fo_day" 7 ["treaty", "given"] (spDay CDeed CTreaty) := ⟨f_fo_day, _, PySem.W.mg_of X G a_fo_day, k_fo_day, B_fo_day, ok_fo_day_any F_fo_day C D_force_day⟩
  have D_split_calls : Def P w K mg base "split_calls" 1 ["calls"] (spSplit K) := ⟨f_split_calls, _, PySem.W.mg_of X G a_split_calls, k_split_calls, B_split_calls, ok_split_calls F_split_calls mlen T_WIDTHS⟩
  have H_fo_start : Held P w K mg base 10 f_fo_start (spFo K CDeed CTreaty cStart) := ⟨_, _, 2, by decide, ok_fo_start F_fo_start T C D_are_terms D_set_terms, k_fo_start, B_fo_start⟩
  have H_fo_ratify : Held P w K mg base 10 f_fo_ratify (spFo K CDeed CTreaty (c2 .ratify)) := ⟨_, _, 4, by decide, ok_fo_ratify F_fo_ratify T C mlen D_deed_refusal D_is_on_notice D_has_ratified M_Deed D_ratified_states, k_fo_ratify, B_fo_ratify⟩
  have H_fo_notice : Held P w K mg base 10 f_fo_notice (spFo K CDeed CTreaty (c2 .notice)) := ⟨_, _, 4, by decide, ok_fo_notice F_fo_notice T C mlen D_deed_refusal D_is_on_notice D_has_ratified M_Deed D_out_day, k_fo_notice, B_fo_notice⟩
  have H_fo_day : Held P w K mg base 10 f_fo_day (spFo K CDeed CTreaty (c0 .day)) := ⟨_, _, 7, by decide, ok_fo_day F_fo_day C D_force_day, k_fo_day, B_fo_day⟩
  have H_fo_ends : Held P w K mg base 10 f_fo_ends (spFo K CDeed CTreaty (c0 .ends)) := ⟨_, _, 8, by decide, ok_fo_ends F_fo_ends C D_force_day D_end_day, k_fo_ends, B_fo_ends⟩
  have H_fo_bound : Held P w K mg base 10 f_fo_bound (spFo K CDeed CTreaty (c2 .bound)) := ⟨_, _, 10, by decide, ok_fo_bound F_fo_bound T C D_bound_states, k_fo_bound, B_fo_bound⟩
  have H_fo_parties : Held P w K mg base 10 f_fo_parties (spFo K CDeed CTreaty (c1 .parties)) := ⟨_, _, 10, by decide, ok_fo_parties F_fo_parties mlen D_bound_states D_set_number, k_fo_parties, B_fo_parties⟩
  have H_fo_ratified : Held P w K mg base 10 f_fo_ratified (spFo K CDeed CTreaty (c1 .ratified)) := ⟨_, _, 4, by decide, ok_fo_ratified F_fo_ratified mlen D_ratified_states D_set_number, k_fo_ratified, B_fo_ratified⟩
  have H_fo_lacks : Held P w K mg base 10 f_fo_lacks (spFo K CDeed CTreaty (c1 .lacks)) := ⟨_, _, 4, by decide, ok_fo_lacks F_fo_lacks T mlen mmax D_ratified_states D_set_number, k_fo_lacks, B_fo_lacks⟩
  have H_fo_since : Held P w K mg base 10 f_fo_since (spFo K CDeed CTreaty (c1 .since)) := ⟨_, _, 9, by decide, ok_fo_since F_fo_since T C D_bound_rows D_first_bound_day, k_fo_since, B_fo_since⟩
  have H_fo_until : Held P w K mg base 10 f_fo_until (spFo K CDeed CTreaty (c1 .until_)) := ⟨_, _, 9, by decide, ok_fo_until F_fo_until T C D_bound_rows D_first_bound_day D_first_free_day, k_fo_until, B_fo_until⟩
  have H_fo_would : Held P w K mg base 10 f_fo_would (spFo K CDeed CTreaty (c2 .would)) := ⟨_, _, 8, by decide, ok_fo_would F_fo_would T C mrange D_would_refusal D_ratified_states D_is_in_set D_fo_day D_ratified_besides, k_fo_would, B_fo_would⟩
  have H_fo_fewest : Held P w K mg base 10 f_fo_fewest (spFo K CDeed CTreaty (c1 .fewest)) := ⟨_, _, 7, by decide, ok_fo_fewest F_fo_fewest C mlen D_day_refusal D_force_day D_fewest_lacking D_set_number, k_fo_fewest, B_fo_fewest⟩
  have H_fo_days : Held P w K mg base 10 f_fo_days (spFo K CDeed CTreaty (c1 .days)) := ⟨_, _, 9, by decide, ok_fo_days F_fo_days T C D_bound_rows D_count_bound_days, k_fo_days, B_fo_days⟩
  have H_fo_most : Held P w K mg base 10 f_fo_most (spFo K CDeed CTreaty (c0 .most)) := ⟨_, _, 9, by decide, ok_fo_most F_fo_most T C mlen D_bound_rows D_fullest_row, k_fo_most, B_fo_most⟩
  have H_fo_event : Held P w K mg base 10 f_fo_event (spFo K CDeed CTreaty (c1 .event)) := ⟨_, _, 1, by decide, ok_fo_event F_fo_event T C mlen, k_fo_event, B_fo_event⟩
  have H_fo_back : Held P w K mg base 10 f_fo_back (spFo K CDeed CTreaty (c0 .back)) := ⟨_, _, 1, by decide, ok_fo_back F_fo_back T C mlen, k_fo_back, B_fo_back⟩
  have H_fo_state : Held P w K mg base 10 f_fo_state (spFo K CDeed CTreaty (c0 .state)) := ⟨_, _, 2, by decide, ok_fo_state F_fo_state T mlen D_terms_of D_last_day, k_fo_state, B_fo_state⟩
  have hC : CallsOk P w K mg base CDeed CTreaty 10 [f_fo_start, f_fo_ratify, f_fo_notice, f_fo_day, f_fo_ends, f_fo_bound, f_fo_parties, f_fo_ratified, f_fo_lacks, f_fo_since, f_fo_until, f_fo_would, f_fo_fewest, f_fo_days, f_fo_most, f_fo_event, f_fo_back, f_fo_state] := by
    intro j fn h
    match j, h with
    | 0, h =>
      obtain rfl : cStart = fn := Option.some.inj h
      exact ⟨_, rfl, H_fo_start⟩
    | 1, h =>
      obtain rfl : (c2 .ratify) = fn := Option.some.inj h
      exact ⟨_, rfl, H_fo_ratify⟩
    | 2, h =>
      obtain rfl : (c2 .notice) = fn := Option.some.inj h
      exact ⟨_, rfl, H_fo_notice⟩
    | 3, h =>
      obtain rfl : (c0 .day) = fn := Option.some.inj h
      exact ⟨_, rfl, H_fo_day⟩
    | 4, h =>
      obtain rfl : (c0 .ends) = fn := Option.some.inj h
      exact ⟨_, rfl, H_fo_ends⟩
    | 5, h =>
      obtain rfl : (c2 .bound) = fn := Option.some.inj h
      exact ⟨_, rfl, H_fo_bound⟩
    | 6, h =>
      obtain rfl : (c1 .parties) = fn := Option.some.inj h
      exact ⟨_, rfl, H_fo_parties⟩
    | 7, h =>
      obtain rfl : (c1 .ratified) = fn := Option.some.inj h
      exact ⟨_, rfl, H_fo_ratified⟩
    | 8, h =>
      obtain rfl : (c1 .lacks) = fn := Option.some.inj h
      exact ⟨_, rfl, H_fo_lacks⟩
    | 9, h =>
      obtain rfl : (c1 .since) = fn := Option.some.inj h
      exact ⟨_, rfl, H_fo_since⟩
    | 10, h =>
      obtain rfl : (c1 .until_) = fn := Option.some.inj h
      exact ⟨_, rfl, H_fo_until⟩
    | 11, h =>
      obtain rfl : (c2 .would) = fn := Option.some.inj h
      exact ⟨_, rfl, H_fo_would⟩
    | 12, h =>
      obtain rfl : (c1 .fewest) = fn := Option.some.inj h
      exact ⟨_, rfl, H_fo_fewest⟩
    | 13, h =>
      obtain rfl : (c1 .days) = fn := Option.some.inj h
      exact ⟨_, rfl, H_fo_days⟩
    | 14, h =>
      obtain rfl : (c0 .most) = fn := Option.some.inj h
      exact ⟨_, rfl, H_fo_most⟩
    | 15, h =>
      obtain rfl : (c1 .event) = fn := Option.some.inj h
      exact ⟨_, rfl, H_fo_event⟩
    | 16, h =>
      obtain rfl : (c0 .back) = fn := Option.some.inj h
      exact ⟨_, rfl, H_fo_back⟩
    | 17, h =>
      obtain rfl : (c0 .state) = fn := Option.some.inj h
      exact ⟨_, rfl, H_fo_state⟩
    | n + 18, h => cases h
  exact ok_answers (by decide) F_answers mlen M_Treaty D_split_calls T_CALLS hC
end TF
open PySem PySem.W PyProof.Rows

set_option maxRecDepth 100000 in
set_option maxHeartbeats 0 in
theorem PySem.Challenge.cw_treatyforce_s01_answers_holds : PySem.Challenge.rw_treatyforce_s01_answers.Holds := by
  w_on; k_headS; (case hw => exact ⟨[.list [.int 0, .int 1, .int 1, .int 0, .int 0, .int 1, .int 0]], by decide +kernel, by decide +kernel⟩)
  k_fillS
  refine L2.walk_specK (r := PySem.Challenge.rw_treatyforce_s01_answers) (k := 11) (CX := L2.CX0) (ps := ["calls"]) (sp := TF.spAnswers) (by decide +kernel) rfl rfl ⟨rfl, by decide, by decide⟩ (fun w h Y => PySem.W.kIn_of Y) ?F ?S (fun _ _ _ _ z => z)
  case F =>
    intro w mg fa h Y KX G hmg
    refine' TF.all_mk KX G hmg ?g_Deed ?a_Deed_init ?l_Deed_init ?c_Deed_init ?k_Deed_init ?i_Deed_init ?pg_Deed ?hd_Deed ?po_Deed ?sa_Deed ?mk_Deed ?kc_Deed ?n_Deed_state ?n_Deed_day ?n_Deed_ratified ?g_Treaty ?a_Treaty_init ?l_Treaty_init ?c_Treaty_init ?k_Treaty_init ?i_Treaty_init ?pg_Treaty ?hd_Treaty ?po_Treaty ?sa_Treaty ?mk_Treaty ?kc_Treaty ?n_Treaty_n ?n_Treaty_need ?n_Treaty_named ?n_Treaty_wait ?n_Treaty_notice ?n_Treaty_floor ?n_Treaty_deeds ?a_terms_of ?l_terms_of ?c_terms_of ?k_terms_of ?a_set_terms ?l_set_terms ?c_set_terms ?k_set_terms ?a_set_number ?l_set_number ?c_set_number ?k_set_number ?a_is_in_set ?l_is_in_set ?c_is_in_set ?k_is_in_set ?a_last_day ?l_last_day ?c_last_day ?k_last_day ?a_last_deeds ?l_last_deeds ?c_last_deeds ?k_last_deeds ?a_out_day ?l_out_day ?c_out_day ?k_out_day ?a_is_notice_running ?l_is_notice_running ?c_is_notice_running ?k_is_notice_running ?a_counts_as_ratified ?l_counts_as_ratified ?c_counts_as_ratified ?k_counts_as_ratified ?a_is_on_notice ?l_is_on_notice ?c_is_on_notice ?k_is_on_notice ?a_has_ratified ?l_has_ratified ?c_has_ratified ?k_has_ratified ?a_ratified_states ?l_ratified_states ?c_ratified_states ?k_ratified_states ?a_enough_ratified ?l_enough_ratified ?c_enough_ratified ?k_enough_ratified ?a_first_enough_day ?l_first_enough_day ?c_first_enough_day ?k_first_enough_day ?a_force_day ?l_force_day ?c_force_day ?k_force_day ?a_out_days ?l_out_days ?c_out_days ?k_out_days ?a_end_day ?l_end_day ?c_end_day ?k_end_day ?a_is_within ?l_is_within ?c_is_within ?k_is_within ?a_bound_states ?l_bound_states ?c_bound_states ?k_bound_states ?a_ratified_besides ?l_ratified_besides ?c_ratified_besides ?k_ratified_besides ?a_fewest_lacking ?l_fewest_lacking ?c_fewest_lacking ?k_fewest_lacking ?a_change_days ?l_change_days ?c_change_days ?k_change_days ?a_bound_rows ?l_bound_rows ?c_bound_rows ?k_bound_rows ?a_first_bound_day ?l_first_bound_day ?c_first_bound_day ?k_first_bound_day ?a_first_free_day ?l_first_free_day ?c_first_free_day ?k_first_free_day ?a_count_bound_days ?l_count_bound_days ?c_count_bound_days ?k_count_bound_days ?a_fullest_row ?l_fullest_row ?c_fullest_row ?k_fullest_row ?a_are_terms ?l_are_terms ?c_are_terms ?k_are_terms ?a_day_refusal ?l_day_refusal ?c_day_refusal ?k_day_refusal ?a_deed_refusal ?l_deed_refusal ?c_deed_refusal ?k_deed_refusal ?a_would_refusal ?l_would_refusal ?c_would_refusal ?k_would_refusal ?a_fo_day ?l_fo_day ?c_fo_day ?k_fo_day ?a_split_calls ?l_split_calls ?c_split_calls ?k_split_calls ?a_fo_start ?l_fo_start ?c_fo_start ?k_fo_start ?a_fo_ratify ?l_fo_ratify ?c_fo_ratify ?k_fo_ratify ?a_fo_notice ?l_fo_notice ?c_fo_notice ?k_fo_notice ?a_fo_ends ?l_fo_ends ?c_fo_ends ?k_fo_ends ?a_fo_bound ?l_fo_bound ?c_fo_bound ?k_fo_bound ?a_fo_parties ?l_fo_parties ?c_fo_parties ?k_fo_parties ?a_fo_ratified ?l_fo_ratified ?c_fo_ratified ?k_fo_ratified ?a_fo_lacks ?l_fo_lacks ?c_fo_lacks ?k_fo_lacks ?a_fo_since ?l_fo_since ?c_fo_since ?k_fo_since ?a_fo_until ?l_fo_until ?c_fo_until ?k_fo_until ?a_fo_would ?l_fo_would ?c_fo_would ?k_fo_would ?a_fo_fewest ?l_fo_fewest ?c_fo_fewest ?k_fo_fewest ?a_fo_days ?l_fo_days ?c_fo_days ?k_fo_days ?a_fo_most ?l_fo_most ?c_fo_most ?k_fo_most ?a_fo_event ?l_fo_event ?c_fo_event ?k_fo_event ?a_fo_back ?l_fo_back ?c_fo_back ?k_fo_back ?a_fo_state ?l_fo_state ?c_fo_state ?k_fo_state ?a_answers ?l_answers ?c_answers ?k_answers ?b_len ?b_range ?b_sum ?b_sorted ?b_max ?b_min ?b_any ?b_enumerate ?v_MOST_STATES ?v_MOST_WAIT ?v_MOST_NOTICE ?v_LATEST_DAY ?v_MOST_DEEDS ?v_NO_REFUSAL ?v_NONE_THERE ?v_NOT_RATIFIED ?v_LATER_DONE ?v_NOTICE_RUNS ?v_ALREADY_SO ?v_NOT_AS_TOLD ?v_FULL ?v_NO_DAY ?v_NO_END ?g_WIDTHS ?l_WIDTHS ?oc_WIDTHS_is ?its_WIDTHS_size ?its_WIDTHS_are ?g_CALLS ?l_CALLS ?oc_CALLS_is ?its_CALLS_size ?its_CALLS_are
    case g_Deed => k_is
    case a_Deed_init => k_is
    case l_Deed_init => k_is
    case c_Deed_init => k_is
    case k_Deed_init => k_is
    case i_Deed_init => k_is
    case pg_Deed => k_is
    case hd_Deed => k_is
    case po_Deed => k_is
    case sa_Deed => k_is
    case mk_Deed => k_is
    case kc_Deed => k_is
    case n_Deed_state => k_is
    case n_Deed_day => k_is
    case n_Deed_ratified => k_is
    case g_Treaty => k_is
    case a_Treaty_init => k_is
    case l_Treaty_init => k_is
    case c_Treaty_init => k_is
    case k_Treaty_init => k_is
    case i_Treaty_init => k_is
    case pg_Treaty => k_is
    case hd_Treaty => k_is
    case po_Treaty => k_is
    case sa_Treaty => k_is
    case mk_Treaty => k_is
    case kc_Treaty => k_is
    case n_Treaty_n => k_is
    case n_Treaty_need => k_is
    case n_Treaty_named => k_is
    case n_Treaty_wait => k_is
    case n_Treaty_notice => k_is
    case n_Treaty_floor => k_is
    case n_Treaty_deeds => k_is
    case a_terms_of => k_is
    case l_terms_of => k_is
    case c_terms_of => k_is
    case k_terms_of => k_is
    case a_set_terms => k_is
    case l_set_terms => k_is
    case c_set_terms => k_is
    case k_set_terms => k_is
    case a_set_number => k_is
    case l_set_number => k_is
    case c_set_number => k_is
    case k_set_number => k_is
    case a_is_in_set => k_is
    case l_is_in_set => k_is
    case c_is_in_set => k_is
    case k_is_in_set => k_is
    case a_last_day => k_is
    case l_last_day => k_is
    case c_last_day => k_is
    case k_last_day => k_is
    case a_last_deeds => k_is
    case l_last_deeds => k_is
    case c_last_deeds => k_is
    case k_last_deeds => k_is
    case a_out_day => k_is
    case l_out_day => k_is
    case c_out_day => k_is
    case k_out_day => k_is
    case a_is_notice_running => k_is
    case l_is_notice_running => k_is
    case c_is_notice_running => k_is
    case k_is_notice_running => k_is
    case a_counts_as_ratified => k_is
    case l_counts_as_ratified => k_is
    case c_counts_as_ratified => k_is
    case k_counts_as_ratified => k_is
    case a_is_on_notice => k_is
    case l_is_on_notice => k_is
    case c_is_on_notice => k_is
    case k_is_on_notice => k_is
    case a_has_ratified => k_is
    case l_has_ratified => k_is
    case c_has_ratified => k_is
    case k_has_ratified => k_is
    case a_ratified_states => k_is
    case l_ratified_states => k_is
    case c_ratified_states => k_is
    case k_ratified_states => k_is
    case a_enough_ratified => k_is
    case l_enough_ratified => k_is
    case c_enough_ratified => k_is
    case k_enough_ratified => k_is
    case a_first_enough_day => k_is
    case l_first_enough_day => k_is
    case c_first_enough_day => k_is
    case k_first_enough_day => k_is
    case a_force_day => k_is
    case l_force_day => k_is
    case c_force_day => k_is
    case k_force_day => k_is
    case a_out_days => k_is
    case l_out_days => k_is
    case c_out_days => k_is
    case k_out_days => k_is
    case a_end_day => k_is
    case l_end_day => k_is
    case c_end_day => k_is
    case k_end_day => k_is
    case a_is_within => k_is
    case l_is_within => k_is
    case c_is_within => k_is
    case k_is_within => k_is
    case a_bound_states => k_is
    case l_bound_states => k_is
    case c_bound_states => k_is
    case k_bound_states => k_is
    case a_ratified_besides => k_is
    case l_ratified_besides => k_is
    case c_ratified_besides => k_is
    case k_ratified_besides => k_is
    case a_fewest_lacking => k_is
    case l_fewest_lacking => k_is
    case c_fewest_lacking => k_is
    case k_fewest_lacking => k_is
    case a_change_days => k_is
    case l_change_days => k_is
    case c_change_days => k_is
    case k_change_days => k_is
    case a_bound_rows => k_is
    case l_bound_rows => k_is
    case c_bound_rows => k_is
    case k_bound_rows => k_is
    case a_first_bound_day => k_is
    case l_first_bound_day => k_is
    case c_first_bound_day => k_is
    case k_first_bound_day => k_is
    case a_first_free_day => k_is
    case l_first_free_day => k_is
    case c_first_free_day => k_is
    case k_first_free_day => k_is
    case a_count_bound_days => k_is
    case l_count_bound_days => k_is
    case c_count_bound_days => k_is
    case k_count_bound_days => k_is
    case a_fullest_row => k_is
    case l_fullest_row => k_is
    case c_fullest_row => k_is
    case k_fullest_row => k_is
    case a_are_terms => k_is
    case l_are_terms => k_is
    case c_are_terms => k_is
    case k_are_terms => k_is
    case a_day_refusal => k_is
    case l_day_refusal => k_is
    case c_day_refusal => k_is
    case k_day_refusal => k_is
    case a_deed_refusal => k_is
    case l_deed_refusal => k_is
    case c_deed_refusal => k_is
    case k_deed_refusal => k_is
    case a_would_refusal => k_is
    case l_would_refusal => k_is
    case c_would_refusal => k_is
    case k_would_refusal => k_is
    case a_fo_day => k_is
    case l_fo_day => k_is
    case c_fo_day => k_is
    case k_fo_day => k_is
    case a_split_calls => k_is
    case l_split_calls => k_is
    case c_split_calls => k_is
    case k_split_calls => k_is
    case a_fo_start => k_is
    case l_fo_start => k_is
    case c_fo_start => k_is
    case k_fo_start => k_is
    case a_fo_ratify => k_is
    case l_fo_ratify => k_is
    case c_fo_ratify => k_is
    case k_fo_ratify => k_is
    case a_fo_notice => k_is
    case l_fo_notice => k_is
    case c_fo_notice => k_is
    case k_fo_notice => k_is
    case a_fo_ends => k_is
    case l_fo_ends => k_is
    case c_fo_ends => k_is
    case k_fo_ends => k_is
    case a_fo_bound => k_is
    case l_fo_bound => k_is
    case c_fo_bound => k_is
    case k_fo_bound => k_is
    case a_fo_parties => k_is
    case l_fo_parties => k_is
    case c_fo_parties => k_is
    case k_fo_parties => k_is
    case a_fo_ratified => k_is
    case l_fo_ratified => k_is
    case c_fo_ratified => k_is
    case k_fo_ratified => k_is
    case a_fo_lacks => k_is
    case l_fo_lacks => k_is
    case c_fo_lacks => k_is
    case k_fo_lacks => k_is
    case a_fo_since => k_is
    case l_fo_since => k_is
    case c_fo_since => k_is
    case k_fo_since => k_is
    case a_fo_until => k_is
    case l_fo_until => k_is
    case c_fo_until => k_is
    case k_fo_until => k_is
    case a_fo_would => k_is
    case l_fo_would => k_is
    case c_fo_would => k_is
    case k_fo_would => k_is
    case a_fo_fewest => k_is
    case l_fo_fewest => k_is
    case c_fo_fewest => k_is
    case k_fo_fewest => k_is
    case a_fo_days => k_is
    case l_fo_days => k_is
    case c_fo_days => k_is
    case k_fo_days => k_is
    case a_fo_most => k_is
    case l_fo_most => k_is
    case c_fo_most => k_is
    case k_fo_most => k_is
    case a_fo_event => k_is
    case l_fo_event => k_is
    case c_fo_event => k_is
    case k_fo_event => k_is
    case a_fo_back => k_is
    case l_fo_back => k_is
    case c_fo_back => k_is
    case k_fo_back => k_is
    case a_fo_state => k_is
    case l_fo_state => k_is
    case c_fo_state => k_is
    case k_fo_state => k_is
    case a_answers => k_is
    case l_answers => k_is
    case c_answers => k_is
    case k_answers => k_is
    case b_len => k_is
    case b_range => k_is
    case b_sum => k_is
    case b_sorted => k_is
    case b_max => k_is
    case b_min => k_is
    case b_any => k_is
    case b_enumerate => k_is
    case v_MOST_STATES => k_is
    case v_MOST_WAIT => k_is
    case v_MOST_NOTICE => k_is
    case v_LATEST_DAY => k_is
    case v_MOST_DEEDS => k_is
    case v_NO_REFUSAL => k_is
    case v_NONE_THERE => k_is
    case v_NOT_RATIFIED => k_is
    case v_LATER_DONE => k_is
    case v_NOTICE_RUNS => k_is
    case v_ALREADY_SO => k_is
    case v_NOT_AS_TOLD => k_is
    case v_FULL => k_is
    case v_NO_DAY => k_is
    case v_NO_END => k_is
    case g_WIDTHS => k_is
    case l_WIDTHS => k_is
    case oc_WIDTHS_is => rfl
    case its_WIDTHS_size => decide
    case its_WIDTHS_are => repeat (first | exact PyProof.Rows.Paired.nil | exact .nil | refine .cons ⟨_, rfl⟩ ?_ | refine .cons rfl ?_)
    case g_CALLS => k_is
    case l_CALLS => k_is
    case oc_CALLS_is => rfl
    case its_CALLS_size => decide
    case its_CALLS_are => repeat (first | exact PyProof.Rows.Paired.nil | exact .nil | refine .cons ⟨_, rfl⟩ ?_ | refine .cons rfl ?_)
  case S =>
    intro K H xs a hO hwi hask hx
    cases hx with
    | cons h1 h2 =>
      cases h2
      cases h1 with
      | lst hs ha =>
        have e := L2.ints_dw a.1 _ ha
        subst e
        have q : ((Codec.inLen 0 7000 a.1 && a.1.all (Codec.inInt 0 4294967295)) && true) = true := hwi
        rw [Bool.and_eq_true, Bool.and_eq_true] at q
        have nn : ∀ x ∈ a.1, 0 ≤ x := fun x hx => (Codec.inInt_iff.mp (List.all_eq_true.mp q.1.2 x hx)).1
        have e2 : TF.intsOf (a.1.map Int.toNat) = a.1 := TF.intsOf_toNat nn
        refine ⟨_, a.1.map Int.toNat, rfl, ?_, ?_, ?_, fun H' p hp => .lst (L2.SqL.of hp) ?_⟩
        · rw [← TF.ints_nats nn]
          exact hs
        · rw [List.length_map]
          exact (Codec.inNat_iff.mp q.1.1).2
        · rw [e2]
          exact hask
        · rw [e2]
          exact L2.dw_ints _
