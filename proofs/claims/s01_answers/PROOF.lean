import PyProof.Rows.All
import Wide.All
import OpenK.AllK
import Wide.FinOn
import Open.SpecLaws
import KE.OsHead
import KE.OsGo
import PyFlatLaws
import KE.KSortKey
import KE.KLam
import HandS.ForMost
import HandS.More
import HandS.SortKw
import HandS.Nested
import KE.KNest
import HandS.ForSpec
import HandS.Lambda
import KE.DatumOrd
import KE.KSortTupG
import HandS.Conv
import HandS.TupLen
import HandS.DictTup
import PyProof.DictMoreH
import HandS.Flow
import HandS.Wide
import HandS.Walk
import PySem.Challenge.RW_waysbetween_s01_answers
section
set_option autoImplicit false
namespace WB
open Gq05 (Edge Graph nodes long? Far pick at_ onward rowFrom row table)

structure Ok (g : Graph) : Prop where
  le : g.many ≤ 12
  ed : ∀ e ∈ g.edges, (1 ≤ e.src ∧ e.src ≤ g.many) ∧ (1 ≤ e.dst ∧ e.dst ≤ g.many) ∧ e.src ≠ e.dst ∧ 1 ≤ e.long ∧ e.long ≤ 9
  nd : (g.edges.map fun e => (e.src, e.dst)).Nodup

/-- how many walks from s to y are L long -/
def W (es : List Edge) (s y L : Nat) : Nat :=
  (if y = s ∧ L = 0 then 1 else 0) + (es.map fun e => if _h : e.dst = y ∧ 0 < e.long ∧ e.long ≤ L then W es s e.src (L - e.long) else 0).sum
termination_by L

theorem sum_pos {α : Type} (f : α → Nat) : ∀ (l : List α), 0 < (l.map f).sum → ∃ x ∈ l, 0 < f x
  | [], h => by simp at h
  | a :: l, h => by
    rw [List.map_cons, List.sum_cons] at h
    by_cases ha : 0 < f a
    · exact ⟨a, List.mem_cons_self, ha⟩
    · obtain ⟨x, hx, h'⟩ := sum_pos f l (by omega)
      exact ⟨x, List.mem_cons_of_mem _ hx, h'⟩
theorem le_sum {α : Type} (f : α → Nat) : ∀ (l : List α) (x : α), x ∈ l → f x ≤ (l.map f).sum
  | [], _, h => by cases h
  | a :: l, x, h => by
    rw [List.map_cons, List.sum_cons]
    rcases List.mem_cons.mp h with rfl | h
    · omega
    · have := le_sum f l x h
      omega
theorem sum_congr {α : Type} {f k : α → Nat} : ∀ (l : List α), (∀ x ∈ l, f x = k x) → (l.map f).sum = (l.map k).sum
  | [], _ => rfl
  | a :: l, h => by
    rw [List.map_cons, List.map_cons, List.sum_cons, List.sum_cons, h a List.mem_cons_self, sum_congr l fun x hx => h x (List.mem_cons_of_mem _ hx)]
theorem sum_add {α : Type} (f k : α → Nat) : ∀ (l : List α), (l.map fun x => f x + k x).sum = (l.map f).sum + (l.map k).sum
  | [] => rfl
  | a :: l => by
    rw [List.map_cons, List.map_cons, List.map_cons, List.sum_cons, List.sum_cons, List.sum_cons, sum_add f k l]
    omega
theorem sum_zero {α : Type} (l : List α) : (l.map fun _ => 0).sum = 0 := by
  induction l with
  | nil => rfl
  | cons a l ih => rw [List.map_cons, List.sum_cons, ih]
theorem sum_swap {α β : Type} (f : α → β → Nat) (m : List β) : ∀ (l : List α), (l.map fun x => (m.map fun y => f x y).sum).sum = (m.map fun y => (l.map fun x => f x y).sum).sum
  | [] => by simp [sum_zero]
  | a :: l => by
    rw [List.map_cons, List.sum_cons, sum_swap f m l, ← sum_add]
    refine sum_congr m fun y _ => ?_
    rw [List.map_cons, List.sum_cons]
theorem sum_const_le {α : Type} (f : α → Nat) (b : Nat) : ∀ (l : List α), (∀ x ∈ l, f x ≤ b) → (l.map f).sum ≤ l.length * b
  | [], _ => by simp
  | a :: l, h => by
    rw [List.map_cons, List.sum_cons, List.length_cons, Nat.succ_mul]
    have h1 := h a List.mem_cons_self
    have h2 := sum_const_le f b l fun x hx => h x (List.mem_cons_of_mem _ hx)
    omega
theorem sum_if {α : Type} (p : α → Bool) (f : α → Nat) : ∀ (l : List α), (l.map fun x => if p x = true then f x else 0).sum = ((l.filter p).map f).sum
  | [] => rfl
  | a :: l => by
    rw [List.map_cons, List.sum_cons, sum_if p f l, List.filter_cons]
    by_cases h : p a = true
    · rw [if_pos h, if_pos h, List.map_cons, List.sum_cons]
    · rw [if_neg h, if_neg h, Nat.zero_add]

section
variable {g : Graph} {s : Nat}
/-- the contribution of one edge -/
def con (es : List Edge) (s y L : Nat) (e : Edge) : Nat := if e.dst = y ∧ 0 < e.long ∧ e.long ≤ L then W es s e.src (L - e.long) else 0
theorem W_eq (es : List Edge) (s y L : Nat) : W es s y L = (if y = s ∧ L = 0 then 1 else 0) + (es.map (con es s y L)).sum := by
  rw [W]
  congr 1
theorem W_start (es : List Edge) (s : Nat) : W es s s 0 = 1 := by
  rw [W_eq, if_pos ⟨rfl, rfl⟩, sum_congr (k := fun _ => 0) es (fun e _ => ?_), sum_zero]
  unfold con
  rw [if_neg (by omega)]
theorem W_zero {es : List Edge} {s y : Nat} (h : y ≠ s) : W es s y 0 = 0 := by
  rw [W_eq, if_neg (fun q => h q.1), sum_congr (k := fun _ => 0) es (fun e _ => ?_), sum_zero]
  unfold con
  rw [if_neg (by omega)]
theorem W_step (o : Ok g) {e : Edge} (he : e ∈ g.edges) (L : Nat) : W g.edges s e.src L ≤ W g.edges s e.dst (L + e.long) := by
  rw [W_eq (y := e.dst)]
  have h1 := le_sum (con g.edges s e.dst (L + e.long)) g.edges e he
  have h2 : con g.edges s e.dst (L + e.long) e = W g.edges s e.src L := by
    unfold con
    rw [if_pos ⟨rfl, by have := (o.ed e he).2.2.2; omega, by omega⟩, Nat.add_sub_cancel]
  omega
theorem W_node (o : Ok g) {y L : Nat} (hs : 1 ≤ s ∧ s ≤ g.many) (h : 0 < W g.edges s y L) : 1 ≤ y ∧ y ≤ g.many := by
  rw [W_eq] at h
  by_cases h0 : y = s ∧ L = 0
  · rw [h0.1]; exact hs
  · rw [if_neg h0, Nat.zero_add] at h
    obtain ⟨e, he, h'⟩ := sum_pos _ _ h
    unfold con at h'
    split at h'
    · rename_i c
      rw [← c.1]
      exact (o.ed e he).2.1
    · omega

/-- b is how long the shortest walks from s to y are -/
def IsD (es : List Edge) (s y b : Nat) : Prop := 0 < W es s y b ∧ ∀ L, L < b → W es s y L = 0
theorem IsD.uniq {es : List Edge} {s y a b : Nat} (h : IsD es s y a) (k : IsD es s y b) : a = b := by
  rcases Nat.lt_trichotomy a b with q | q | q
  · have := k.2 a q; have := h.1; omega
  · exact q
  · have := h.2 b q; have := k.1; omega
theorem IsD.le {es : List Edge} {s y b L : Nat} (h : IsD es s y b) (k : 0 < W es s y L) : b ≤ L := by
  rcases Nat.lt_or_ge L b with q | q
  · have := h.2 L q; omega
  · exact q
theorem IsD.ex {es : List Edge} {s y : Nat} : ∀ L, 0 < W es s y L → ∃ b, IsD es s y b ∧ b ≤ L := by
  intro L
  induction L using Nat.strongRecOn with
  | ind L ih =>
    intro h
    by_cases q : ∃ M, M < L ∧ 0 < W es s y M
    · obtain ⟨M, hM, hW⟩ := q
      obtain ⟨b, hb, hl⟩ := ih M hM hW
      exact ⟨b, hb, by omega⟩
    · refine ⟨L, ⟨h, fun M hM => ?_⟩, Nat.le_refl _⟩
      rcases Nat.eq_zero_or_pos (W es s y M) with e | e
      · exact e
      · exact absurd ⟨M, hM, e⟩ q
theorem IsD.self (es : List Edge) (s : Nat) : IsD es s s 0 := ⟨by rw [W_start]; omega, fun L h => by omega⟩
theorem IsD.zero {es : List Edge} {s y : Nat} (h : IsD es s y 0) : y = s := by
  by_cases q : y = s
  · exact q
  · have := W_zero (es := es) q; have := h.1; omega
theorem IsD.step (o : Ok g) {e : Edge} (he : e ∈ g.edges) {a : Nat} (h : IsD g.edges s e.src a) : ∃ b, IsD g.edges s e.dst b ∧ b ≤ a + e.long :=
  IsD.ex _ (Nat.lt_of_lt_of_le h.1 (W_step o he a))
/-- the node ahead of the last -/
theorem IsD.pred (o : Ok g) {y b : Nat} (h : IsD g.edges s y b) (hn : y ≠ s) : ∃ e ∈ g.edges, e.dst = y ∧ e.long ≤ b ∧ IsD g.edges s e.src (b - e.long) := by
  have h1 := h.1
  rw [W_eq, if_neg (fun q => hn q.1), Nat.zero_add] at h1
  obtain ⟨e, he, h'⟩ := sum_pos _ _ h1
  unfold con at h'
  split at h'
  · rename_i c
    refine ⟨e, he, c.1, c.2.2, h', fun L hL => ?_⟩
    rcases Nat.eq_zero_or_pos (W g.edges s e.src L) with q | q
    · exact q
    · have h2 := W_step o he (s := s) L
      rw [c.1] at h2
      have := h.2 (L + e.long) (by omega)
      omega
  · omega
/-- an edge's contribution to a shortest length -/
theorem IsD.con (o : Ok g) {y b : Nat} (h : IsD g.edges s y b) {e : Edge} (he : e ∈ g.edges) (q : 0 < con g.edges s y b e) : e.dst = y ∧ e.long ≤ b ∧ IsD g.edges s e.src (b - e.long) ∧ WB.con g.edges s y b e = W g.edges s e.src (b - e.long) := by
  unfold WB.con at q ⊢
  split at q
  · rename_i c
    rw [if_pos c]
    refine ⟨c.1, c.2.2, ⟨q, fun L hL => ?_⟩, rfl⟩
    rcases Nat.eq_zero_or_pos (W g.edges s e.src L) with r | r
    · exact r
    · have h2 := W_step o he (s := s) L
      rw [c.1] at h2
      have := h.2 (L + e.long) (by omega)
      omega
  · omega

/-! nodes, rank -/
theorem mem_nodes {x : Nat} : x ∈ nodes g ↔ 1 ≤ x ∧ x ≤ g.many := by
  unfold nodes
  rw [List.mem_map]
  constructor
  · rintro ⟨i, hi, rfl⟩
    rw [List.mem_range] at hi
    omega
  · intro h
    exact ⟨x - 1, by rw [List.mem_range]; omega, by omega⟩
theorem nodes_nd : (nodes g).Nodup := by
  unfold nodes
  refine List.Pairwise.map _ (fun a b (h : a ≠ b) => ?_) (List.nodup_range (n := g.many))
  omega
theorem nodes_len : (nodes g).length = g.many := by
  unfold nodes
  rw [List.length_map, List.length_range]
def nearer (es : List Edge) (s b z : Nat) : Bool := (List.range b).any fun c => W es s z c != 0
theorem nearer_iff {es : List Edge} {s b z : Nat} : nearer es s b z = true ↔ ∃ c, c < b ∧ 0 < W es s z c := by
  unfold nearer
  rw [List.any_eq_true]
  constructor
  · rintro ⟨c, hc, h⟩
    rw [List.mem_range] at hc
    refine ⟨c, hc, ?_⟩
    have : W es s z c ≠ 0 := by simpa using h
    omega
  · rintro ⟨c, hc, h⟩
    exact ⟨c, List.mem_range.mpr hc, by have : W es s z c ≠ 0 := by omega
                                        simpa using this⟩
def rank (g : Graph) (s b : Nat) : Nat := ((nodes g).filter (nearer g.edges s b)).length
theorem filter_lt {α : Type} {p q : α → Bool} {l : List α} (h : ∀ x ∈ l, p x = true → q x = true) {x : α} (hx : x ∈ l) (hq : q x = true) (hp : p x = false) : (l.filter p).length < (l.filter q).length := by
  induction l with
  | nil => cases hx
  | cons a l ih =>
    have hle : (l.filter p).length ≤ (l.filter q).length := by
      clear ih hx
      induction l with
      | nil => simp
      | cons c l ih2 =>
        have h2 := ih2 (fun y hy => h y (by
          rcases List.mem_cons.mp hy with r | r
          · rw [r]; exact List.mem_cons_self
          · exact List.mem_cons_of_mem _ (List.mem_cons_of_mem _ r)))
        rw [List.filter_cons, List.filter_cons]
        by_cases hc : p c = true
        · rw [if_pos hc, if_pos (h c (List.mem_cons_of_mem _ List.mem_cons_self) hc), List.length_cons, List.length_cons]
          omega
        · rw [if_neg hc]
          split
          · rw [List.length_cons]; omega
          · exact h2
    rw [List.filter_cons, List.filter_cons]
    rcases List.mem_cons.mp hx with r | r
    · subst r
      rw [hp, hq]
      simp
      omega
    · have h2 := ih (fun y hy => h y (List.mem_cons_of_mem _ hy)) r
      by_cases hc : p a = true
      · rw [if_pos hc, if_pos (h a List.mem_cons_self hc), List.length_cons, List.length_cons]
        omega
      · rw [if_neg hc]
        split
        · rw [List.length_cons]; omega
        · exact h2
theorem rank_lt {a b z : Nat} (hz : z ∈ nodes g) (h : IsD g.edges s z a) (hab : a < b) : rank g s a < rank g s b := by
  unfold rank
  refine filter_lt (x := z) (fun x _ hx => ?_) hz (nearer_iff.mpr ⟨a, hab, h.1⟩) ?_
  · obtain ⟨c, hc, hw⟩ := nearer_iff.mp hx
    exact nearer_iff.mpr ⟨c, by omega, hw⟩
  · rw [Bool.eq_false_iff]
    intro q
    obtain ⟨c, hc, hw⟩ := nearer_iff.mp q
    have := h.2 c hc
    omega
theorem rank_le {b y : Nat} (hy : y ∈ nodes g) (h : IsD g.edges s y b) : rank g s b < g.many := by
  have h1 : rank g s b < ((nodes g).filter fun _ => true).length := by
    unfold rank
    refine filter_lt (x := y) (fun _ _ _ => rfl) hy rfl ?_
    rw [Bool.eq_false_iff]
    intro q
    obtain ⟨c, hc, hw⟩ := nearer_iff.mp q
    have := h.2 c hc
    omega
  rw [List.filter_eq_self.mpr (fun _ _ => rfl), nodes_len] at h1
  exact h1

/-! the specification's rows -/
def val (b : Nat) : Far → Nat
  | none => 0
  | some x => if x.1 = b then x.2 else 0
def Low (b : Nat) (a : Far) : Prop := ∀ x, a = some x → b ≤ x.1
theorem pick_low {b : Nat} {a c : Far} (h : Low b a) (k : Low b c) : Low b (pick a c) ∧ val b (pick a c) = val b a + val b c := by
  cases a with
  | none => exact ⟨by cases c <;> exact k, by cases c <;> simp [pick, val]⟩
  | some x =>
    cases c with
    | none => exact ⟨h, by simp [pick, val]⟩
    | some y =>
      have hx := h x rfl
      have hy := k y rfl
      unfold pick
      dsimp only
      by_cases h1 : x.1 < y.1
      · rw [if_pos h1]
        refine ⟨h, ?_⟩
        unfold val
        dsimp only
        rw [if_neg (show ¬ y.1 = b by omega), Nat.add_zero]
      · rw [if_neg h1]
        by_cases h2 : y.1 < x.1
        · rw [if_pos h2]
          refine ⟨k, ?_⟩
          unfold val
          dsimp only
          rw [if_neg (show ¬ x.1 = b by omega), Nat.zero_add]
        · rw [if_neg h2]
          have e : x.1 = y.1 := by omega
          refine ⟨fun z hz => by cases hz; exact hx, ?_⟩
          unfold val
          dsimp only
          rw [e]
          by_cases h3 : y.1 = b
          · rw [if_pos h3, if_pos h3, if_pos h3]
          · rw [if_neg h3, if_neg h3, if_neg h3]
def rowCon (r : Gq05.Row) (e : Edge) : Far := (at_ r e.src).map fun x => (x.1 + e.long, x.2)
theorem fold_low {b y : Nat} {r : Gq05.Row} : ∀ (es : List Edge) (a : Far), Low b a → (∀ e ∈ es, e.dst = y → Low b (rowCon r e)) →
    Low b (es.foldl (fun a e => if e.dst = y then pick a ((at_ r e.src).map fun x => (x.1 + e.long, x.2)) else a) a) ∧
    val b (es.foldl (fun a e => if e.dst = y then pick a ((at_ r e.src).map fun x => (x.1 + e.long, x.2)) else a) a) = val b a + (es.map fun e => if e.dst = y then val b (rowCon r e) else 0).sum
  | [], a, h, _ => ⟨h, by simp⟩
  | e :: es, a, h, k => by
    rw [List.foldl_cons]
    by_cases he : e.dst = y
    · rw [if_pos he]
      have h1 := pick_low h (k e List.mem_cons_self he)
      have h2 := fold_low es _ h1.1 fun x hx => k x (List.mem_cons_of_mem _ hx)
      refine ⟨h2.1, h2.2.trans ?_⟩
      rw [h1.2, List.map_cons, List.sum_cons, if_pos he]
      omega
    · rw [if_neg he]
      have h2 := fold_low es a h fun x hx => k x (List.mem_cons_of_mem _ hx)
      refine ⟨h2.1, h2.2.trans ?_⟩
      rw [List.map_cons, List.sum_cons, if_neg he, Nat.zero_add]
theorem fold_some {y : Nat} {r : Gq05.Row} : ∀ (es : List Edge) (a : Far) (x : Nat × Nat), es.foldl (fun a e => if e.dst = y then pick a ((at_ r e.src).map fun x => (x.1 + e.long, x.2)) else a) a = some x →
    (∃ n, a = some (x.1, n)) ∨ ∃ e ∈ es, e.dst = y ∧ ∃ n, rowCon r e = some (x.1, n)
  | [], a, x, h => .inl ⟨x.2, h⟩
  | e :: es, a, x, h => by
    rw [List.foldl_cons] at h
    rcases fold_some es _ x h with ⟨n, h1⟩ | ⟨e', he', hd, hn⟩
    · split at h1
      · rename_i he
        have h1 : pick a (rowCon r e) = some (x.1, n) := h1
        cases ha : a with
        | none =>
          rw [ha] at h1
          refine .inr ⟨e, List.mem_cons_self, he, n, ?_⟩
          cases hr : rowCon r e with
          | none => rw [hr] at h1; simp [pick] at h1
          | some z => rw [hr] at h1; simpa [pick] using h1
        | some u =>
          cases hr : rowCon r e with
          | none =>
            rw [ha, hr] at h1
            have : u = (x.1, n) := by simpa [pick] using h1
            exact .inl ⟨n, by rw [this]⟩
          | some z =>
            rw [ha, hr] at h1
            unfold pick at h1
            dsimp only at h1
            split at h1
            · have : u = (x.1, n) := by simpa using h1
              exact .inl ⟨n, by rw [this]⟩
            · split at h1
              · have : z = (x.1, n) := by simpa using h1
                exact .inr ⟨e, List.mem_cons_self, he, n, by rw [hr, this]⟩
              · have : u.1 = x.1 := by
                  have h1 := Option.some.inj h1
                  injection h1
                exact .inl ⟨u.2, by rw [← this]⟩
      · exact .inl ⟨n, h1⟩
    · exact .inr ⟨e', List.mem_cons_of_mem _ he', hd, hn⟩
theorem at_map {α : Type} (f : Nat → Option α) {y : Nat} (hy : 1 ≤ y ∧ y ≤ g.many) : ((nodes g).map f).getD (y - 1) none = f y := by
  unfold nodes
  rw [List.map_map, List.getD_eq_getElem?_getD, List.getElem?_map, List.getElem?_range (by omega)]
  show f (y - 1 + 1) = f y
  rw [Nat.sub_add_cancel hy.1]
theorem at_out {α : Type} (f : Nat → Option α) {y : Nat} (hy : g.many < y) : ((nodes g).map f).getD (y - 1) none = none := by
  unfold nodes
  rw [List.map_map, List.getD_eq_getElem?_getD, List.getElem?_map, List.getElem?_eq_none (by rw [List.length_range]; omega)]
  rfl
theorem row_succ (s k : Nat) {y : Nat} (hy : 1 ≤ y ∧ y ≤ g.many) : at_ (rowFrom g s (k + 1)) y = g.edges.foldl (fun a e => if e.dst = y then pick a ((at_ (rowFrom g s k) e.src).map fun x => (x.1 + e.long, x.2)) else a) (if y = s then some (0, 1) else none) := by
  show at_ (onward g s (rowFrom g s k)) y = _
  exact at_map _ hy
theorem row_zero (s : Nat) {y : Nat} (hy : 1 ≤ y ∧ y ≤ g.many) : at_ (rowFrom g s 0) y = if y = s then some (0, 1) else none := at_map _ hy
/-- what stands in a row is some walk's length -/
theorem row_sound (o : Ok g) : ∀ (k y : Nat) (x : Nat × Nat), 1 ≤ y ∧ y ≤ g.many → at_ (rowFrom g s k) y = some x → 0 < W g.edges s y x.1
  | 0, y, x, hy, h => by
    rw [row_zero s hy] at h
    split at h
    · rename_i q
      cases h
      rw [q, W_start]
      omega
    · cases h
  | k + 1, y, x, hy, h => by
    rw [row_succ s k hy] at h
    rcases fold_some _ _ _ h with ⟨n, h1⟩ | ⟨e, he, hd, n, h1⟩
    · split at h1
      · rename_i q
        have : x.1 = 0 := (congrArg Prod.fst (Option.some.inj h1)).symm
        rw [q, this, W_start]
        omega
      · cases h1
    · unfold rowCon at h1
      cases hr : at_ (rowFrom g s k) e.src with
      | none => rw [hr] at h1; cases h1
      | some z =>
        rw [hr] at h1
        have h2 := row_sound o k e.src z (o.ed e he).1 hr
        have h3 : z.1 + e.long = x.1 := congrArg Prod.fst (Option.some.inj h1)
        have h4 := W_step o he (s := s) z.1
        rw [hd, h3] at h4
        omega
theorem row_exact (o : Ok g) (hs : 1 ≤ s ∧ s ≤ g.many) : ∀ (k y b : Nat), IsD g.edges s y b → rank g s b ≤ k → at_ (rowFrom g s k) y = some (b, W g.edges s y b)
  | 0, y, b, h, hk => by
    have hy := W_node o hs h.1
    rcases Nat.eq_zero_or_pos b with q | q
    · subst q
      have e := h.zero
      subst e
      rw [row_zero y hy, if_pos rfl, W_start]
    · have := rank_lt (s := s) (mem_nodes.mpr hs) (IsD.self g.edges s) q
      omega
  | k + 1, y, b, h, hk => by
    have hy := W_node o hs h.1
    rw [row_succ s k hy]
    have h1 := fold_low (b := b) (y := y) (r := rowFrom g s k) g.edges (if y = s then some (0, 1) else none) (fun x hx => by
        split at hx
        · rename_i q
          cases hx
          rw [q] at h
          have := h.le (L := 0) (by rw [W_start]; omega)
          exact this
        · cases hx) (fun e he hd x hx => by
        unfold rowCon at hx
        cases hr : at_ (rowFrom g s k) e.src with
        | none => rw [hr] at hx; cases hx
        | some z =>
          rw [hr] at hx
          have h3 : z.1 + e.long = x.1 := congrArg Prod.fst (Option.some.inj hx)
          have h2 := row_sound o k e.src z (o.ed e he).1 hr
          have h4 := W_step o he (s := s) z.1
          rw [hd, h3] at h4
          exact h.le (by omega))
    have h2 : (g.edges.map fun e => if e.dst = y then val b (rowCon (rowFrom g s k) e) else 0).sum = (g.edges.map (con g.edges s y b)).sum := by
      refine sum_congr _ fun e he => ?_
      unfold con
      have hlong := (o.ed e he).2.2.2.1
      by_cases hd : e.dst = y
      · rw [if_pos hd]
        rcases Nat.eq_zero_or_pos (con g.edges s y b e) with q | q
        · have q' := q
          unfold con at q'
          rw [q']
          unfold rowCon
          cases hr : at_ (rowFrom g s k) e.src with
          | none => rfl
          | some z =>
            show (if z.1 + e.long = b then z.2 else 0) = 0
            refine if_neg fun hz => ?_
            have h2 := row_sound o k e.src z (o.ed e he).1 hr
            rw [if_pos ⟨hd, by omega, by omega⟩, show b - e.long = z.1 by omega] at q'
            omega
        · obtain ⟨_, hl, hD, hc⟩ := h.con o he q
          have hc' := hc
          unfold WB.con at hc'
          rw [hc']
          have hr := row_exact o hs k e.src (b - e.long) hD (by
            have := rank_lt (s := s) (mem_nodes.mpr (o.ed e he).1) hD (show b - e.long < b by omega)
            omega)
          unfold rowCon
          rw [hr]
          show (if b - e.long + e.long = b then _ else 0) = _
          rw [if_pos (by omega)]
      · rw [if_neg hd, if_neg (fun q => hd q.1)]
    have h3 := h1.2
    rw [h2] at h3
    have h4 : val b (if y = s then some (0, 1) else none) = if y = s ∧ b = 0 then 1 else 0 := by
      by_cases q : y = s
      · rw [if_pos q]
        show (if 0 = b then 1 else 0) = _
        by_cases q2 : b = 0
        · rw [if_pos q2.symm, if_pos ⟨q, q2⟩]
        · rw [if_neg (fun r => q2 r.symm), if_neg (fun r => q2 r.2)]
      · rw [if_neg q, if_neg (fun r => q r.1)]
        rfl
    rw [h4, ← W_eq] at h3
    have h5 := h.1
    generalize hres : (g.edges.foldl (fun a e => if e.dst = y then pick a ((at_ (rowFrom g s k) e.src).map fun x => (x.1 + e.long, x.2)) else a) (if y = s then some (0, 1) else none)) = res at h3 ⊢
    cases res with
    | none => rw [show val b none = 0 from rfl] at h3; omega
    | some x =>
      have h6 : (if x.1 = b then x.2 else 0) = W g.edges s y b := h3
      split at h6
      · rename_i q
        rw [← h6, ← q]
      · omega
theorem far_row {x y : Nat} (hx : 1 ≤ x ∧ x ≤ g.many) : Gq05.far (table g) x y = at_ (row g x) y := by
  unfold Gq05.far table nodes
  rw [List.map_map, List.getD_eq_getElem?_getD, List.getElem?_map, List.getElem?_range (by omega)]
  show at_ (row g (x - 1 + 1)) y = _
  rw [Nat.sub_add_cancel hx.1]
/-- **what the specification's table holds** -/
theorem far_some (o : Ok g) (hs : 1 ≤ s ∧ s ≤ g.many) {y b : Nat} (h : IsD g.edges s y b) : Gq05.far (table g) s y = some (b, W g.edges s y b) := by
  rw [far_row hs]
  have hy := W_node o hs h.1
  exact row_exact o hs g.many y b h (Nat.le_of_lt (rank_le (mem_nodes.mpr hy) h))
theorem far_none (o : Ok g) (hs : 1 ≤ s ∧ s ≤ g.many) {y : Nat} (hy : 1 ≤ y ∧ y ≤ g.many) (h : ∀ b, ¬ IsD g.edges s y b) : Gq05.far (table g) s y = none := by
  rw [far_row hs]
  cases hr : at_ (row g s) y with
  | none => rfl
  | some x =>
    have h1 := row_sound o g.many y x hy hr
    obtain ⟨b, hb, _⟩ := IsD.ex _ h1
    exact absurd hb (h b)
theorem far_cases (o : Ok g) (hs : 1 ≤ s ∧ s ≤ g.many) {y : Nat} (hy : 1 ≤ y ∧ y ≤ g.many) :
    (Gq05.far (table g) s y = none ∧ ∀ b, ¬ IsD g.edges s y b) ∨ ∃ b, Gq05.far (table g) s y = some (b, W g.edges s y b) ∧ IsD g.edges s y b := by
  by_cases h : ∃ b, IsD g.edges s y b
  · obtain ⟨b, h⟩ := h
    exact .inr ⟨b, far_some o hs h, h⟩
  · exact .inl ⟨far_none o hs hy fun b q => h ⟨b, q⟩, fun b q => h ⟨b, q⟩⟩
end
end WB
end
section
set_option autoImplicit false
set_option linter.all false
namespace WB
open Gq05 (Edge Graph nodes long?)
/-! ### a dict of numbers -/
abbrev ND := List (Nat × Nat)
def ndGet (d : ND) (k : Nat) : Option Nat := (d.find? fun p => decide (p.1 = k)).map fun p => p.2
def ndPut (d : ND) (k v : Nat) : ND := if (d.any fun p => decide (p.1 = k)) = true then d.map fun p => if p.1 = k then (p.1, v) else p else d ++ [(k, v)]
theorem ndGet_cons (p : Nat × Nat) (d : ND) (j : Nat) : ndGet (p :: d) j = if p.1 = j then some p.2 else ndGet d j := by
  unfold ndGet
  rw [List.find?_cons]
  by_cases h : p.1 = j <;> simp [h]
theorem ndGet_map (k v j : Nat) : ∀ d : ND, ndGet (d.map fun p => if p.1 = k then (p.1, v) else p) j = if j = k then (ndGet d k).map fun _ => v else ndGet d j
  | [] => by
    by_cases h : j = k <;> simp [ndGet, h]
  | p :: d => by
    rw [List.map_cons, ndGet_cons, ndGet_cons, ndGet_cons, ndGet_map k v j d]
    by_cases h : p.1 = k
    · by_cases h2 : j = k
      · subst h2
        simp [h]
      · have : ¬ k = j := fun q => h2 q.symm
        simp [h, h2, this]
    · by_cases h2 : j = k
      · subst h2
        simp [h]
      · simp [h, h2]
theorem ndGet_app (d : ND) (k v j : Nat) : ndGet (d ++ [(k, v)]) j = (ndGet d j).or (if k = j then some v else none) := by
  induction d with
  | nil => simp [ndGet_cons, ndGet]
  | cons p d ih =>
    rw [List.cons_append, ndGet_cons, ndGet_cons, ih]
    by_cases h : p.1 = j <;> simp [h]
theorem nd_any (d : ND) (k : Nat) : (d.any fun p => decide (p.1 = k)) = (ndGet d k).isSome := by
  induction d with
  | nil => rfl
  | cons p d ih =>
    rw [List.any_cons, ndGet_cons, ih]
    by_cases h : p.1 = k <;> simp [h]
theorem ndGet_put (d : ND) (k v j : Nat) : ndGet (ndPut d k v) j = if j = k then some v else ndGet d j := by
  unfold ndPut
  rw [nd_any]
  cases h : ndGet d k with
  | none =>
    rw [if_neg (by simp), ndGet_app]
    by_cases h2 : j = k
    · subst h2
      simp [h]
    · have : ¬ k = j := fun q => h2 q.symm
      simp [h2, this]
  | some x =>
    rw [if_pos (show (some x).isSome = true from rfl), ndGet_map, h]
    rfl
theorem nd_mem {d : ND} {k : Nat} : k ∈ d.map (fun p => p.1) ↔ (ndGet d k).isSome = true := by
  rw [← nd_any, List.any_eq_true, List.mem_map]
  constructor
  · rintro ⟨p, h1, h2⟩
    exact ⟨p, h1, by simpa using h2⟩
  · rintro ⟨p, h1, h2⟩
    exact ⟨p, h1, by simpa using h2⟩
theorem nd_keys (d : ND) (k v : Nat) : (ndPut d k v).map (fun p => p.1) = if (ndGet d k).isSome = true then d.map (fun p => p.1) else d.map (fun p => p.1) ++ [k] := by
  unfold ndPut
  rw [nd_any]
  split
  · rw [List.map_map]
    refine List.map_congr_left fun p _ => ?_
    show (if p.1 = k then (p.1, v) else p).1 = p.1
    split <;> rfl
  · rw [List.map_append]
    rfl
theorem nd_nodup {d : ND} (k v : Nat) (h : (d.map fun p => p.1).Nodup) : ((ndPut d k v).map fun p => p.1).Nodup := by
  rw [nd_keys]
  split
  · exact h
  · rename_i hk
    rw [List.nodup_append]
    refine ⟨h, by simp, fun a ha b hb => ?_⟩
    have : b = k := by simpa using hb
    rw [this]
    intro q
    rw [q] at ha
    exact hk (nd_mem.mp ha)
theorem nd_len (d : ND) (k v : Nat) : (ndPut d k v).length ≤ d.length + 1 := by
  unfold ndPut
  split <;> simp
/-! ### how long the shortest ways are: the program's rounds -/
def relax (d : ND) (x y l : Nat) : ND := match ndGet d x with
  | none => d
  | some a => match ndGet d y with
    | none => ndPut d y (a + l)
    | some b => if a + l < b then ndPut d y (a + l) else d
def oneRound (es : List Edge) (d : ND) : ND := es.foldl (fun d e => relax d e.src e.dst e.long) d
def rounds (es : List Edge) (s : Nat) : Nat → ND
  | 0 => [(s, 0)]
  | n + 1 => oneRound es (rounds es s n)
section
variable {g : Graph} {s : Nat}
structure Sound (g : Graph) (s : Nat) (d : ND) : Prop where
  nd : (d.map fun p => p.1).Nodup
  walk : ∀ y a, ndGet d y = some a → 0 < W g.edges s y a
  st : ndGet d s = some 0
theorem relax_put {d : ND} {x y l : Nat} : relax d x y l = d ∨ ∃ a, ndGet d x = some a ∧ relax d x y l = ndPut d y (a + l) ∧ ∀ b, ndGet d y = some b → a + l < b := by
  unfold relax
  cases h : ndGet d x with
  | none => exact .inl rfl
  | some a =>
    dsimp only
    cases h2 : ndGet d y with
    | none => exact .inr ⟨a, rfl, rfl, fun b q => by cases q⟩
    | some b =>
      dsimp only
      by_cases h3 : a + l < b
      · rw [if_pos h3]
        exact .inr ⟨a, rfl, rfl, fun c q => by cases q; exact h3⟩
      · rw [if_neg h3]
        exact .inl rfl
theorem Sound.relax (o : Ok g) {d : ND} (h : Sound g s d) {e : Edge} (he : e ∈ g.edges) : Sound g s (relax d e.src e.dst e.long) := by
  rcases relax_put (d := d) (x := e.src) (y := e.dst) (l := e.long) with q | ⟨a, ha, q, hb⟩
  · rw [q]
    exact h
  · rw [q]
    refine ⟨nd_nodup _ _ h.nd, fun y c hc => ?_, ?_⟩
    · rw [ndGet_put] at hc
      split at hc
      · rename_i z
        cases hc
        rw [z]
        exact Nat.lt_of_lt_of_le (h.walk _ _ ha) (W_step o he a)
      · exact h.walk y c hc
    · rw [ndGet_put]
      split
      · rename_i z
        have := hb 0 (by rw [← z]; exact h.st)
        omega
      · exact h.st
theorem relax_keeps (o : Ok g) {d : ND} (h : Sound g s d) {e : Edge} (he : e ∈ g.edges) {y b : Nat} (hD : IsD g.edges s y b) (hy : ndGet d y = some b) : ndGet (relax d e.src e.dst e.long) y = some b := by
  rcases relax_put (d := d) (x := e.src) (y := e.dst) (l := e.long) with q | ⟨a, ha, q, hb⟩
  · rw [q]
    exact hy
  · rw [q, ndGet_put]
    split
    · rename_i z
      have h1 := hb b (by rw [← z]; exact hy)
      have h2 := Nat.lt_of_lt_of_le (h.walk _ _ ha) (W_step o he (s := s) a)
      rw [← z] at h2
      have := hD.le h2
      omega
    · exact hy
theorem relax_hits (o : Ok g) {d : ND} (h : Sound g s d) {e : Edge} (he : e ∈ g.edges) {a : Nat} (ha : ndGet d e.src = some a) (hD : IsD g.edges s e.dst (a + e.long)) : ndGet (relax d e.src e.dst e.long) e.dst = some (a + e.long) := by
  have h2 := (h.relax o he).walk e.dst
  unfold WB.relax at h2 ⊢
  rw [ha] at h2 ⊢
  dsimp only at h2 ⊢
  cases hb : ndGet d e.dst with
  | none =>
    dsimp only
    rw [ndGet_put, if_pos rfl]
  | some b =>
    dsimp only
    by_cases h3 : a + e.long < b
    · rw [if_pos h3, ndGet_put, if_pos rfl]
    · rw [if_neg h3, hb]
      have := hD.le (h.walk _ _ hb)
      congr 1
      have h4 : b ≤ a + e.long := by omega
      omega
theorem fold_sound (o : Ok g) : ∀ (es : List Edge) (d : ND), (∀ e ∈ es, e ∈ g.edges) → Sound g s d → Sound g s (es.foldl (fun d e => relax d e.src e.dst e.long) d)
  | [], _, _, h => h
  | e :: es, d, hs, h => fold_sound o es _ (fun x hx => hs x (List.mem_cons_of_mem _ hx)) (h.relax o (hs e List.mem_cons_self))
theorem fold_keeps (o : Ok g) {y b : Nat} (hD : IsD g.edges s y b) : ∀ (es : List Edge) (d : ND), (∀ e ∈ es, e ∈ g.edges) → Sound g s d → ndGet d y = some b → ndGet (es.foldl (fun d e => relax d e.src e.dst e.long) d) y = some b
  | [], _, _, _, hy => hy
  | e :: es, d, hs, h, hy => fold_keeps o hD es _ (fun x hx => hs x (List.mem_cons_of_mem _ hx)) (h.relax o (hs e List.mem_cons_self)) (relax_keeps o h (hs e List.mem_cons_self) hD hy)
theorem fold_hits (o : Ok g) {e0 : Edge} {a : Nat} (h0 : IsD g.edges s e0.src a) (hD : IsD g.edges s e0.dst (a + e0.long)) : ∀ (es : List Edge) (d : ND), (∀ e ∈ es, e ∈ g.edges) → Sound g s d → e0 ∈ es → ndGet d e0.src = some a →
    ndGet (es.foldl (fun d e => relax d e.src e.dst e.long) d) e0.dst = some (a + e0.long)
  | e :: es, d, hs, h, hm, ha => by
    have he := hs e List.mem_cons_self
    have hs' := fun x hx => hs x (List.mem_cons_of_mem e hx)
    rcases List.mem_cons.mp hm with q | q
    · subst q
      exact fold_keeps o hD es _ hs' (h.relax o he) (relax_hits o h he ha hD)
    · exact fold_hits o h0 hD es _ hs' (h.relax o he) q (relax_keeps o h he h0 ha)
theorem rounds_sound (o : Ok g) : ∀ n, Sound g s (rounds g.edges s n)
  | 0 => by
    refine ⟨by simp [rounds], fun y a h => ?_, ?_⟩
    · have h : ndGet [(s, 0)] y = some a := h
      rw [ndGet_cons] at h
      split at h
      · rename_i q
        cases h
        have q : s = y := q
        rw [← q, W_start]
        omega
      · cases h
    · show ndGet [(s, 0)] s = some 0
      rw [ndGet_cons, if_pos rfl]
  | n + 1 => fold_sound o _ _ (fun _ h => h) (rounds_sound o n)
theorem rounds_exact (o : Ok g) (hs : 1 ≤ s ∧ s ≤ g.many) : ∀ (n y b : Nat), IsD g.edges s y b → rank g s b ≤ n → ndGet (rounds g.edges s n) y = some b
  | 0, y, b, h, hk => by
    rcases Nat.eq_zero_or_pos b with q | q
    · subst q
      rw [h.zero]
      exact (rounds_sound o 0).st
    · have := rank_lt (s := s) (mem_nodes.mpr hs) (IsD.self g.edges s) q
      omega
  | n + 1, y, b, h, hk => by
    by_cases hy : y = s
    · have := (hy ▸ h).uniq (IsD.self g.edges s)
      subst this
      rw [hy]
      exact (rounds_sound o (n + 1)).st
    · obtain ⟨e, he, hd, hl, hp⟩ := h.pred o hy
      have hlong := (o.ed e he).2.2.2.1
      have h1 := rounds_exact o hs n e.src (b - e.long) hp (by
        have := rank_lt (s := s) (mem_nodes.mpr (o.ed e he).1) hp (show b - e.long < b by omega)
        omega)
      have h2 : b - e.long + e.long = b := by omega
      have h3 := fold_hits o hp (by rw [h2, hd]; exact h) g.edges _ (fun _ q => q) (rounds_sound o n) he h1
      rw [h2, hd] at h3
      exact h3
/-- **the dict of lengths** -/
structure Lens (es : List Edge) (s : Nat) (d : ND) : Prop where
  nd : (d.map fun p => p.1).Nodup
  iff : ∀ y a, ndGet d y = some a ↔ IsD es s y a
theorem lens_ok (o : Ok g) (hs : 1 ≤ s ∧ s ≤ g.many) : Lens g.edges s (rounds g.edges s (g.many - 1)) := by
  have h1 := rounds_sound (s := s) o (g.many - 1)
  have h2 : ∀ y b, IsD g.edges s y b → ndGet (rounds g.edges s (g.many - 1)) y = some b := fun y b h => by
    refine rounds_exact o hs _ y b h ?_
    have := rank_le (mem_nodes.mpr (W_node o hs h.1)) h
    omega
  refine ⟨h1.nd, fun y a => ⟨fun h => ?_, h2 y a⟩⟩
  obtain ⟨b, hb, _⟩ := IsD.ex _ (h1.walk y a h)
  rw [h2 y b hb] at h
  cases h
  exact hb
end
end WB
end
section
set_option autoImplicit false
set_option linter.all false
namespace WB
open Gq05 (Edge Graph nodes long?)
theorem sum_single {α : Type} {f : α → Nat} {a : α} : ∀ {l : List α}, l.Nodup → a ∈ l → (∀ x ∈ l, x ≠ a → f x = 0) → (l.map f).sum = f a
  | [], _, h, _ => by cases h
  | b :: l, nd, h, z => by
    rw [List.nodup_cons] at nd
    rw [List.map_cons, List.sum_cons]
    by_cases e : b = a
    · subst e
      rw [sum_congr (k := fun _ => 0) l (fun x hx => z x (List.mem_cons_of_mem _ hx) fun q => nd.1 (q ▸ hx)), sum_zero, Nat.add_zero]
    · have hm : a ∈ l := by
        rcases List.mem_cons.mp h with q | q
        · exact absurd q.symm e
        · exact q
      rw [z b List.mem_cons_self e, Nat.zero_add, sum_single nd.2 hm fun x hx => z x (List.mem_cons_of_mem _ hx)]
theorem sum_none {α : Type} {f : α → Nat} {l : List α} (z : ∀ x ∈ l, f x = 0) : (l.map f).sum = 0 := by
  rw [sum_congr (k := fun _ => 0) l z, sum_zero]
section
variable {g : Graph} {s : Nat}
theorem nd_of_map {α β : Type} {f : α → β} : ∀ {l : List α}, (l.map f).Nodup → l.Nodup
  | [], _ => List.nodup_nil
  | a :: l, h => by
    rw [List.map_cons, List.nodup_cons] at h
    exact List.nodup_cons.mpr ⟨fun q => h.1 (List.mem_map.mpr ⟨a, q, rfl⟩), nd_of_map h.2⟩
theorem edges_nd (o : Ok g) : g.edges.Nodup := nd_of_map o.nd
theorem edge_uniq (o : Ok g) {e f : Edge} (he : e ∈ g.edges) (hf : f ∈ g.edges) (h1 : e.src = f.src) (h2 : e.dst = f.dst) : e = f := by
  have : ∀ {l : List Edge}, (l.map fun e => (e.src, e.dst)).Nodup → e ∈ l → f ∈ l → e = f := by
    intro l
    induction l with
    | nil => intro _ h; cases h
    | cons a l ih =>
      intro nd he hf
      rw [List.map_cons, List.nodup_cons] at nd
      rcases List.mem_cons.mp he with q | q <;> rcases List.mem_cons.mp hf with r | r
      · rw [q, r]
      · exact absurd (List.mem_map.mpr ⟨f, r, by rw [← h1, ← h2, q]⟩) nd.1
      · exact absurd (List.mem_map.mpr ⟨e, q, by rw [h1, h2, r]⟩) nd.1
      · exact ih nd.2 q r
  exact this o.nd he hf
theorem long_some {x y l : Nat} (h : long? g x y = some l) : ∃ e ∈ g.edges, e.src = x ∧ e.dst = y ∧ e.long = l := by
  unfold long? at h
  rw [Option.map_eq_some_iff] at h
  obtain ⟨e, he, hl⟩ := h
  have := List.find?_some he
  rw [Bool.and_eq_true, beq_iff_eq, beq_iff_eq] at this
  exact ⟨e, List.mem_of_find?_eq_some he, this.1, this.2, hl⟩
theorem long_none {x y : Nat} (h : long? g x y = none) {e : Edge} (he : e ∈ g.edges) : ¬ (e.src = x ∧ e.dst = y) := by
  unfold long? at h
  rw [Option.map_eq_none_iff, List.find?_eq_none] at h
  have := h e he
  intro q
  exact this (by rw [Bool.and_eq_true, beq_iff_eq, beq_iff_eq]; exact q)
/-- a sum over the edges into y is one over the nodes they come from -/
theorem sum_into (o : Ok g) (y : Nat) (h : Nat → Nat → Nat) {xs : List Nat} (nd : xs.Nodup) (cov : ∀ e ∈ g.edges, e.dst = y → h e.src e.long ≠ 0 → e.src ∈ xs) :
    (g.edges.map fun e => if e.dst = y then h e.src e.long else 0).sum = (xs.map fun x => match long? g x y with | some l => h x l | none => 0).sum := by
  have e1 : (g.edges.map fun e => if e.dst = y then h e.src e.long else 0).sum = (g.edges.map fun e => (xs.map fun x => if x = e.src ∧ e.dst = y then h e.src e.long else 0).sum).sum := by
    refine sum_congr _ fun e he => ?_
    by_cases hd : e.dst = y
    · rw [if_pos hd]
      by_cases hx : e.src ∈ xs
      · rw [sum_single nd hx fun x _ q => if_neg fun r => q r.1, if_pos ⟨rfl, hd⟩]
      · have : h e.src e.long = 0 := by
          rcases Nat.eq_zero_or_pos (h e.src e.long) with q | q
          · exact q
          · exact absurd (cov e he hd (by omega)) hx
        rw [this, sum_none]
        intro x _
        split <;> rfl
    · rw [if_neg hd, sum_none]
      intro x _
      rw [if_neg fun r => hd r.2]
  rw [e1, sum_swap]
  refine sum_congr _ fun x hx => ?_
  cases hl : long? g x y with
  | none =>
    dsimp only
    refine sum_none fun e he => if_neg fun r => long_none hl he ⟨r.1.symm, r.2⟩
  | some l =>
    dsimp only
    obtain ⟨e, he, h1, h2, h3⟩ := long_some hl
    rw [sum_single (edges_nd o) he, if_pos ⟨h1.symm, h2⟩, h1, h3]
    intro f hf hne
    exact if_neg fun r => hne (edge_uniq o hf he (by rw [h1]; exact r.1.symm) (by rw [h2]; exact r.2))
/-- .. out of x is one over the nodes they lead to -/
theorem sum_out (o : Ok g) (x : Nat) (h : Nat → Nat → Nat) {ys : List Nat} (nd : ys.Nodup) (cov : ∀ e ∈ g.edges, e.src = x → h e.dst e.long ≠ 0 → e.dst ∈ ys) :
    (g.edges.map fun e => if e.src = x then h e.dst e.long else 0).sum = (ys.map fun y => match long? g x y with | some l => h y l | none => 0).sum := by
  have e1 : (g.edges.map fun e => if e.src = x then h e.dst e.long else 0).sum = (g.edges.map fun e => (ys.map fun y => if y = e.dst ∧ e.src = x then h e.dst e.long else 0).sum).sum := by
    refine sum_congr _ fun e he => ?_
    by_cases hd : e.src = x
    · rw [if_pos hd]
      by_cases hx : e.dst ∈ ys
      · rw [sum_single nd hx fun y _ q => if_neg fun r => q r.1, if_pos ⟨rfl, hd⟩]
      · have : h e.dst e.long = 0 := by
          rcases Nat.eq_zero_or_pos (h e.dst e.long) with q | q
          · exact q
          · exact absurd (cov e he hd (by omega)) hx
        rw [this, sum_none]
        intro y _
        split <;> rfl
    · rw [if_neg hd, sum_none]
      intro y _
      rw [if_neg fun r => hd r.2]
  rw [e1, sum_swap]
  refine sum_congr _ fun y hy => ?_
  cases hl : long? g x y with
  | none =>
    dsimp only
    refine sum_none fun e he => if_neg fun r => long_none hl he ⟨r.2, r.1.symm⟩
  | some l =>
    dsimp only
    obtain ⟨e, he, h1, h2, h3⟩ := long_some hl
    rw [sum_single (edges_nd o) he, if_pos ⟨h2.symm, h1⟩, h2, h3]
    intro f hf hne
    exact if_neg fun r => hne (edge_uniq o hf he (by rw [h1]; exact r.2) (by rw [h2]; exact r.1.symm))
/-! ### how many shortest ways there are, by the node ahead of the last -/
theorem count_into (o : Ok g) {y b : Nat} (h : IsD g.edges s y b) (hn : y ≠ s) {xs : List Nat} (nd : xs.Nodup) (cov : ∀ x a, IsD g.edges s x a → x ∈ xs) :
    W g.edges s y b = (xs.map fun x => match long? g x y with | some l => if l ≤ b then W g.edges s x (b - l) else 0 | none => 0).sum := by
  rw [W_eq, if_neg (fun q => hn q.1), Nat.zero_add, ← sum_into o y (fun x l => if l ≤ b then W g.edges s x (b - l) else 0) nd]
  · refine sum_congr _ fun e he => ?_
    unfold con
    have hl := (o.ed e he).2.2.2.1
    by_cases hd : e.dst = y
    · rw [if_pos hd]
      by_cases hb : e.long ≤ b
      · rw [if_pos hb, if_pos ⟨hd, by omega, hb⟩]
      · rw [if_neg hb, if_neg (by omega)]
    · rw [if_neg hd, if_neg (fun q => hd q.1)]
  · intro e he hd hz
    split at hz
    · obtain ⟨c, hc, _⟩ := IsD.ex _ (show 0 < W g.edges s e.src (b - e.long) by omega)
      exact cov _ _ hc
    · exact absurd rfl hz
/-! ### the first edge in place of the last -/
def fcon (es : List Edge) (s y L : Nat) (e : Edge) : Nat := if e.src = s ∧ 0 < e.long ∧ e.long ≤ L then W es e.dst y (L - e.long) else 0
theorem W_front (es : List Edge) : ∀ (L s y : Nat), W es s y L = (if y = s ∧ L = 0 then 1 else 0) + (es.map (fcon es s y L)).sum := by
  intro L
  induction L using Nat.strongRecOn with
  | ind L ih =>
    intro s y
    rw [W_eq]
    congr 1
    have a : (es.map (con es s y L)).sum = (es.map fun f => (if (f.dst = y ∧ 0 < f.long ∧ f.long ≤ L) ∧ f.src = s ∧ L - f.long = 0 then 1 else 0) + (es.map fun h => if (f.dst = y ∧ 0 < f.long ∧ f.long ≤ L) ∧ h.src = s ∧ 0 < h.long ∧ h.long ≤ L - f.long then W es h.dst f.src (L - f.long - h.long) else 0).sum).sum := by
      refine sum_congr _ fun f _ => ?_
      unfold con
      by_cases c : f.dst = y ∧ 0 < f.long ∧ f.long ≤ L
      · rw [if_pos c, ih (L - f.long) (by omega)]
        congr 1
        · by_cases q : f.src = s ∧ L - f.long = 0
          · rw [if_pos q, if_pos ⟨c, q⟩]
          · rw [if_neg q, if_neg fun r => q r.2]
        · refine sum_congr _ fun h _ => ?_
          unfold fcon
          by_cases q : h.src = s ∧ 0 < h.long ∧ h.long ≤ L - f.long
          · rw [if_pos q, if_pos ⟨c, q⟩]
          · rw [if_neg q, if_neg fun r => q r.2]
      · rw [if_neg c, if_neg fun r => c r.1, sum_none]
        intro h _
        exact if_neg fun r => c r.1
    have b : (es.map (fcon es s y L)).sum = (es.map fun h => (if (h.dst = y ∧ 0 < h.long ∧ h.long ≤ L) ∧ h.src = s ∧ L - h.long = 0 then 1 else 0) + (es.map fun f => if (f.dst = y ∧ 0 < f.long ∧ f.long ≤ L) ∧ h.src = s ∧ 0 < h.long ∧ h.long ≤ L - f.long then W es h.dst f.src (L - f.long - h.long) else 0).sum).sum := by
      refine sum_congr _ fun h _ => ?_
      unfold fcon
      by_cases c : h.src = s ∧ 0 < h.long ∧ h.long ≤ L
      · rw [if_pos c, W_eq]
        congr 1
        · by_cases q : y = h.dst ∧ L - h.long = 0
          · rw [if_pos q, if_pos ⟨⟨q.1.symm, c.2⟩, c.1, q.2⟩]
          · rw [if_neg q, if_neg fun r => q ⟨r.1.1.symm, r.2.2⟩]
        · refine sum_congr _ fun f _ => ?_
          unfold con
          by_cases q : f.dst = y ∧ 0 < f.long ∧ f.long ≤ L - h.long
          · rw [if_pos q, if_pos ⟨⟨q.1, q.2.1, by omega⟩, c.1, c.2.1, by omega⟩, show L - h.long - f.long = L - f.long - h.long by omega]
          · rw [if_neg q, if_neg fun r => q ⟨r.1.1, r.1.2.1, by omega⟩]
      · rw [if_neg c, if_neg fun r => c ⟨r.2.1, r.1.2⟩, sum_none]
        intro f _
        exact if_neg fun r => c ⟨r.2.1, r.2.2.1, by omega⟩
    rw [a, b, sum_add, sum_add, sum_swap]
theorem count_out (o : Ok g) {x y b : Nat} (hn : x ≠ y) : W g.edges x y b = ((nodes g).map fun z => match long? g x z with | some l => if l ≤ b then W g.edges z y (b - l) else 0 | none => 0).sum := by
  rw [W_front, if_neg (fun q => hn q.1.symm), Nat.zero_add, ← sum_out o x (fun z l => if l ≤ b then W g.edges z y (b - l) else 0) nodes_nd]
  · refine sum_congr _ fun e he => ?_
    unfold fcon
    have hl := (o.ed e he).2.2.2.1
    by_cases hd : e.src = x
    · rw [if_pos hd]
      by_cases hb : e.long ≤ b
      · rw [if_pos hb, if_pos ⟨hd, by omega, hb⟩]
      · rw [if_neg hb, if_neg (by omega)]
    · rw [if_neg hd, if_neg (fun q => hd q.1)]
  · intro e he _ _
    exact mem_nodes.mpr (o.ed e he).2.1
theorem W_first (o : Ok g) {e : Edge} (he : e ∈ g.edges) (y L : Nat) : W g.edges e.dst y L ≤ W g.edges e.src y (L + e.long) := by
  rw [W_front g.edges (L + e.long)]
  have h1 := le_sum (fcon g.edges e.src y (L + e.long)) g.edges e he
  have h2 : fcon g.edges e.src y (L + e.long) e = W g.edges e.dst y L := by
    unfold fcon
    rw [if_pos ⟨rfl, by have := (o.ed e he).2.2.2; omega, by omega⟩, Nat.add_sub_cancel]
  omega
/-! ### how many there can be -/
theorem W_bound (o : Ok g) (hs : 1 ≤ s ∧ s ≤ g.many) : ∀ (n y b : Nat), rank g s b ≤ n → IsD g.edges s y b → W g.edges s y b ≤ 12 ^ n
  | n, y, b, hr, h => by
    by_cases hy : y = s
    · have := (hy ▸ h).uniq (IsD.self g.edges s)
      subst this
      rw [hy, W_start]
      exact Nat.pow_pos (by decide)
    · cases n with
      | zero =>
        have hb : 0 < b := by
          rcases Nat.eq_zero_or_pos b with q | q
          · subst q
            exact absurd h.zero hy
          · exact q
        have := rank_lt (s := s) (mem_nodes.mpr hs) (IsD.self g.edges s) hb
        omega
      | succ n =>
        rw [count_into o h hy nodes_nd fun x a ha => mem_nodes.mpr (W_node o hs ha.1)]
        refine Nat.le_trans (sum_const_le _ (12 ^ n) _ fun x hx => ?_) ?_
        · cases hl : long? g x y with
          | none => exact Nat.zero_le _
          | some l =>
            dsimp only
            split
            · rename_i hlb
              obtain ⟨e, he, h1, h2, h3⟩ := long_some hl
              have hlong := (o.ed e he).2.2.2.1
              rcases Nat.eq_zero_or_pos (W g.edges s x (b - l)) with q | q
              · rw [q]
                exact Nat.zero_le _
              · have hD : IsD g.edges s x (b - l) := ⟨q, fun L hL => by
                  rcases Nat.eq_zero_or_pos (W g.edges s x L) with r | r
                  · exact r
                  · have h4 := W_step o he (s := s) L
                    rw [h1, h2, h3] at h4
                    have := h.2 (L + l) (by omega)
                    omega⟩
                exact W_bound o hs n x (b - l) (by
                  have := rank_lt (s := s) hx hD (show b - l < b by omega)
                  omega) hD
            · exact Nat.zero_le _
        · rw [nodes_len, Nat.pow_succ, Nat.mul_comm]
          exact Nat.mul_le_mul_left _ o.le
theorem W_small (o : Ok g) (hs : 1 ≤ s ∧ s ≤ g.many) {y b : Nat} (h : IsD g.edges s y b) : W g.edges s y b < 2 ^ 40 := by
  have h1 := rank_le (mem_nodes.mpr (W_node o hs h.1)) h
  have h2 := W_bound o hs 11 y b (by have := o.le; omega) h
  exact Nat.lt_of_le_of_lt h2 (by decide)
end
end WB
end
section
set_option autoImplicit false
set_option linter.all false
namespace WB
/-! ### the request: one call behind another -/
def codeOf : Gq05.Call → Nat
  | .node => 0
  | .edge _ _ _ => 1
  | .cut _ _ => 2
  | .far _ _ => 3
  | .way _ _ _ => 4
  | .between _ => 5
  | .edgeShare _ _ => 6
  | .ranking _ => 7
  | .near _ => 8
  | .needed _ _ => 9
  | .hurt _ => 10
  | .middle => 11
def argsOf : Gq05.Call → List Nat
  | .node => []
  | .edge x y l => [x, y, l]
  | .cut x y => [x, y]
  | .far x y => [x, y]
  | .way x y k => [x, y, k]
  | .between v => [v]
  | .edgeShare x y => [x, y]
  | .ranking n => [n]
  | .near x => [x]
  | .needed x y => [x, y]
  | .hurt v => [v]
  | .middle => []
def intsN (l : List Nat) : List Int := l.map fun (n : Nat) => (n : Int)
def flat1 (c : Gq05.Call) : List Int := intsN (codeOf c :: argsOf c)
def flatC (cs : List Gq05.Call) : List Int := cs.flatMap flat1
/-- what is answered from the graph g on -/
def runC : Gq05.Graph → List Gq05.Call → List Int
  | _, [] => []
  | g, c :: cs => ((Gq05.step g c).2.length : Int) :: ((Gq05.step g c).2 ++ runC (Gq05.step g c).1 cs)
theorem nat_iff {z : Int} : Gq05Neutral.nat z = true ↔ 0 ≤ z ∧ z < 2 ^ 32 := by
  unfold Gq05Neutral.nat
  rw [Bool.and_eq_true, decide_eq_true_eq, decide_eq_true_eq]
theorem shape_is {p : Int} {n k : Nat} (h : PyGq05.shape p = some (n, k)) : k = 0 ∧ ((p = 0 ∧ n = 0) ∨ (p = 1 ∧ n = 3) ∨ (p = 2 ∧ n = 2) ∨ (p = 3 ∧ n = 2) ∨ (p = 4 ∧ n = 3) ∨ (p = 5 ∧ n = 1) ∨ (p = 6 ∧ n = 2) ∨ (p = 7 ∧ n = 1) ∨ (p = 8 ∧ n = 1) ∨ (p = 9 ∧ n = 2) ∨ (p = 10 ∧ n = 1) ∨ (p = 11 ∧ n = 0)) := by
  unfold PyGq05.shape at h
  by_cases h0 : p = 0
  · rw [if_pos h0] at h
    cases h
    exact ⟨rfl, .inl ⟨h0, rfl⟩⟩
  rw [if_neg h0] at h
  by_cases h1 : p = 1
  · rw [if_pos h1] at h
    cases h
    exact ⟨rfl, .inr (.inl ⟨h1, rfl⟩)⟩
  rw [if_neg h1] at h
  by_cases h2 : p = 2
  · rw [if_pos h2] at h
    cases h
    exact ⟨rfl, .inr (.inr (.inl ⟨h2, rfl⟩))⟩
  rw [if_neg h2] at h
  by_cases h3 : p = 3
  · rw [if_pos h3] at h
    cases h
    exact ⟨rfl, .inr (.inr (.inr (.inl ⟨h3, rfl⟩)))⟩
  rw [if_neg h3] at h
  by_cases h4 : p = 4
  · rw [if_pos h4] at h
    cases h
    exact ⟨rfl, .inr (.inr (.inr (.inr (.inl ⟨h4, rfl⟩))))⟩
  rw [if_neg h4] at h
  by_cases h5 : p = 5
  · rw [if_pos h5] at h
    cases h
    exact ⟨rfl, .inr (.inr (.inr (.inr (.inr (.inl ⟨h5, rfl⟩)))))⟩
  rw [if_neg h5] at h
  by_cases h6 : p = 6
  · rw [if_pos h6] at h
    cases h
    exact ⟨rfl, .inr (.inr (.inr (.inr (.inr (.inr (.inl ⟨h6, rfl⟩))))))⟩
  rw [if_neg h6] at h
  by_cases h7 : p = 7
  · rw [if_pos h7] at h
    cases h
    exact ⟨rfl, .inr (.inr (.inr (.inr (.inr (.inr (.inr (.inl ⟨h7, rfl⟩)))))))⟩
  rw [if_neg h7] at h
  by_cases h8 : p = 8
  · rw [if_pos h8] at h
    cases h
    exact ⟨rfl, .inr (.inr (.inr (.inr (.inr (.inr (.inr (.inr (.inl ⟨h8, rfl⟩))))))))⟩
  rw [if_neg h8] at h
  by_cases h9 : p = 9
  · rw [if_pos h9] at h
    cases h
    exact ⟨rfl, .inr (.inr (.inr (.inr (.inr (.inr (.inr (.inr (.inr (.inl ⟨h9, rfl⟩)))))))))⟩
  rw [if_neg h9] at h
  by_cases h10 : p = 10
  · rw [if_pos h10] at h
    cases h
    exact ⟨rfl, .inr (.inr (.inr (.inr (.inr (.inr (.inr (.inr (.inr (.inr (.inl ⟨h10, rfl⟩))))))))))⟩
  rw [if_neg h10] at h
  by_cases h11 : p = 11
  · rw [if_pos h11] at h
    cases h
    exact ⟨rfl, .inr (.inr (.inr (.inr (.inr (.inr (.inr (.inr (.inr (.inr (.inr (⟨h11, rfl⟩)))))))))))⟩
  rw [if_neg h11] at h
  cases h
/-- one call read -/
theorem read1 {c : List (List Int)} (h : PyFlat.okCall PyGq05.shape c) (ha : Gq05Neutral.asked1 ((PyGq05.whole c).headD []) = true) :
    ∃ d : Gq05.Call, PyFlat.put1 c = flat1 d ∧ Gq05Neutral.callOf ((PyGq05.whole c).headD []) = some d := by
  obtain ⟨p, a, xs, rfl, hs⟩ := h
  have fin : ∀ (q : List Int) (d : Gq05.Call), (Gq05Neutral.callOf q).isSome = true → Gq05Neutral.callIn (q.map Int.toNat) = some d → Gq05Neutral.callOf q = some d ∧ ∀ z ∈ q, 0 ≤ z := fun q d e1 e2 => by
    unfold Gq05Neutral.callOf at e1 ⊢
    rw [e2] at e1 ⊢
    by_cases hn : q.all Gq05Neutral.nat = false
    · rw [if_pos hn] at e1
      cases e1
    · rw [if_neg hn]
      refine ⟨rfl, fun z hz => ?_⟩
      have hn : q.all Gq05Neutral.nat = true := by
        cases e : q.all Gq05Neutral.nat with
        | true => rfl
        | false => exact absurd e hn
      exact (nat_iff.mp (List.all_eq_true.mp hn z hz)).1
  have nn : ∀ z : Int, 0 ≤ z → z = ((z.toNat : Nat) : Int) := fun z hz => by omega
  obtain ⟨hk, hcase⟩ := shape_is hs
  obtain rfl := List.length_eq_zero_iff.mp hk
  have put : PyFlat.put1 [p :: a] = p :: a := by
    show (p :: a) ++ [] = p :: a
    rw [List.append_nil]
  rw [put]
  unfold Gq05Neutral.asked1 at ha
  rcases hcase with ⟨rfl, h1⟩ | ⟨rfl, h1⟩ | ⟨rfl, h1⟩ | ⟨rfl, h1⟩ | ⟨rfl, h1⟩ | ⟨rfl, h1⟩ | ⟨rfl, h1⟩ | ⟨rfl, h1⟩ | ⟨rfl, h1⟩ | ⟨rfl, h1⟩ | ⟨rfl, h1⟩ | ⟨rfl, h1⟩
  · obtain rfl := List.length_eq_zero_iff.mp h1
    exact ⟨.node, rfl, (fin [0] .node ha rfl).1⟩
  · match a, h1 with
    | [x, y, l], _ =>
      obtain ⟨f1, f2⟩ := fin [1, x, y, l] (.edge x.toNat y.toNat l.toNat) ha rfl
      refine ⟨.edge x.toNat y.toNat l.toNat, ?_, f1⟩
      show _ = [((1 : Nat) : Int), ((x.toNat : Nat) : Int), ((y.toNat : Nat) : Int), ((l.toNat : Nat) : Int)]
      rw [← nn x (f2 x (by simp)), ← nn y (f2 y (by simp)), ← nn l (f2 l (by simp))]
      rfl
  · match a, h1 with
    | [x, y], _ =>
      obtain ⟨f1, f2⟩ := fin [2, x, y] (.cut x.toNat y.toNat) ha rfl
      refine ⟨.cut x.toNat y.toNat, ?_, f1⟩
      show _ = [((2 : Nat) : Int), ((x.toNat : Nat) : Int), ((y.toNat : Nat) : Int)]
      rw [← nn x (f2 x (by simp)), ← nn y (f2 y (by simp))]
      rfl
  · match a, h1 with
    | [x, y], _ =>
      obtain ⟨f1, f2⟩ := fin [3, x, y] (.far x.toNat y.toNat) ha rfl
      refine ⟨.far x.toNat y.toNat, ?_, f1⟩
      show _ = [((3 : Nat) : Int), ((x.toNat : Nat) : Int), ((y.toNat : Nat) : Int)]
      rw [← nn x (f2 x (by simp)), ← nn y (f2 y (by simp))]
      rfl
  · match a, h1 with
    | [x, y, l], _ =>
      obtain ⟨f1, f2⟩ := fin [4, x, y, l] (.way x.toNat y.toNat l.toNat) ha rfl
      refine ⟨.way x.toNat y.toNat l.toNat, ?_, f1⟩
      show _ = [((4 : Nat) : Int), ((x.toNat : Nat) : Int), ((y.toNat : Nat) : Int), ((l.toNat : Nat) : Int)]
      rw [← nn x (f2 x (by simp)), ← nn y (f2 y (by simp)), ← nn l (f2 l (by simp))]
      rfl
  · match a, h1 with
    | [x], _ =>
      obtain ⟨f1, f2⟩ := fin [5, x] (.between x.toNat) ha rfl
      refine ⟨.between x.toNat, ?_, f1⟩
      show _ = [((5 : Nat) : Int), ((x.toNat : Nat) : Int)]
      rw [← nn x (f2 x (by simp))]
      rfl
  · match a, h1 with
    | [x, y], _ =>
      obtain ⟨f1, f2⟩ := fin [6, x, y] (.edgeShare x.toNat y.toNat) ha rfl
      refine ⟨.edgeShare x.toNat y.toNat, ?_, f1⟩
      show _ = [((6 : Nat) : Int), ((x.toNat : Nat) : Int), ((y.toNat : Nat) : Int)]
      rw [← nn x (f2 x (by simp)), ← nn y (f2 y (by simp))]
      rfl
  · match a, h1 with
    | [x], _ =>
      obtain ⟨f1, f2⟩ := fin [7, x] (.ranking x.toNat) ha rfl
      refine ⟨.ranking x.toNat, ?_, f1⟩
      show _ = [((7 : Nat) : Int), ((x.toNat : Nat) : Int)]
      rw [← nn x (f2 x (by simp))]
      rfl
  · match a, h1 with
    | [x], _ =>
      obtain ⟨f1, f2⟩ := fin [8, x] (.near x.toNat) ha rfl
      refine ⟨.near x.toNat, ?_, f1⟩
      show _ = [((8 : Nat) : Int), ((x.toNat : Nat) : Int)]
      rw [← nn x (f2 x (by simp))]
      rfl
  · match a, h1 with
    | [x, y], _ =>
      obtain ⟨f1, f2⟩ := fin [9, x, y] (.needed x.toNat y.toNat) ha rfl
      refine ⟨.needed x.toNat y.toNat, ?_, f1⟩
      show _ = [((9 : Nat) : Int), ((x.toNat : Nat) : Int), ((y.toNat : Nat) : Int)]
      rw [← nn x (f2 x (by simp)), ← nn y (f2 y (by simp))]
      rfl
  · match a, h1 with
    | [x], _ =>
      obtain ⟨f1, f2⟩ := fin [10, x] (.hurt x.toNat) ha rfl
      refine ⟨.hurt x.toNat, ?_, f1⟩
      show _ = [((10 : Nat) : Int), ((x.toNat : Nat) : Int)]
      rw [← nn x (f2 x (by simp))]
      rfl
  · obtain rfl := List.length_eq_zero_iff.mp h1
    exact ⟨.middle, rfl, (fin [11] .middle ha rfl).1⟩
theorem read_all : ∀ (raw : List (List (List Int))), (∀ c ∈ raw, PyFlat.okCall PyGq05.shape c) → (∀ c ∈ raw, Gq05Neutral.asked1 ((PyGq05.whole c).headD []) = true) →
    ∃ cs : List Gq05.Call, PyFlat.put raw = flatC cs ∧ cs.length = raw.length ∧ ∀ g : Gq05.Graph, PyFlat.told (PyFlat.played (fun s c => Gq05Neutral.step s (c.headD [])) g (raw.map PyGq05.whole)) = runC g cs
  | [], _, _ => ⟨[], rfl, rfl, fun _ => rfl⟩
  | c :: raw, h1, h2 => by
    obtain ⟨d, e1, e2⟩ := read1 (h1 c List.mem_cons_self) (h2 c List.mem_cons_self)
    obtain ⟨cs, f1, f2, f3⟩ := read_all raw (fun x hx => h1 x (List.mem_cons_of_mem _ hx)) fun x hx => h2 x (List.mem_cons_of_mem _ hx)
    refine ⟨d :: cs, ?_, by rw [List.length_cons, List.length_cons, f2], fun g => ?_⟩
    · show PyFlat.put1 c ++ PyFlat.put raw = flat1 d ++ flatC cs
      rw [e1, f1]
    · have st : Gq05Neutral.step g ((PyGq05.whole c).headD []) = Gq05.step g d := by
        unfold Gq05Neutral.step
        rw [e2]
      rw [List.map_cons, PyFlat.played]
      show PyFlat.told ((Gq05Neutral.step g ((PyGq05.whole c).headD [])).2 :: PyFlat.played (fun s c => Gq05Neutral.step s (c.headD [])) (Gq05Neutral.step g ((PyGq05.whole c).headD [])).1 (raw.map PyGq05.whole)) = _
      rw [st]
      show ((Gq05.step g d).2.length : Int) :: (Gq05.step g d).2 ++ PyFlat.told (PyFlat.played (fun s c => Gq05Neutral.step s (c.headD [])) (Gq05.step g d).1 (raw.map PyGq05.whole)) = _
      rw [f3]
      rfl
/-- **what a request that is asked looks like** -/
theorem asked_calls {l : List Int} (h : PyGq05.answers_asked l = true) : ∃ cs : List Gq05.Call, l = flatC cs ∧ cs ≠ [] ∧ cs.length ≤ 40 ∧ PyGq05.answers l = runC ⟨0, []⟩ cs ∧ (runC ⟨0, []⟩ cs).length ≤ 10000000 := by
  unfold PyGq05.answers_asked at h
  cases e : PyFlat.calls PyGq05.shape l.length l with
  | none => rw [e] at h; cases h
  | some raw =>
    rw [e] at h
    dsimp only at h
    rw [Bool.and_eq_true, Bool.and_eq_true, Bool.and_eq_true, Bool.and_eq_true] at h
    obtain ⟨⟨⟨⟨h1, h2⟩, h3⟩, h4⟩, h5⟩ := h
    obtain ⟨p1, p2⟩ := PyFlat.put_calls _ _ _ e
    have ask : ∀ c ∈ raw, Gq05Neutral.asked1 ((PyGq05.whole c).headD []) = true := fun c hc => by
      unfold Gq05Neutral.asked at h4
      rw [Bool.and_eq_true] at h4
      refine List.all_eq_true.mp h4.1 _ ?_
      rw [List.map_map]
      exact List.mem_map.mpr ⟨c, hc, rfl⟩
    obtain ⟨cs, c1, c2, c3⟩ := read_all raw p2 ask
    have ans : PyGq05.answers l = runC ⟨0, []⟩ cs := by
      unfold PyGq05.answers PyGq05.calls
      rw [e]
      exact c3 ⟨0, []⟩
    refine ⟨cs, p1.trans c1, fun z => ?_, ?_, ans, ?_⟩
    · rw [z] at c2
      have : raw = [] := List.length_eq_zero_iff.mp c2.symm
      rw [this] at h1
      cases h1
    · unfold PyFlat.atMost at h2
      rw [c2]
      simpa using h2
    · unfold PyFlat.short at h5
      rw [← ans]
      simpa using h5
/-! ### the graph stays as it must be -/
theorem ok_init : Ok ⟨0, []⟩ := by
  refine ⟨by decide, fun e h => ?_, by simp⟩
  cases h
theorem ok_step {g : Gq05.Graph} (o : Ok g) (c : Gq05.Call) : Ok (Gq05.step g c).1 ∧ (Gq05.step g c).1.edges.length ≤ g.edges.length + 1 := by
  cases c with
  | node =>
    show Ok (if 12 ≤ g.many then (g, ([-5] : List Int)) else ({ g with many := g.many + 1 }, Gq05.ints [g.many + 1])).1 ∧ _
    by_cases h : 12 ≤ g.many
    · rw [show Gq05.step g .node = (g, [-5]) from if_pos h, if_pos h]
      exact ⟨o, Nat.le_succ _⟩
    · rw [show Gq05.step g .node = ({ g with many := g.many + 1 }, Gq05.ints [g.many + 1]) from if_neg h, if_neg h]
      refine ⟨⟨by show g.many + 1 ≤ 12; omega, fun e he => ?_, o.nd⟩, Nat.le_succ _⟩
      have := o.ed e he
      show (1 ≤ e.src ∧ e.src ≤ g.many + 1) ∧ (1 ≤ e.dst ∧ e.dst ≤ g.many + 1) ∧ _
      omega
  | edge x y l =>
    have es : Gq05.step g (.edge x y l) = if Gq05.isNode g x = false ∨ Gq05.isNode g y = false ∨ x = y ∨ l = 0 ∨ 9 < l then (g, [-1]) else if (Gq05.long? g x y).isSome = true then (g, [-4]) else ({ g with edges := g.edges ++ [⟨x, y, l⟩] }, Gq05.ints [g.edges.length + 1]) := rfl
    rw [es]
    by_cases h1 : Gq05.isNode g x = false ∨ Gq05.isNode g y = false ∨ x = y ∨ l = 0 ∨ 9 < l
    · rw [if_pos h1]
      exact ⟨o, Nat.le_succ _⟩
    · rw [if_neg h1]
      by_cases h2 : (Gq05.long? g x y).isSome = true
      · rw [if_pos h2]
        exact ⟨o, Nat.le_succ _⟩
      · rw [if_neg h2]
        have nx : 1 ≤ x ∧ x ≤ g.many := by
          have : Gq05.isNode g x = true := by
            cases q : Gq05.isNode g x with
            | true => rfl
            | false => exact absurd (.inl q) h1
          unfold Gq05.isNode at this
          simpa using this
        have ny : 1 ≤ y ∧ y ≤ g.many := by
          have : Gq05.isNode g y = true := by
            cases q : Gq05.isNode g y with
            | true => rfl
            | false => exact absurd (.inr (.inl q)) h1
          unfold Gq05.isNode at this
          simpa using this
        refine ⟨⟨o.le, fun e he => ?_, ?_⟩, by show (g.edges ++ [_]).length ≤ _; simp⟩
        · rcases List.mem_append.mp he with q | q
          · exact o.ed e q
          · have q : e = ⟨x, y, l⟩ := by simpa using q
            subst q
            exact ⟨nx, ny, fun z => h1 (.inr (.inr (.inl z))), by
              show 1 ≤ l
              omega, by
              show l ≤ 9
              omega⟩
        · show ((g.edges ++ [(⟨x, y, l⟩ : Gq05.Edge)]).map fun e => (e.src, e.dst)).Nodup
          rw [List.map_append, List.nodup_append]
          refine ⟨o.nd, by simp, fun a ha b hb => ?_⟩
          have hb : b = (x, y) := by simpa using hb
          subst hb
          rintro rfl
          obtain ⟨e, he, hxy⟩ := List.mem_map.mp ha
          injection hxy with e1 e2
          refine h2 ?_
          unfold Gq05.long?
          rw [Option.isSome_map, List.find?_isSome]
          exact ⟨e, he, by simp [e1, e2]⟩
  | cut x y =>
    have es : Gq05.step g (.cut x y) = if (Gq05.long? g x y).isNone = true then (g, [-3]) else ({ g with edges := g.edges.filter fun e => !(e.src == x && e.dst == y) }, Gq05.ints [g.edges.length - 1]) := rfl
    rw [es]
    by_cases h : (Gq05.long? g x y).isNone = true
    · rw [if_pos h]
      exact ⟨o, Nat.le_succ _⟩
    · rw [if_neg h]
      refine ⟨⟨o.le, fun e he => o.ed e (List.mem_filter.mp he).1, ?_⟩, ?_⟩
      · exact List.Nodup.sublist (List.Sublist.map _ List.filter_sublist) o.nd
      · exact Nat.le_trans (List.length_filter_le ..) (Nat.le_succ _)
  | far x y => exact ⟨o, Nat.le_succ _⟩
  | way x y k => exact ⟨o, Nat.le_succ _⟩
  | between v => exact ⟨o, Nat.le_succ _⟩
  | edgeShare x y => exact ⟨o, Nat.le_succ _⟩
  | ranking n => exact ⟨o, Nat.le_succ _⟩
  | near x => exact ⟨o, Nat.le_succ _⟩
  | needed x y => exact ⟨o, Nat.le_succ _⟩
  | hurt v => exact ⟨o, Nat.le_succ _⟩
  | middle => exact ⟨o, Nat.le_succ _⟩
end WB
end
section
set_option Elab.async false
set_option linter.all false
set_option maxRecDepth 100000
set_option maxHeartbeats 4000000
/-! sorted(e, key=lambda ..): the key is an int of each item, told by the lambda's body. -/
namespace WS
open PySem PySem.Spec PyProof.Rows L2 LamX NdefX
abbrev NoX : CXT := fun _ _ _ _ _ _ => False
abbrev lamF (q : Str) (params : Arguments) (scope : Scope) (cl : List (Str × Addr)) (c' : Addr) : NF := ⟨"<lambda>", q, params, [], scope, cl, c'⟩
section
variable {P : Program} {w : World} {K : PySem.W.Frag} {mg : Str → Option Value} {base : Heap} {A : Around} {outer : List Env} {s : Shared} {H : Hp}
/-- the lambda called with arguments: its body in a frame of its own -/
theorem lam_call {N ps fr : List Str} {f c' : Addr} {q : Str} {params : Arguments} {scope : Scope} {cl : List (Str × Addr)} {body : Expr} {pm ctv : Value} {us : List Value} {vs : List V} {ws : List (Option V)} {k : Nat} {tb : TE} {Q : VK} {E : XK}
    (S : NScope N ps fr scope) (e0 : Env0 P w K mg base A outer s H) (hr : Room (k + 1) A)
    (hf : s.heap.get? f = some (PySem.W.kla_obj "<lambda>" q params body scope cl pm c' ctv)) (hc : H c' = some (CodeO c' q))
    (hb : bindArgs (PySem.W.kla_fn "<lambda>" q params body scope cl pm (.ref c') ctv) ⟨us, []⟩ = pure (ps.zip us))
    (C : CellsAt cl fr ws s.heap H) (r : Vals vs us) (hl : vs.length = ps.length)
    (hbody : PE (ncx NoX P w K mg base N (lamF q params scope cl c') f A outer s H E) body tb) (ht : tb (startF N vs ws) H Q) :
    codeAny (model P w) A (.call (.ref f) ⟨us, []⟩) (CR NoX outer P w H s Q E) s := by
  have limS : s.heap.NoLimit := e0.mod.nolimit.keeps fun b o q => (e0.bs b o q).1
  refine PySem.W.kla_callFunE hr.depth hf rfl S.co S.gen rfl (codeO_at e0.hok hc) ?_
  rw [hb]
  refine wpAny_pure (wpAny_newFunctionEnv S.nocell (fun ⟨n, _⟩ hy => S.par n (List.of_mem_zip hy).1)
    (fun h₁ hns hsb => ⟨limS.fresh _ hsb, ?_⟩) S.kind)
  show codeAny _ _ (.expr body (envF (lamF q params scope cl c') f s.heap.objs.size)) _ _
  have kp : ∀ b o, s.heap.get? b = some o → h₁.get? b = some o := fun b o e =>
    hsb.extBut b o (Nat.ne_of_lt (Heap.lt_size e)) (Heap.get?_push_of_some _ e)
  have I := inv_startN (CX := NoX) (E := E) (F := lamF q params scope cl c') (f := f) (tk := s.toks + (ps.zip us).length) S hr.hd e0 hl r C hns kp
  refine PySem.W.kla_codeExpr (wpAny_mono (hbody.run [] _ _ H Q I ht) (fun v s' hq => ?_) fun e s' hq => hq)
  obtain ⟨w', H', J, rv, q'⟩ := hq
  exact ⟨w', H', J.os, J.bare, J.base, J.hok, rv, q'⟩
end
/-! ### a list that is known to the item and the epoch -/
def LE (a : Addr) (xs : Array Value) (n : Nat) : HO := .ext fun h => h.get? a = some (seqObj "list" xs n)
theorem LE.get {P : Program} {w : World} {H : Hp} {h : Heap} {a : Addr} {xs : Array Value} {n : Nat} (hok : HOk P w H h) (e : H a = some (LE a xs n)) : h.get? a = some (seqObj "list" xs n) := (hok a _ e).1
theorem LE.ok {P : Program} {w : World} {H : Hp} {h : Heap} {a : Addr} {xs : Array Value} {n : Nat} (e : h.get? a = some (seqObj "list" xs n)) : ObjOk P w H h a (LE a xs n) :=
  ⟨e, ⟨_, e⟩, fun _ _ p st => st _ p⟩
section
variable {X : Cx} {pins : List (Addr × Obj)} {σ : L2.St} {H : Hp} {s : Shared}
theorem le_new (I : Inv X pins σ H s) (its : List Value) : Inv X pins σ (upd H s.heap.objs.size (LE s.heap.objs.size its.toArray 0)) { s with heap := s.heap.push { cls := .type "list", data := .seq its.toArray } } :=
  I.laid (t' := s.toks) (fun b u e => Heap.get?_push_of_some _ e) (Nat.le_refl _) (LE.ok (Heap.get?_push_size _ rfl))
theorem le_set (I : Inv X pins σ H s) {a : Addr} {xs : Array Value} {n : Nat} (e : H a = some (LE a xs n)) (g : Array Value → Array Value) :
    ∃ n', Inv X pins σ (upd H a (LE a (g xs) n')) { s with heap := s.heap.update a (Obj.mapSeq g) } := by
  have h1 := LE.get I.hok e
  have h2 := get?_update_seq h1 g
  refine ⟨_, I.write (x := a) (e := a) (t' := s.toks) (by rw [e]; exact trivial) (.inl rfl) (fun b u hb q => (Heap.get?_update_ne _ _ _ _ hb).trans q) ⟨_, h2⟩ (LE.ok h2)⟩
theorem le_list (I : Inv X pins σ H s) {a : Addr} {its : Array Value} {n : Nat} {xs : List V} (e : H a = some (LE a its n)) (rv : Vals xs its.toList) (hz : xs.length ≤ sizeLine) : Inv X pins σ (upd H a (.lst xs)) s := by
  have h1 := LE.get I.hok e
  exact I.write (x := a) (e := a) (h' := s.heap) (t' := s.toks) (by rw [e]; exact trivial) (.inl rfl) (fun b u _ q => q) ⟨_, h1⟩ ⟨hz, its.toList, n, rv, by rw [Array.toArray_toList]; exact h1⟩
end
/-! ### an order of values is one of what they stand for -/
theorem lift_perm {α β : Type} {R : α → β → Prop} : ∀ {l m : List β}, l.Perm m → ∀ {x : List α}, Paired R x m → ∃ y, y.Perm x ∧ Paired R y l := by
  intro l m p
  induction p with
  | nil =>
    intro x h
    exact ⟨x, .refl _, h⟩
  | cons b _ ih =>
    intro x h
    cases h with
    | cons h1 h2 =>
      obtain ⟨y, p1, p2⟩ := ih h2
      exact ⟨_ :: y, p1.cons _, .cons h1 p2⟩
  | swap b c l =>
    intro x h
    cases h with
    | cons h1 h2 =>
      cases h2 with
      | cons h3 h4 => exact ⟨_, .swap _ _ _, .cons h3 (.cons h1 h4)⟩
  | trans _ _ ih1 ih2 =>
    intro x h
    obtain ⟨y, p1, p2⟩ := ih2 h
    obtain ⟨z, p3, p4⟩ := ih1 p2
    exact ⟨z, p3.trans p1, p4⟩
theorem paired_zip : ∀ {ks : List Int} {xs : List V} {us : List Value}, Vals xs us → Paired (fun (p : Int × V) (q : Int × Value) => p.1 = q.1 ∧ RelV p.2 q.2) (ks.zip xs) (ks.zip us)
  | [], _, _, _ => by
    rw [List.zip_nil_left, List.zip_nil_left]
    exact .nil
  | k :: ks, [], _, r => by
    cases r
    exact .nil
  | k :: ks, x :: xs, _, r => by
    cases r with
    | cons h1 h2 => exact .cons ⟨rfl, h1⟩ (paired_zip h2)
theorem paired_snd : ∀ {ps : List (Int × V)} {qs : List (Int × Value)}, Paired (fun (p : Int × V) (q : Int × Value) => p.1 = q.1 ∧ RelV p.2 q.2) ps qs → Vals (ps.map (·.2)) (qs.map (·.2)) ∧ ps.map (·.1) = qs.map (·.1)
  | _, _, .nil => ⟨.nil, rfl⟩
  | _, _, .cons h1 h2 => by
    obtain ⟨a, b⟩ := paired_snd h2
    exact ⟨.cons h1.2 a, by rw [List.map_cons, List.map_cons, h1.1, b]⟩
/-- the items by rising keys -/
def ByKey (ks : List Int) (xs ys : List V) : Prop := ∃ ps : List (Int × V), ps.Perm (ks.zip xs) ∧ ys = ps.map (·.2) ∧ (ps.map (·.1)).Pairwise (· ≤ ·)
theorem byKey_of {ks : List Int} {xs : List V} {us out : List Value} (r : Vals xs us) (h : KskOut false ks us out) : ∃ ys, Vals ys out ∧ ByKey ks xs ys := by
  obtain ⟨ps, p1, rfl, p3⟩ := h
  obtain ⟨qs, q1, q2⟩ := lift_perm p1 (paired_zip (ks := ks) r)
  obtain ⟨q3, q4⟩ := paired_snd q2
  refine ⟨qs.map (·.2), q3, qs, q1, rfl, ?_⟩
  rw [q4, List.pairwise_map]
  exact p3.imp fun h => by simpa using h
/-! ### list.sort(key=f) -/
section
variable {X : Cx} {pins : List (Addr × Obj)} {σ : L2.St} {H : Hp} {s : Shared} {A : Around} {E : Value → Shared → Prop}
/-- f called with an item gives its key, and nothing that is tracked changes -/
def KeyRun (X : Cx) (A : Around) (pins : List (Addr × Obj)) (σ : L2.St) (H : Hp) (f : Addr) (of : Obj) (x : V) (k : Int) : Prop :=
  ∀ (s : Shared) (H' : Hp) (u : Value), Inv X pins σ H' s → (∀ b o, H b = some o → H' b = some o) → s.heap.get? f = some of → H' f = none → RelV x u →
    codeAny (model X.prog X.w) A (.call (.ref f) ⟨[u], []⟩) (CR NoX X.stack X.prog X.w H' s (fun v H'' => v = .int k ∧ H'' = H') fun _ _ _ => False) s
theorem call_key {f : Addr} {of : Obj} {x : V} {k : Int} {H' : Hp} {u : Value} {R : Value → Shared → Prop} (kr : KeyRun X A pins σ H f of x k) (I : Inv X pins σ H' s) (hs : ∀ b o, H b = some o → H' b = some o) (hf : s.heap.get? f = some of) (hn : H' f = none)
    (hfr : f ∉ frs X.stack) (r : RelV x u) (h : ∀ t s', Inv X pins σ H' s' → s'.heap.get? f = some of → R (.int k t) s') : wpAny (model X.prog X.w) A (call (.ref f) [u]) R E s := by
  refine wpAny_call (codeAny_mono (kr s H' u I hs hf hn r) fun r' s' hq => ?_)
  cases r' with
  | error e => exact False.elim hq
  | ok fl =>
    cases fl with
    | next => exact False.elim hq
    | brk => exact False.elim hq
    | cont => exact False.elim hq
    | ret v =>
      have hq' : CE X.stack X.prog X.w H' s (fun v H'' => v = .int k ∧ H'' = H') v s' := hq
      have un : s'.heap.get? f = some of := by
        obtain ⟨_, _, _, _, un, _⟩ := hq'
        exact un.keep f of hf hn hfr (by simp)
      obtain ⟨z, H2, I2, rz, rfl, rfl⟩ := I.after hq'
      obtain ⟨t, rfl⟩ := rz
      exact h t s' I2 un
/-- the keys are known, the items lie sorted in the list a -/
theorem tail_key {a kS : Addr} {its : List Value} {xs : List V} {ks : List Int} {keys : Array Value} {e e1 : Nat} {st : SortSt} {R : PySem.Fin → Shared → Prop} (I : Inv X pins σ H s) (hS : H kS = some (LE kS keys e)) (hA : H a = some (LE a #[] e1)) (hne : kS ≠ a)
    (rv : Vals xs its) (hk : IntsAre keys.toList ks) (hlen : ks.length = its.length) (h64 : its.length < 64) (hp : (arrOf st).Perm (keys.zip its.toArray)) (hs : SortedTo (arrOf st) (arrOf st).size) (hfl : failedOf st = none)
    (h : ∀ H' s' ys, Inv X pins σ H' s' → (∀ b o, b ≠ a → b ≠ kS → H b = some o → H' b = some o) → H' a = some (.lst ys) → ByKey ks xs ys → R (.done (.ret .none)) s') :
    wpAny (model X.prog X.w) A (ksk_tail a false e1 (.ref kS) st) R E s := by
  have hkl := hk.length
  rw [Array.length_toList] at hkl
  have hsz : (arrOf st).size = its.length := by
    have q : its.toArray.size = its.length := List.size_toArray ..
    rw [hp.size_eq, Array.size_zip, q]
    omega
  have g1 := LE.get I.hok hS
  obtain ⟨n1, I1⟩ := le_set I hS fun _ => #[]
  have hA1 : upd H kS (LE kS #[] n1) a = some (LE a #[] e1) := (upd_ne (Ne.symm hne)).trans hA
  have g2 := LE.get I1.hok hA1
  obtain ⟨n2, I2⟩ := le_set I1 hA1 fun _ => (arrOf st).map (·.2)
  obtain ⟨ys, r1, r2⟩ := byKey_of rv (ksk_out (b := false) hk hp hs)
  have r1 : Vals ys ((arrOf st).map (·.2)).toList := r1
  have hyl : ys.length ≤ sizeLine := by
    rw [r1.length, Array.length_toList, Array.size_map, hsz, sizeLine_eq]
    omega
  have I3 := le_list I2 (upd_same) r1 hyl
  unfold ksk_tail
  dsimp only
  refine wpAny_bind (listUpdate_at g1 rfl ?_ (by rw [sizeLine_eq]; omega) (Nat.zero_le _))
  refine wpAny_bind (wpAny_letGo ?_)
  refine wpAny_bind (seqEpoch_at g2 rfl ?_)
  refine wpAny_bind (listUpdate_at g2 rfl ?_ (Nat.zero_le _) (by simp only [Bool.false_eq_true, if_false, Array.size_map]; rw [hsz, sizeLine_eq]; omega))
  rw [hfl]
  simp only [bne_self_eq_false, Bool.false_eq_true, if_false]
  refine wpAny_pure (h _ _ ys I3 (fun b o n1 n2 q => ?_) upd_same r2)
  rw [upd_ne n1, upd_ne n1, upd_ne n2]
  exact q
theorem end_key {a kS : Addr} {its : List Value} {xs : List V} {ks : List Int} {keys : Array Value} {e e1 : Nat} {R : PySem.Fin → Shared → Prop} (I : Inv X pins σ H s) (hS : H kS = some (LE kS keys e)) (hA : H a = some (LE a #[] e1)) (hne : kS ≠ a)
    (rv : Vals xs its) (hk : IntsAre keys.toList ks) (hlen : ks.length = its.length) (h64 : its.length < 64)
    (h : ∀ H' s' ys, Inv X pins σ H' s' → (∀ b o, b ≠ a → b ≠ kS → H b = some o → H' b = some o) → H' a = some (.lst ys) → ByKey ks xs ys → R (.done (.ret .none)) s') :
    wpAny (model X.prog X.w) A (ksk_end a false its.toArray e1 (.ref kS) keys) R E s := by
  have hkl := hk.length
  rw [Array.length_toList] at hkl
  have hzs : (keys.zip its.toArray).size = its.length := by
    have q : its.toArray.size = its.length := List.size_toArray ..
    rw [Array.size_zip, q]
    omega
  unfold ksk_end
  simp only [Bool.false_eq_true, if_false]
  by_cases h2 : its.toArray.size < 2
  · rw [if_pos h2, if_pos h2]
    refine wpAny_bind (wpAny_pure ?_)
    rw [StateT.run_pure]
    refine wpAny_bind (wpAny_pure ?_)
    dsimp only
    refine tail_key (st := SortSt.mk' general' (keys.zip its.toArray) #[] 7 none) I hS hA hne rv hk hlen h64 (Array.Perm.refl _) (fun i j hij hj => ?_) rfl h
    have hj2 : j < (keys.zip its.toArray).size := hj
    rw [List.size_toArray] at h2
    obtain rfl : i = j := by omega
    exact Int.le_refl _
  · rw [if_neg h2, if_neg h2]
    rw [List.size_toArray] at h2
    rw [ksk_kind hk (by omega)]
    refine wpAny_bind (wpAny_pure ?_)
    refine wpAny_bind (wpAny_mono (wpS_sortRuns (a₀ := keys.zip its.toArray) (st := SortSt.mk' oneType' (keys.zip its.toArray) #[] 7 none)
      (Q := fun _ z => (arrOf z).Perm (keys.zip its.toArray) ∧ failedOf z = none ∧ SortedTo (arrOf z) (keys.zip its.toArray).size) (ksk_intKeys hk) ⟨Array.Perm.refl _, rfl, rfl, rfl⟩ (by omega) (by omega) fun z a1 a2 a3 => ⟨a1, a2, a3⟩) ?_ fun _ _ e => e)
    rintro ⟨⟨⟩, z⟩ s' ⟨rfl, p1, p2, p3⟩
    dsimp only
    exact tail_key I hS hA hne rv hk hlen h64 p1 (by rw [p1.size_eq]; exact p3) p2 h
theorem rest_key {a kS f : Addr} {of : Obj} {its : List Value} {xs : List V} {ks : List Int} {e1 : Nat} {R : PySem.Fin → Shared → Prop} {H0 : Hp} (I : Inv X pins σ H s) (hS : H kS = some (LE kS #[] 0)) (hA : H a = some (LE a #[] e1)) (hne : kS ≠ a)
    (sub : ∀ b o, H0 b = some o → H b = some o) (n1 : H0 kS = none) (hf : s.heap.get? f = some of) (hfn : H f = none) (hfr : f ∉ frs X.stack) (rv : Vals xs its) (hlen : ks.length = its.length) (h64 : its.length < 64)
    (run : ∀ (i : Nat) (x : V) (k : Int), xs[i]? = some x → ks[i]? = some k → KeyRun X A pins σ H0 f of x k)
    (h : ∀ H' s' ys, Inv X pins σ H' s' → (∀ b o, b ≠ a → b ≠ kS → H b = some o → H' b = some o) → H' a = some (.lst ys) → ByKey ks xs ys → R (.done (.ret .none)) s') :
    wpAny (model X.prog X.w) A (ksk_rest a (.ref f) false its.toArray e1 (.ref kS)) R E s := by
  unfold ksk_rest
  refine wpAny_bind (wpAny_rule ?_)
  rw [List.forIn_toArray]
  have nfS : f ≠ kS := fun z => by rw [z, hS] at hfn; cases hfn
  refine wpAny_bind (ksk_fold (fun i s' => ∃ kA n, Inv X pins σ (upd H kS (LE kS kA n)) s' ∧ s'.heap.get? f = some of ∧ IntsAre kA.toList (ks.take i)) its 0 s ⟨#[], 0, ?_, hf, .nil⟩ (fun j u s' hu hI => ?_) fun s' hI => ?_)
  · have e : upd H kS (LE kS #[] 0) = H := funext fun b => by
      by_cases hb : b = kS
      · rw [hb, upd_same, hS]
      · rw [upd_ne hb]
    rw [e]
    exact I
  · obtain ⟨kA, n, J, jf, hk⟩ := hI
    rw [Nat.zero_add] at hk ⊢
    have hj : j < its.length := (List.getElem?_eq_some_iff.mp hu).1
    obtain ⟨k, hkj⟩ : ∃ k, ks[j]? = some k := ⟨_, List.getElem?_eq_getElem (by omega)⟩
    obtain ⟨x, hx⟩ : ∃ x, xs[j]? = some x := ⟨_, List.getElem?_eq_getElem (by have := rv.length; omega)⟩
    obtain ⟨u', hu', rx⟩ := rv.get hx
    obtain rfl : u' = u := Option.some.inj (hu'.symm.trans hu)
    have hz : kA.size ≤ its.length := by
      have q := hk.length
      rw [Array.length_toList, List.length_take] at q
      omega
    refine wpAny_bind (wpAny_attempt (call_key (run j x k hx hkj) J (fun b o q => ?_) jf ((upd_ne nfS).trans hfn) hfr rx fun t s2 J2 jf2 => ?_))
    · rw [upd_ne (ne_of_none q n1)]
      exact sub b o q
    · dsimp only
      obtain ⟨n', J3⟩ := le_set J2 upd_same (·.push (.int k t))
      have g3 := LE.get J2.hok (upd_same (H := H) (a := kS) (o := LE kS kA n))
      refine wpAny_bind (listUpdate_at g3 rfl ?_ (by rw [sizeLine_eq]; omega) (Nat.le_trans (Nat.le_of_eq (Array.size_push ..)) (by rw [sizeLine_eq]; omega)))
      refine wpAny_pure ⟨rfl, kA.push (.int k t), n', ?_, ?_, ?_⟩
      · have e : upd (upd H kS (LE kS kA n)) kS (LE kS (kA.push (.int k t)) n') = upd H kS (LE kS (kA.push (.int k t)) n') := funext fun b => by
          by_cases hb : b = kS
          · rw [hb, upd_same, upd_same]
          · rw [upd_ne hb, upd_ne hb, upd_ne hb]
        rw [← e]
        exact J3
      · exact (Heap.get?_update_ne _ _ _ _ nfS).trans jf2
      · have e1 : (kA.push (Value.int k t)).toList = kA.toList ++ [Value.int k t] := by simp
        have e2 : ks.take (j + 1) = ks.take j ++ [k] := by rw [List.take_add_one, hkj]; simp
        rw [e1, e2]
        exact ksk_snoc hk
  · obtain ⟨kA, n, J, jf, hk⟩ := hI
    rw [Nat.zero_add, List.take_of_length_le (by omega)] at hk
    have g3 := LE.get J.hok (upd_same (H := H) (a := kS) (o := LE kS kA n))
    refine wpAny_bind (listItems_at g3 rfl ?_)
    refine end_key J upd_same ((upd_ne (Ne.symm hne)).trans hA) hne rv hk hlen h64 fun H' s2 ys J2 q1 q2 q3 => h H' s2 ys J2 (fun b o b1 b2 q => q1 b o b1 b2 ((upd_ne b2).trans q)) q2 q3
/-- list.sort(key=f) of the list a -/
theorem sort_key {a f : Addr} {of : Obj} {its : List Value} {xs : List V} {ks : List Int} {n : Nat} {R : PySem.Fin → Shared → Prop} (I : Inv X pins σ H s) (hA : H a = some (LE a its.toArray n)) (hf : s.heap.get? f = some of) (hfn : H f = none) (hfr : f ∉ frs X.stack)
    (rv : Vals xs its) (hlen : ks.length = its.length) (h64 : its.length < 64) {H0 : Hp} (sub : ∀ b o, H0 b = some o → H b = some o) (n0 : H0 a = none)
    (run : ∀ (i : Nat) (x : V) (k : Int), xs[i]? = some x → ks[i]? = some k → KeyRun X A pins σ H0 f of x k)
    (h : ∀ H' s' ys, Inv X pins σ H' s' → (∀ b o, b ≠ a → H b = some o → H' b = some o) → H' a = some (.lst ys) → ByKey ks xs ys → R (.done (.ret .none)) s') :
    wpAny (model X.prog X.w) A (ksk_tree a (.ref f) false) R E s := by
  have g0 := LE.get I.hok hA
  have hfa : f ≠ a := fun z => by rw [z, hA] at hfn; cases hfn
  obtain ⟨e1, I1⟩ := le_set I hA fun _ => #[]
  have hA1 : upd H a (LE a #[] e1) a = some (LE a #[] e1) := upd_same
  have g1 := LE.get I1.hok hA1
  unfold ksk_tree
  refine wpAny_bind (listItems_at g0 rfl ?_)
  refine wpAny_bind (listUpdate_at g0 rfl ?_ (by rw [List.size_toArray, sizeLine_eq]; omega) (Nat.zero_le _))
  refine wpAny_bind (seqEpoch_at g1 rfl ?_)
  refine wpAny_bind (wpAny_newTuple ?_ (by show its.length ≤ _; rw [sizeLine_eq]; omega))
  have I2 := I1.kept (t' := s.toks) (h' := (s.heap.update a (Obj.mapSeq fun _ => #[])).push { cls := .type "tuple", data := .seq its.toArray }) fun b u q => Heap.get?_push_of_some _ q
  refine wpAny_bind (wpAny_newList ?_ (Nat.zero_le _))
  have I3 := le_new I2 []
  refine wpAny_holding ?_
  have fr : upd H a (LE a #[] e1) ((s.heap.update a (Obj.mapSeq fun _ => #[])).push { cls := .type "tuple", data := .seq its.toArray }).objs.size = none := I2.hok.fresh (Nat.le_refl _)
  generalize hkS : ((s.heap.update a (Obj.mapSeq fun _ => #[])).push { cls := .type "tuple", data := .seq its.toArray }).objs.size = kS at I3 fr
  have nka : kS ≠ a := fun z => by rw [z, upd_same] at fr; cases fr
  have nkf : kS ≠ f := fun z => by
    have q1 : (s.heap.update a (Obj.mapSeq fun _ => (#[] : Array Value))).get? f = some of := (Heap.get?_update_ne _ _ _ _ hfa).trans hf
    have q2 := Heap.lt_size (Heap.get?_push_of_some ({ cls := .type "tuple", data := .seq its.toArray } : Obj) q1)
    rw [hkS, z] at q2
    exact absurd q2 (Nat.lt_irrefl _)
  have fk : H kS = none := (upd_ne nka).symm.trans fr
  refine rest_key (H0 := H0) I3 upd_same ((upd_ne (Ne.symm nka)).trans hA1) nka (fun b o q => ?_) ?_ ?_ ((upd_ne (Ne.symm nkf)).trans ((upd_ne hfa).trans hfn)) hfr rv hlen h64 run fun H' s' ys J q1 q2 q3 => h H' s' ys J (fun b o hb q => ?_) q2 q3
  · rw [upd_ne (ne_of_none (sub b o q) fk), upd_ne (ne_of_none q n0)]
    exact sub b o q
  · cases q : H0 kS with
    | none => rfl
    | some o =>
      rw [sub kS o q] at fk
      cases fk
  · exact Heap.get?_push_of_some _ (Heap.get?_push_of_some _ ((Heap.get?_update_ne _ _ _ _ hfa).trans hf))
  · refine q1 b o hb (ne_of_none q fk) ?_
    rw [upd_ne (ne_of_none q fk), upd_ne hb]
    exact q
end
/-! ### sorted(e, key=lambda x: ..) -/
/-- what is asked of the keys: the lambda's body gives them, whatever is made meanwhile -/
def KeysTold (N : List Str) (tb : TE) (wv : List (Option V)) (H : Hp) (xs : List V) (ks : List Int) : Prop :=
  ∀ (i : Nat) (x : V) (k : Int), xs[i]? = some x → ks[i]? = some k → ∀ H' : Hp, ExtN H H' → tb (startF N [x] wv) H' fun v H'' => v = .int k ∧ H'' = H'
/-- the reading: the thing at a has the items xs (told by src), their keys are ks -/
def tSortLam (src : Hp → Addr → List V → Prop) (T : List (Addr × Str)) (N : List Str) (js : List Nat) (tb : TE) (te : TA) : TE := fun σ H Q => te σ H fun vs H1 => ∃ (a : Addr) (xs : List V) (ks : List Int), vs = [.ref a] ∧ src H1 a xs ∧ xs.length < 64 ∧ ks.length = xs.length ∧
  Tabs T H1 ∧ KeysTold N tb (js.map (slotAt σ)) H1 xs ks ∧ ∀ (H2 : Hp) (p : Addr) (ys : List V), ExtN H1 H2 → Tabs T H2 → H2 p = some (.lst ys) → ByKey ks xs ys → Q (.ref p) H2
/-- a dict's keys, all ints -/
def srcD (H : Hp) (a : Addr) (xs : List V) : Prop := ∃ (kvs : List (Key × V)) (ns : List Int), Rd H a (.dK kvs) ∧ kvs.map (·.1) = ns.map Sum.inl ∧ xs = ns.map V.int
def srcL (K : PySem.W.Frag) (H : Hp) (a : Addr) (xs : List V) : Prop := SqL K H a xs
theorem rd_ext {H H' : Hp} (e : ExtN H H') {a : Addr} {kvs : List (Key × V)} (h : Rd H a (.dK kvs)) : Rd H' a (.dK kvs) := by
  rcases h with h | ⟨o, h⟩
  · exact .inl (e _ _ h (fun _ z => by cases z))
  · exact .inr ⟨o, e _ _ h (fun _ z => by cases z)⟩
theorem seq_ext {K : PySem.W.Frag} {H H' : Hp} (e : ExtN H H') {a : Addr} {xs : List V} (h : SqL K H a xs) : SqL K H' a xs := by
  rcases h with (h | ⟨o, h⟩) | h
  · exact .inl (.inl (e _ _ h (fun _ z => by cases z)))
  · exact .inl (.inr ⟨o, e _ _ h (fun _ z => by cases z)⟩)
  · exact .inr h
/-- how the items of the thing at a are gathered -/
def Gathers (X : Cx) (src : Hp → Addr → List V → Prop) : Prop := (∀ H H' a xs, ExtN H H' → src H a xs → src H' a xs) ∧
  ∀ (pins : List (Addr × Obj)) (σ : L2.St) (H : Hp) (s : Shared) (a : Addr) (xs : List V) (E : Value → Shared → Prop) (R : List Value → Shared → Prop), Inv X pins σ H s → src H a xs → xs.length < 64 →
    (∀ (acc : List Value) h' tk, (∀ b o, s.heap.get? b = some o → h'.get? b = some o) → Vals xs acc → R acc { s with heap := h', toks := tk }) → wpAny (model X.prog X.w) X.A.in1 (collect (.ref a)) R E s
theorem gathers_list {X : Cx} : Gathers X (srcL X.K) := by
  refine ⟨fun H H' a xs e h => seq_ext e h, fun pins σ H s a xs E R I h h64 k => ?_⟩
  obtain ⟨its, rv, hl, hz⟩ := I.list h
  refine collect_list hl.isList ?_ (by rw [← rv.length]; exact hz)
  refine k its _ s.toks (fun b o q => ?_) rv
  have hb : b < s.heap.objs.size := Heap.lt_size q
  rw [Heap.get?_update_ne _ _ _ _ (Nat.ne_of_lt hb)]
  exact Heap.get?_push_of_some _ q
theorem gathers_dict {X : Cx} (hcalm : X.calm = true) : Gathers X srcD := by
  refine ⟨fun H H' a xs e ⟨kvs, ns, h1, h2, h3⟩ => ⟨kvs, ns, rd_ext e h1, h2, h3⟩, fun pins σ H s a xs E R I h h64 k => ?_⟩
  obtain ⟨kvs, ns, hd, hks, rfl⟩ := h
  rw [List.length_map] at h64
  obtain ⟨z, lo, vs, rel, dd⟩ := dk_rd I.hok hd
  obtain ⟨ep, hat⟩ := dd.dictAt
  have hkeys : vs.map (·.1) = ns.map Sum.inl := rel.keys.symm.trans hks
  have hl : vs.length = ns.length := by simpa using congrArg List.length hkeys
  refine PySem.W.kdu_collect (A := X.A.in1) (PySem.W.kdl_dict (knd := mixKind X.prog X.w) (kvs := vs) (ep := ep) lo) (I.ok.hd hcalm) hat (by rw [hl, sizeLine_eq]; omega) fun h' tk acc hk hacc => k acc.toList h' tk hk ?_
  have hal : acc.toList.length = ns.length := by rw [Array.length_toList, hacc.1, hl]
  refine vals_of_ints (ints_each hal fun j v e => ?_)
  obtain ⟨q, x, e1, e2⟩ := hacc.2 j v ((Array.getElem?_toList ..).symm.trans e)
  have e3 : (vs.map (·.1))[j]? = some q := by rw [List.getElem?_map, e1]; rfl
  rw [hkeys, List.getElem?_map] at e3
  obtain ⟨y, e4, rfl⟩ := Option.map_eq_some_iff.mp e3
  rcases keyIs_shape (show keyIs (Sum.inl y) v = true from e2) with ⟨i, t, ek, ev⟩ | ⟨_, _, ek, _⟩
  · cases ek
    exact ⟨y, t, e4, ev⟩
  · cases ek
section
variable {X : Cx} {x : Str} {p pos lpos kpos : Pos} {e : Expr} {te : TA} {params : Arguments} {body : Expr} {scope : Scope} {T : List (Addr × Str)} {c P : Addr} {N fr : List Str} {js : List Nat} {tb : TE} {k : Nat} {src : Hp → Addr → List V → Prop}
theorem pe_sortLam (G : Gathers X src) (ha : PA X [e] te) (hg : Gl X "sorted") (hmg : X.mg "sorted" = none) (TB : TabB X.base X.mg c P) (hcode : X.env.code = .ref c) (hm : (P, X.env.qual ++ "<lambda>") ∈ T) (hu : ∀ p ∈ T, p.1 = P → p.2 = X.env.qual ++ "<lambda>")
    (hdef : defaultsOf params X.env = ([], [])) (S : NScope N [x] fr scope) (hfree : ∀ y ∈ scope.names, y.2 = .free → X.env.scope.names.lookup y.1 = some .cell ∨ X.env.scope.names.lookup y.1 = some .free) (hfr : ∀ y ∈ fr, (y, NameKind.free) ∈ scope.names)
    (hjs : js.map (fun j => X.N[j]?) = fr.map some) (hb : ∀ (q : Str) (cl : List (Str × Addr)) (pm cv ctv u : Value), bindArgs (PySem.W.kla_fn "<lambda>" q params body scope cl pm cv ctv) ⟨[u], []⟩ = pure [(x, u)]) (hr : Room (k + 3) X.A)
    (hbody : ∀ (A : Around) (outer : List Env) (s : Shared) (H : Hp) (E : XK) (f c' : Addr) (cl : List (Str × Addr)), Room k (A.deeper (envF (lamF (X.env.qual ++ "<lambda>") params scope cl c') f s.heap.objs.size)) → PE (ncx NoX X.prog X.w X.K X.mg X.base N (lamF (X.env.qual ++ "<lambda>") params scope cl c') f A outer s H E) body tb)
    (he : backTo pos (starEach [e] X.env) = (false, eval e X.env) :: backTo pos (starEach [] X.env) := by rfl) (hpl : (backTo pos (starEach [e] X.env)).any (·.1) = false := by rfl) :
    PE X (.Call (.Name "sorted" p) [e] [⟨some "key", .Lambda params body scope lpos, kpos⟩] pos) (tSortLam src T N js tb te) := by
  refine ⟨fun pins s σ H Q I h => ?_⟩
  refine wpAny_Call_Name_kw (ld_blt I hg hmg (u := .builtin "sorted") (by decide +kernel) ?_)
  refine callWith_kw (thn (ha.run pos pins s σ H _ I h) fun us s1 ⟨vs, H1, I1, r1, q1⟩ => ?_) he hpl
  obtain ⟨a, xs, ks, rfl, hsrc, h64, hlen, hT, hkeys, hq⟩ := q1
  obtain rfl := Vals.ref1 r1
  have hfr' : ∀ y ∈ scope.names, y.2 = .free → ∃ c, X.env.cells.lookup y.1 = some c := fun y hy e => (hfree y hy e).elim (fun z => I1.ok.has _ (.inl z)) fun z => I1.ok.has _ (.inr z)
  show wpAny _ _ (evalAll [do let v ← eval (.Lambda params body scope lpos) X.env; standAt pos; pure v]) _ _ s1
  refine wpAny_evalAll_cons (wpAny_bind (lam_make2 I1 TB hcode hm hu hT hdef hfr' fun f c' pm ctv H2 s2 I2 e2 T2 hf hfn hfs hc => wpAny_bind (wpAny_standAt (wpAny_pure (wpAny_evalAll_nil ?_)))))
  show wpAny _ _ (call (.builtin "sorted") [.ref a] [(Str.ofString "key", .ref f)]) _ _ s2
  refine call_function_entry_kw kind_sorted plain_sorted entry_sorted (ksk_s1 _ _) ?_
  unfold Builtin.«sorted»
  refine wpAny_bind (m := checkCount "sorted" 1 1 _) (wpAny_pure ?_)
  refine wpAny_bind (G.2 pins σ H2 s2 a xs _ _ I2 (G.1 _ _ _ _ e2 hsrc) h64 fun acc h' tk hk rv => ?_)
  have hal : acc.length = xs.length := rv.length.symm
  have I3 := I2.kept (t' := tk) hk
  refine wpAny_bind (wpAny_newList ?_ (by rw [hal, sizeLine_eq]; omega))
  have I4 := le_new I3 acc
  have gL := LE.get I4.hok upd_same
  have nL : H2 h'.objs.size = none := I3.hok.fresh (Nat.le_refl _)
  have nfL : f ≠ h'.objs.size := Nat.ne_of_lt (Heap.lt_size (hk _ _ hf))
  have cap := fun {s' : Shared} {H' : Hp} (J : Inv X pins σ H' s') => cells_of J (Caps.made (fr := fr) (js := js) (scope := scope) J.ok hfree hfr hjs)
  have run : ∀ (i : Nat) (z : V) (n : Int), xs[i]? = some z → ks[i]? = some n → KeyRun X X.A.in1.in1 pins σ H2 f (PySem.W.kla_obj "<lambda>" (X.env.qual ++ "<lambda>") params body scope (cloFrom X.env.cells scope.names []) pm c' ctv) z n := by
    intro i z n hz hn s' H' u J sub jf jn ru
    have hr1 : Room (k + 1) X.A.in1.in1 := (Room.in1 (Room.in1 hr))
    exact lam_call (vs := [z]) (us := [u]) S J.env0.in1.in1 hr1 jf (sub _ _ hc) (hb _ _ _ _ _ _) (cap J) (.cons ru .nil) rfl (hbody _ _ _ _ _ _ _ _ (hr1.deeper _)) (hkeys i z n hz hn H' (e2.trans (ExtN.of sub)))
  refine wpAny_bind (wpAny_holding (wpAny_call_entry_kw slot_list_sort ⟨_, gL, rfl⟩ entry_list_sort ?_ (ksk_l1 _ _)))
  rw [ksk_t1]
  refine sort_key (H0 := H2) (s := { s2 with heap := h'.push { cls := .type "list", data := .seq acc.toArray }, toks := tk }) I4 upd_same (Heap.get?_push_of_some _ (hk _ _ hf)) ((upd_ne nfL).trans hfn) hfs rv (by omega) (by omega) (fun b o q => (upd_ne (ne_of_none q nL)).trans q) nL run fun H5 s5 ys I5 q1 q2 q3 => ⟨_, rfl, ?_⟩
  refine wpAny_pure ⟨_, rfl, .ref _, H5, I5, rfl, hq H5 _ ys (e2.trans fun b o q _ => ?_) (fun p hp => ?_) q2 q3⟩
  · exact q1 b o (ne_of_none q nL) ((upd_ne (ne_of_none q nL)).trans q)
  · exact (T2 p hp).ext fun b o q => q1 b o (ne_of_none q nL) ((upd_ne (ne_of_none q nL)).trans q)
end
end WS
end
section
set_option Elab.async false
set_option linter.all false
set_option maxRecDepth 100000
set_option maxHeartbeats 4000000
/-! the end of a specification's row whose defs make lambdas: their code objects' tables are tracked -/
namespace WE
open PySem PySem.Spec PyProof.Rows L2 LamX
open PySem.W (WData Codec OpenSpec Well WellAll ReadsW)
mutual
theorem dw_mono {K : PySem.W.Frag} {H H' : Hp} (hl : ∀ a xs, SqL K H a xs → SqL K H' a xs) (ht : ∀ a xs, SqT K H a xs → SqT K H' a xs) : ∀ (v : V) (d : WData), Dw K H v d → Dw K H' v d
  | _, _, .non => .non
  | _, _, .bl b => .bl b
  | _, _, .int i => .int i
  | _, _, .str x => .str x
  | _, _, .byt b => .byt b
  | _, _, .lst s a => .lst (hl _ _ s) (dwAll_mono hl ht _ _ a)
  | _, _, .tup s a => .tup (ht _ _ s) (dwAll_mono hl ht _ _ a)
theorem dwAll_mono {K : PySem.W.Frag} {H H' : Hp} (hl : ∀ a xs, SqL K H a xs → SqL K H' a xs) (ht : ∀ a xs, SqT K H a xs → SqT K H' a xs) : ∀ (vs : List V) (ds : List WData), DwAll K H vs ds → DwAll K H' vs ds
  | _, _, .nil => .nil
  | _, _, .cons a b => .cons (dw_mono hl ht _ _ a) (dwAll_mono hl ht _ _ b)
end
def blank : Obj := { cls := .none, data := .fields #[] }
/-- the arguments, and the tables at ts -/
def withTabs (ts : List Addr) (H : Hp) : Hp := fun b => if b ∈ ts then some (.tbl #[]) else H b
theorem wt_in {ts : List Addr} {H : Hp} {b : Addr} (h : b ∈ ts) : withTabs ts H b = some (.tbl #[]) := if_pos h
theorem wt_out {ts : List Addr} {H : Hp} {b : Addr} (h : b ∉ ts) : withTabs ts H b = H b := if_neg h
theorem spec_callT {P : Program} {w : World} {K : PySem.W.Frag} {mg mb : Str → Option Value} {CX : CXT} {k : Nat} {fa : Addr} {fd : FuncData} {ps : List Str} {sp : Sp} {s1 : Shared} {vals : List Value} {ds : List WData} {R : PySem.W.WRecords} {cl : Str → Option Addr} {d0 : WData}
    {cs : List (Addr × Addr)} (KX : K.In s1.heap) (hns : s1.heap.Ns mainGlobals mg) (hb : s1.heap.Ns builtinsNs mb) (hbb : ∀ x : Str, x ≠ "__name__" → mb x = bootBuiltins x) (hlim : s1.heap.NoLimit) (hg : s1.gens = #[])
    (hT : ∀ p ∈ cs, s1.heap.get? p.2 = some blank) (nT : ∀ p ∈ cs, K.lookup p.2 = none) (C : ∀ p ∈ cs, PySem.W.CodeHd s1.heap p.1 p.2)
    (hbm : ∃ (bm : Addr) (ob : Obj), mg "__builtins__" = some (.ref bm) ∧ bm ≠ builtinsNs ∧ s1.heap.get? bm = some ob ∧ ob.cls = .type "module" ∧ ob.dict = some builtinsNs ∧ ob.data = .plain)
    (hwl : WellAll w.params s1.heap vals ds) (hpl : plWs ds = true) (hwt : ∀ d ∈ ds, d.weight ≤ 1048576) (hr : Room k callerA)
    (F : ∀ base : Heap, K.In base → base.Ns mainGlobals mg → (∀ p ∈ cs, TabB base mg p.1 p.2) → FnOk P w K mg base CX k fa fd ps sp)
    (hbind : ∀ (s : Shared) (us : List Value), us.length = ps.length → BindsTo s fd ⟨us, []⟩ (ps.zip us)) (hlen : ds.length = ps.length)
    (hsp : ∀ (H : Hp) (xs : List V), (∀ p ∈ cs, H p.2 = some (.tbl #[])) → DwAll K H xs ds → sp xs H (fun v H' => Dw K H' v d0) fun _ _ _ => False)
    (hCX : ∀ H e s', CX [] H s1 (fun _ _ _ => False) e s' → False) :
    codeAny (model P w) callerA (.call (.ref fa) ⟨vals, []⟩) (fun r s' => ∃ u as, r = .ok (.ret u) ∧ ReadsW R cl s'.heap u d0 as ∧ OldK s1.heap s'.heap ∧ s'.os = s1.os ∧ AllBare s'.gens) s1 := by
  obtain ⟨Ar, ho, ar⟩ := area_all ds vals hwl hpl hwt
  have isT : ∀ b : Addr, b ∈ cs.map (·.2) → s1.heap.get? b = some blank := fun b hb' => by
    obtain ⟨p, hp, rfl⟩ := List.mem_map.mp hb'
    exact hT p hp
  have mT : ∀ p ∈ cs, p.2 ∈ cs.map (·.2) := fun p hp => List.mem_map.mpr ⟨p, hp, rfl⟩
  have kT : ∀ b : Addr, b ∈ cs.map (·.2) → K.lookup b = none := fun b hb' => by
    obtain ⟨p, hp, rfl⟩ := List.mem_map.mp hb'
    exact nT p hp
  -- what the arguments track is no table
  have argN : ∀ b : Addr, b ∈ cs.map (·.2) → argH K s1.heap Ar b = none := fun b hb' => by
    cases q : argH K s1.heap Ar b with
    | none => rfl
    | some u =>
      have t := isT b hb'
      obtain ⟨_, us, _, _, ⟨e2, _⟩ | ⟨e2, _⟩⟩ := argH_is ar q
      · rw [t] at e2
        have z : Value.none = Value.type "list" := congrArg Obj.cls (Option.some.inj e2)
        cases z
      · rw [t] at e2
        have z : Value.none = Value.type "tuple" := congrArg Obj.cls (Option.some.inj e2)
        cases z
  have up : ∀ b u, argH K s1.heap Ar b = some u → withTabs (cs.map (·.2)) (argH K s1.heap Ar) b = some u := fun b u q => by
    rw [wt_out fun z => by rw [argN b z] at q; cases q]
    exact q
  have down : ∀ b u, withTabs (cs.map (·.2)) (argH K s1.heap Ar) b = some u → (b ∈ cs.map (·.2) ∧ u = .tbl #[]) ∨ argH K s1.heap Ar b = some u := fun b u q => by
    by_cases z : b ∈ cs.map (·.2)
    · rw [wt_in z] at q
      exact .inl ⟨z, (Option.some.inj q).symm⟩
    · rw [wt_out z] at q
      exact .inr q
  have hok0 : HOk P w (argH K s1.heap Ar) s1.heap := argH_ok ar
  have hok : HOk P w (withTabs (cs.map (·.2)) (argH K s1.heap Ar)) s1.heap := fun b u q => by
    rcases down b u q with ⟨z, rfl⟩ | z
    · exact isT b z
    · exact (hok0 b u z).stay (fun _ _ _ e => e) (fun c e => up c _ e) fun c xs e => up c _ e
  have hS : DwAll K (withTabs (cs.map (·.2)) (argH K s1.heap Ar)) (vals.map toV) ds := by
    refine dwAll_mono (fun a xs e => ?_) (fun a xs e => ?_) _ _ (dw_all KX ar ds vals hwl hpl ho)
    · rcases e with (e | ⟨o, e⟩) | e
      · exact .inl (.inl (up _ _ e))
      · exact .inl (.inr ⟨o, up _ _ e⟩)
      · exact .inr e
    · rcases e with (e | ⟨o, e⟩) | e
      · exact .inl (.inl (up _ _ e))
      · exact .inl (.inr ⟨o, up _ _ e⟩)
      · exact .inr e
  have hV := vals_toV ho
  have hH : ∀ p ∈ cs, withTabs (cs.map (·.2)) (argH K s1.heap Ar) p.2 = some (.tbl #[]) := fun p hp => wt_in (mT p hp)
  have hO : ∀ b u, withTabs (cs.map (·.2)) (argH K s1.heap Ar) b = some u → (b ∈ cs.map (·.2) ∧ u = .tbl #[]) ∨ (K.lookup b = none ∧ ∃ o x, u = .frz o x ∧ ∃ vs : List Value, o.data = .seq vs.toArray 0) := fun b u q => by
    rcases down b u q with z | z
    · exact .inl z
    · obtain ⟨h1, vs, _, _, ⟨_, e⟩ | ⟨_, e⟩⟩ := argH_is ar z
      · exact .inr ⟨h1, _, _, e, vs, rfl⟩
      · exact .inr ⟨h1, _, _, e, vs, rfl⟩
  generalize withTabs (cs.map (·.2)) (argH K s1.heap Ar) = H at hok hS hH hO
  have base_of : ∀ {b : Addr} {o : Obj}, s1.heap.get? b = some o → H b = none → (hidT s1.heap H).get? b = some o := fun e n => hidT_get e n
  -- an object that is neither a sequence nor an empty record is not tracked
  have noH : ∀ {b : Addr} {o : Obj}, s1.heap.get? b = some o → (∀ vs : List Value, o.data ≠ .seq vs.toArray 0) → o.data ≠ .fields #[] → H b = none := fun {b o} e h1 h2 => by
    cases q : H b with
    | none => rfl
    | some u =>
      rcases hO b u q with ⟨z, _⟩ | ⟨_, ob, x, rfl, vs, hv⟩
      · have t := isT b z
        rw [e] at t
        exact absurd (congrArg Obj.data (Option.some.inj t)) h2
      · obtain ⟨t, _⟩ := hok b _ q
        rw [e] at t
        cases t
        exact absurd hv (h1 vs)
  have nsK : ∀ {b : Addr} {m : Str → Option Value}, s1.heap.Ns b m → (hidT s1.heap H).Ns b m := fun {b m} ⟨o, es, ep, e, d, r⟩ =>
    ⟨o, es, ep, base_of e (noH e (fun vs z => by rw [d] at z; cases z) fun z => by rw [d] at z; cases z), d, r⟩
  have hKb : K.In (hidT s1.heap H) := fun b o e => base_of (KX b o e) (by
    cases q : H b with
    | none => rfl
    | some u =>
      rcases hO b u q with ⟨z, _⟩ | ⟨z, _⟩
      · rw [kT b z] at e
        cases e
      · rw [z] at e
        cases e)
  have hM : Mod K mg (hidT s1.heap H) := ⟨hKb, nsK hns, ⟨mb, nsK hb, hbb⟩, let ⟨mc, h1, h2⟩ := hlim; ⟨mc, nsK h1, h2⟩⟩
  have TB : ∀ p ∈ cs, TabB (hidT s1.heap H) mg p.1 p.2 := fun p hp => by
    have t := hT p hp
    have gne : ∀ {b : Addr} {m : Str → Option Value}, s1.heap.Ns b m → b ≠ p.2 := fun {b m} ⟨o, es, ep, e, d, _⟩ z => by
      rw [z, t] at e
      cases e
      cases d
    refine ⟨?_, ?_, gne hns⟩
    · obtain ⟨o, us, file, tf, flags, tg, inF, text, tt, e1, r1, r2, r3, rest⟩ := C p hp
      refine ⟨o, us, file, tf, flags, tg, inF, text, tt, base_of e1 (noH e1 (fun vs z => by rw [r2] at z; cases z) fun z => ?_), r1, r2, r3, rest⟩
      rw [r2] at z
      cases z
      simp at r3
    · obtain ⟨bmA, ob, b1, b2, b3, b4, b5, b6⟩ := hbm
      refine ⟨bmA, ob, b1, b2, fun z => ?_, fun z => ?_, base_of b3 (noH b3 (fun vs z => by rw [b6] at z; cases z) fun z => by rw [b6] at z; cases z), b4, b5, b6⟩
      · obtain ⟨o, es, ep, e, d, _⟩ := hns
        rw [z, e] at b3
        cases b3
        rw [d] at b6
        cases b6
      · rw [z, t] at b3
        cases b3
        cases b6
  have e0 : Env0 P w K mg (hidT s1.heap H) callerA [] s1 H :=
    ⟨rfl, hM, fun b o e => of_hidT e, Nat.le_of_eq (hidT_size _ _), trivial, fun b z => (by cases (show b ∈ ([] : List Addr) from z)), hok, .of_eq hg⟩
  have hl : vals.length = ps.length := (wellAll_len hwl).trans hlen
  refine codeAny_mono ((F _ hKb (nsK hns) TB).run callerA [] s1 H ⟨vals, []⟩ vals (vals.map toV) _ _ hr e0 (hbind s1 vals hl) hV (hsp H _ hH hS)) fun r s' x => ?_
  match r, x with
  | .error e, x => exact (hCX H e s' x).elim
  | .ok .next, x => exact False.elim x
  | .ok .brk, x => exact False.elim x
  | .ok .cont, x => exact False.elim x
  | .ok (.ret u), x =>
    obtain ⟨v, H', os, bare, un, hokE, rE, q⟩ := x
    have key : ∀ b o, b ∉ cs.map (·.2) → s1.heap.get? b = some o → s'.heap.get? b = some o := fun b o nb e => by
      cases q2 : H b with
      | none => exact un.keep b o e q2 (fun z => by cases (show b ∈ ([] : List Addr) from z)) (by simp)
      | some u2 =>
        rcases hO b u2 q2 with ⟨z, _⟩ | ⟨_, ob, x, rfl, _⟩
        · exact absurd z nb
        · obtain ⟨t1, _⟩ := hok b _ q2
          obtain ⟨t2, _⟩ := hokE b _ (un.frzs b ob _ q2)
          rw [e] at t1
          cases t1
          exact t2
    have grew : ∀ p ∈ cs, ∃ add : Array Value, s'.heap.get? p.2 = some { cls := .none, data := .fields add } := fun p hp => by
      obtain ⟨add, z⟩ := un.tbls p.2 #[] (hH p hp)
      exact ⟨_, hokE p.2 _ z⟩
    have KX' : K.In s'.heap := fun b o e => key b o (fun z => by rw [kT b z] at e; cases e) (KX b o e)
    obtain ⟨as, hrd⟩ := Dw.reads (R := R) (cl := cl) hokE KX' d0 v u q rE
    refine ⟨u, as, rfl, hrd, ⟨fun b o e => ?_, fun b o e => ?_⟩, os, bare⟩
    · by_cases z : b ∈ cs.map (·.2)
      · obtain ⟨p, hp, rfl⟩ := List.mem_map.mp z
        obtain ⟨add, hm⟩ := grew p hp
        obtain rfl := Option.some.inj ((hT p hp).symm.trans e)
        exact .inr (.inl ⟨((C p hp).tab (hT p hp)).isCodeTable, rfl, #[], add, rfl, (Array.empty_append (xs := add)).symm ▸ hm⟩)
      · exact .inl (key b o z e)
    · by_cases z : b ∈ cs.map (·.2)
      · obtain ⟨p, hp, rfl⟩ := List.mem_map.mp z
        obtain ⟨add, hm⟩ := grew p hp
        exact ⟨_, hm⟩
      · exact ⟨o, key b o z e⟩
/-- the row's end from the promise of its def; tabs: the defs whose code tables are tracked -/
theorem walk_specT {r : OpenSpec} {k : Nat} {q : Program} {loose : List Str} {XP : (Str → Option Value) → Heap → Prop} {YP : World → Heap → Prop} {d : DefRec} {K : Params → PySem.W.Frag} {CX : CXT} {ps : List Str} {xs : List Str}
    (wellR : r.wellSaid = true) (hdf : d.params.defaults = []) (hlen : r.args.length = ps.length) (hr : Room k callerA)
    (hY : ∀ (w : World) (h : Heap), YP w h → (K w.params).In h) (hrec : (xs.all fun x => ((recsOf q).find? fun e => e.name == x).isSome) = true)
    (F : ∀ (w : World) (mg : Str → Option Value) (fa : Addr) (hp : Heap), YP w hp → (K w.params).In hp → hp.Ns mainGlobals mg → mg d.name = some (.ref fa) →
      ∃ (fd : FuncData) (cs : List (Addr × Addr)) (sp : Sp), cs.map some = xs.map (PySem.W.tabIn (K w.params)) ∧ (∀ p ∈ cs, (K w.params).lookup p.2 = none) ∧
        (∀ (s : Shared) (us : List Value), us.length = ps.length → BindsTo s fd ⟨us, []⟩ (ps.zip us)) ∧
        (∀ base : Heap, (K w.params).In base → base.Ns mainGlobals mg → (∀ p ∈ cs, TabB base mg p.1 p.2) → FnOk r.prog w (K w.params) mg base CX k fa fd ps sp) ∧
        ∀ (H : Hp) (vs : List V) (a : Codec.denoteAll r.args), (∀ p ∈ cs, H p.2 = some (.tbl #[])) → Codec.withinAll r.args a = true → Codec.app r.args r.asked a = true → DwAll (K w.params) H vs (Codec.encAll r.args a) →
          sp vs H (fun v H' => Dw (K w.params) H' v (r.ret.enc (Codec.app r.args r.f a))) fun _ _ _ => False)
    (noX : ∀ (H : Hp) (s : Shared) (e : Value) (s' : Shared), CX [] H s (fun _ _ _ => False) e s' → False) :
    PySem.W.WalkOS q loose XP YP r d [] (fun fn us => PySem.call fn us) := by
  intro w s0 s1 mg mb G Y fa o pm cd doc dV kV ho hd hcd hD hmg hg args vals as hpre hlay hrd hwl hlo
  obtain ⟨a, dec, ask⟩ := PySem.W.os_pre_some hpre
  obtain ⟨rfl, hwi⟩ := Codec.encAll_of_decAll r.args args a dec
  have KX := hY w _ Y
  obtain ⟨fd, cs, sp, hcs, nT, hb, hF, hsp⟩ := F w mg fa _ Y KX G.T.g hmg
  have tabs : ∀ p ∈ cs, PySem.W.CodeHd s1.heap p.1 p.2 ∧ s1.heap.get? p.2 = some blank := fun p hp => by
    have hp2 : some p ∈ xs.map (PySem.W.tabIn (K w.params)) := hcs ▸ List.mem_map.mpr ⟨p, hp, rfl⟩
    obtain ⟨x, hx, ex⟩ := List.mem_map.mp hp2
    obtain ⟨dd, hdd⟩ := Option.isSome_iff_exists.mp (List.all_eq_true.mp hrec x hx)
    exact PySem.W.tab_of G.T KX hdd ex
  refine PySem.W.enter_call (codeAny_mono (spec_callT (R := []) (cl := classAt s0.heap) (d0 := r.ret.enc (Codec.app r.args r.f a)) KX G.T.g G.T.b G.T.builtins G.T.nolimit hg (fun p hp => (tabs p hp).2) nT (fun p hp => (tabs p hp).1) G.T.bmain hwl
    (pl_encAll _ _) (layable_weight hlay) hr hF hb (by rw [encAll_len]; exact hlen) (fun H vs hH hS => hsp H vs a hH hwi ask hS) fun H e s' => noX H s1 e s') fun r' s' hq => ?_)
  obtain ⟨u, asE, rfl, h1, h2, h3, h4⟩ := hq
  exact ⟨.inl ⟨u, _, asE, rfl, fun _ => rfl, h1, (OpenSpec.post_iff wellR hwi _ _).mpr rfl, fun z => nomatch (show false = true from z)⟩, h2, h3, h4⟩
/-- a def's code table, from what the top has written -/
theorem tabIn_of {K : PySem.W.Frag} {x : Str} {f c P : Addr} {oc o2 : Value} {od d2 : Option Addr} {fd : FuncData} {sl s2 : Array (Option Value)} {vs : Array Value} (a : PySem.W.nsIn K mainGlobals x = some (some (.ref f))) (l : K.lookup f = some ⟨oc, od, .func fd, sl⟩) (hc : fd.code = .ref c)
    (lc : K.lookup c = some ⟨o2, d2, .fields vs, s2⟩) (hp : vs[11]? = some (.ref P)) : PySem.W.tabIn K x = some (c, P) := by
  unfold PySem.W.tabIn
  rw [a]
  dsimp only
  rw [l]
  dsimp only
  rw [hc]
  dsimp only
  rw [lc]
  dsimp only
  rw [hp]
end WE
end
section
set_option Elab.async false
set_option linter.all false
set_option maxRecDepth 100000
set_option maxHeartbeats 4000000
/-! rules of the program's own: xs.extend(a tuple), max(xs, default=d), min(xs, default=d) -/
namespace WR
open PySem PySem.Spec PyProof.Rows L2
/-- any tuple's items go behind a list's own -/
theorem ext_tuple (l b : Addr) (us ws : Array Value) (n m : Nat) (dc : Option Addr) (sl : Array (Option Value)) (h0 : (!us.isEmpty && Builtin.List.listTooLong (us.size + ws.size)) = false) (h1 : us.size ≤ sizeLine) (h2 : us.size + ws.size ≤ sizeLine + 1) :
    Meets (Builtin.«list.extend» ⟨[.ref l, .ref b], []⟩) (fun _ R s => s.heap.get? l = some ⟨.type "list", none, .seq us n, #[]⟩ ∧ s.heap.get? b = some ⟨.type "tuple", dc, .seq ws m, sl⟩ ∧
      R (.ok (.ret Value.none)) { s with heap := s.heap.update l (Obj.mapSeq (· ++ ws)), toks := s.toks }) := by
  refine .of_wp fun prog w A R s h => ?_
  obtain ⟨hp, g, d, tk, os⟩ := s
  obtain ⟨hl, hb, h⟩ := h
  have f1 := AutoSeq1.sub_tuple_tuple
  have f2 := AutoSeq1.sub_list_list
  have f3 := AutoSeq1.sub_tuple_list
  have f4 := AutoSeq1.sub_list_tuple
  have g0 : ¬ (!us.isEmpty && Builtin.List.listTooLong (us.size + ws.size)) = true := by rw [h0]; exact Bool.false_ne_true
  have z : (us ++ ws).size ≤ sizeLine + 1 := by
    rw [Array.size_append]
    exact h2
  wp_walk using (wpAny_updateSeq hl rfl (hz := h1) (_hz' := z)), AutoSeq1.wpAny_loadPart' hl, AutoSeq1.wpAny_loadPart' hb
  exact ⟨_, rfl, h⟩
section
variable {X : Cx}
def rExtendT : V → List V → Hp → VK → Prop := fun x vs H Q => ∃ l b xs zs, x = .ref l ∧ vs = [.ref b] ∧ H l = some (.lst xs) ∧ H b = some (.tup zs) ∧ xs.length + zs.length ≤ sizeLine ∧ Q .non (upd H l (.lst (xs ++ zs)))
theorem mt_extendT : MtM X "list.extend" rExtendT := by
  intro pins s σ H x vs v us Q I rx rv h
  obtain ⟨l, b, xs, zs, rfl, rfl, hH, hB, hz, q⟩ := h
  cases rx
  obtain ⟨u, rfl, ru⟩ := rv.one
  cases ru
  obtain ⟨z, its, n, r, hl, e⟩ := I.lstM hH
  obtain ⟨z2, its2, r2, o2, e2, c2, n2, d2⟩ := I.hok b _ hB
  have hl2 := r2.length
  have hsz : its.toArray.size + its2.toArray.size ≤ sizeLine := by rw [List.size_toArray, List.size_toArray]; omega
  obtain ⟨oc, od, odt, osl⟩ := o2
  subst c2
  subst d2
  have hlong : (!its.toArray.isEmpty && Builtin.List.listTooLong (its.toArray.size + its2.toArray.size)) = false := by rw [notLongL hsz, Bool.and_false]
  refine call_meets F.slot_list_extend ⟨_, e, rfl⟩ F.entry_list_extend (F.args_list_extend_2 _ _) (ext_tuple l b its.toArray its2.toArray n n2 od osl hlong (by rw [List.size_toArray]; omega) (by omega)) ⟨e, e2, ?_⟩
  refine ⟨.non, _, I.lset (its' := its ++ its2) hH e (by simp) (r.append r2) ?_, rfl, q⟩
  rw [List.length_append]
  omega
/-! ### max, min with a default -/
theorem holdInts {h : Heap} : ∀ {vs : List Value} {ns : List Int}, IntsAre vs ns → PySem.W.HoldAll h vs ns
  | _, _, .nil => ⟨[], .nil⟩
  | _, _, .cons n t r => by
    obtain ⟨as, k⟩ := holdInts r
    exact ⟨[] ++ as, .cons (.int n t) k⟩
theorem holdsInt {h : Heap} {v : Value} {n : Int} (k : PySem.W.Holds h v n) : ∃ t, v = .int n t := by
  obtain ⟨as, r⟩ := k
  have r : Reads h v (.int n) as := r
  cases r with
  | int i t => exact ⟨t, rfl⟩
theorem max_mem (x : Int) : ∀ xs : List Int, PySem.W.maxOf x xs ∈ x :: xs ∧ ∀ y ∈ x :: xs, y ≤ PySem.W.maxOf x xs := fun xs => by
  unfold PySem.W.maxOf
  induction xs generalizing x with
  | nil =>
    refine ⟨List.mem_cons_self, fun y hy => ?_⟩
    rcases List.mem_cons.mp hy with q | q
    · rw [q]
      exact Int.le_refl _
    · cases q
  | cons z zs ih =>
    rw [List.foldl_cons]
    by_cases c : x < z
    · rw [show (if PySem.W.DatumOrd.lt x z = true then z else x) = z from if_pos (decide_eq_true c)]
      obtain ⟨h1, h2⟩ := ih z
      refine ⟨List.mem_cons_of_mem _ h1, fun y hy => ?_⟩
      rcases List.mem_cons.mp hy with q | q
      · have := h2 z List.mem_cons_self
        omega
      · exact h2 y q
    · rw [show (if PySem.W.DatumOrd.lt x z = true then z else x) = x from if_neg (fun q => c (of_decide_eq_true q))]
      obtain ⟨h1, h2⟩ := ih x
      refine ⟨?_, fun y hy => ?_⟩
      · rcases List.mem_cons.mp h1 with q | q
        · rw [q]
          exact List.mem_cons_self
        · exact List.mem_cons_of_mem _ (List.mem_cons_of_mem _ q)
      · have hx := h2 x List.mem_cons_self
        rcases List.mem_cons.mp hy with q | q
        · rw [q]
          exact hx
        · rcases List.mem_cons.mp q with q | q
          · rw [q]
            omega
          · exact h2 y (List.mem_cons_of_mem _ q)
theorem min_mem (x : Int) : ∀ xs : List Int, PySem.W.minOf x xs ∈ x :: xs ∧ ∀ y ∈ x :: xs, PySem.W.minOf x xs ≤ y := fun xs => by
  unfold PySem.W.minOf
  induction xs generalizing x with
  | nil =>
    refine ⟨List.mem_cons_self, fun y hy => ?_⟩
    rcases List.mem_cons.mp hy with q | q
    · rw [q]
      exact Int.le_refl _
    · cases q
  | cons z zs ih =>
    rw [List.foldl_cons]
    by_cases c : z < x
    · rw [show (if PySem.W.DatumOrd.lt z x = true then z else x) = z from if_pos (decide_eq_true c)]
      obtain ⟨h1, h2⟩ := ih z
      refine ⟨List.mem_cons_of_mem _ h1, fun y hy => ?_⟩
      rcases List.mem_cons.mp hy with q | q
      · have := h2 z List.mem_cons_self
        omega
      · exact h2 y q
    · rw [show (if PySem.W.DatumOrd.lt z x = true then z else x) = x from if_neg (fun q => c (of_decide_eq_true q))]
      obtain ⟨h1, h2⟩ := ih x
      refine ⟨?_, fun y hy => ?_⟩
      · rcases List.mem_cons.mp h1 with q | q
        · rw [q]
          exact List.mem_cons_self
        · exact List.mem_cons_of_mem _ (List.mem_cons_of_mem _ q)
      · have hx := h2 x List.mem_cons_self
        rcases List.mem_cons.mp hy with q | q
        · rw [q]
          exact hx
        · rcases List.mem_cons.mp q with q | q
          · rw [q]
            omega
          · exact h2 y (List.mem_cons_of_mem _ q)
def rMaxD (K : PySem.W.Frag) : List V → List V → Hp → VK → Prop := fun vs zs H Q => ∃ (a : Addr) (ns : List Int) (d : Int), vs = [V.ref a] ∧ zs = [V.int d] ∧ SqL K H a (ns.map V.int) ∧
  ∀ m, (ns = [] → m = d) → (ns ≠ [] → m ∈ ns ∧ ∀ y ∈ ns, y ≤ m) → Q (.int m) H
def rMinD (K : PySem.W.Frag) : List V → List V → Hp → VK → Prop := fun vs zs H Q => ∃ (a : Addr) (ns : List Int) (d : Int), vs = [V.ref a] ∧ zs = [V.int d] ∧ SqL K H a (ns.map V.int) ∧
  ∀ m, (ns = [] → m = d) → (ns ≠ [] → m ∈ ns ∧ ∀ y ∈ ns, m ≤ y) → Q (.int m) H
theorem cr_maxD (hc : X.calm = true) (hu : X.A.units + 1 < cLine) : CallRK X (.builtin "max") [Str.ofString "default"] (rMaxD X.K) := by
  intro pins s σ H vs zs us ws Q I r rz h
  obtain ⟨a, ns, d, rfl, rfl, hs, q⟩ := h
  obtain rfl := Vals.ref1 r
  obtain ⟨w1, rfl, t1, rfl⟩ := vals1 rz
  obtain ⟨its, rv, hl, _⟩ := I.list hs
  refine PySem.W.max_list_datum_default (α := Int) (xs := ns) (I.ok.hd hc) hl.isList (holdInts rv.ints) hu (fun hn h' tk hk => ?_) fun y ys i v h' tk hn hi hv hk => ?_
  · subst hn
    exact ⟨.int d, H, I.kept hk, ⟨_, rfl⟩, q d (fun _ => rfl) fun z => absurd rfl z⟩
  · subst hn
    obtain ⟨t, rfl⟩ := holdsInt hv
    exact ⟨.int _, H, I.kept hk, ⟨_, rfl⟩, q _ (fun z => by cases z) fun _ => max_mem y ys⟩
theorem cr_minD (hc : X.calm = true) (hu : X.A.units + 1 < cLine) : CallRK X (.builtin "min") [Str.ofString "default"] (rMinD X.K) := by
  intro pins s σ H vs zs us ws Q I r rz h
  obtain ⟨a, ns, d, rfl, rfl, hs, q⟩ := h
  obtain rfl := Vals.ref1 r
  obtain ⟨w1, rfl, t1, rfl⟩ := vals1 rz
  obtain ⟨its, rv, hl, _⟩ := I.list hs
  refine PySem.W.min_list_datum_default (α := Int) (xs := ns) (I.ok.hd hc) hl.isList (holdInts rv.ints) hu (fun hn h' tk hk => ?_) fun y ys i v h' tk hn hi hv hk => ?_
  · subst hn
    exact ⟨.int d, H, I.kept hk, ⟨_, rfl⟩, q d (fun _ => rfl) fun z => absurd rfl z⟩
  · subst hn
    obtain ⟨t, rfl⟩ := holdsInt hv
    exact ⟨.int _, H, I.kept hk, ⟨_, rfl⟩, q _ (fun z => by cases z) fun _ => min_mem y ys⟩
end
end WR
end
section
set_option Elab.async false
set_option linter.all false
set_option maxRecDepth 100000
set_option maxHeartbeats 4000000
/-! sorted(e, key=lambda ..): the key is a pair of ints of each item, told by the lambda's body. -/
namespace WS
open PySem PySem.Spec PyProof.Rows L2 LamX NdefX
/-- one pair is not behind another -/
def Le2 (a b : Int × Int) : Prop := a.1 < b.1 ∨ (a.1 = b.1 ∧ a.2 ≤ b.2)
abbrev k2V (k : Int × Int) : List V := [.int k.1, .int k.2]
/-- the items by rising keys -/
def ByKeyT (ks : List (Int × Int)) (xs ys : List V) : Prop := ∃ ps : List ((Int × Int) × V), ps.Perm (ks.zip xs) ∧ ys = ps.map (·.2) ∧ (ps.map (·.1)).Pairwise Le2
theorem paired_zipT : ∀ {ks : List (Int × Int)} {xs : List V} {us : List Value}, Vals xs us → Paired (fun (p : (Int × Int) × V) (q : (Int × Int) × Value) => p.1 = q.1 ∧ RelV p.2 q.2) (ks.zip xs) (ks.zip us)
  | [], _, _, _ => by
    rw [List.zip_nil_left, List.zip_nil_left]
    exact .nil
  | k :: ks, [], _, r => by
    cases r
    exact .nil
  | k :: ks, x :: xs, _, r => by
    cases r with
    | cons h1 h2 => exact .cons ⟨rfl, h1⟩ (paired_zipT h2)
theorem paired_sndT : ∀ {ps : List ((Int × Int) × V)} {qs : List ((Int × Int) × Value)}, Paired (fun (p : (Int × Int) × V) (q : (Int × Int) × Value) => p.1 = q.1 ∧ RelV p.2 q.2) ps qs → Vals (ps.map (·.2)) (qs.map (·.2)) ∧ ps.map (·.1) = qs.map (·.1)
  | _, _, .nil => ⟨.nil, rfl⟩
  | _, _, .cons h1 h2 => by
    obtain ⟨a, b⟩ := paired_sndT h2
    exact ⟨.cons h1.2 a, by rw [List.map_cons, List.map_cons, h1.1, b]⟩
/-! ### the keys as the heap has them -/
abbrev noText : Nat → Bool := fun _ => false
/-- the pair that stands at a value -/
def kf (h : Heap) (v : Value) : Int × Int := match G.tupKeyC h noText v with
  | some [.inl a, .inl b] => (a, b)
  | _ => (0, 0)
/-- the values are pairs ks of the heap -/
def Pairs2 (h : Heap) (vs : List Value) (ks : List (Int × Int)) : Prop := Paired (fun v k => ∃ a o t u n, v = Value.ref a ∧ h.get? a = some o ∧ o.cls = .type "tuple" ∧ o.data = .seq #[.int k.1 t, .int k.2 u] n) vs ks
theorem key_at {h : Heap} {a : Addr} {o : Obj} {i j : Int} {t u : Tok} {n : Nat} (ho : h.get? a = some o) (hc : o.cls = .type "tuple") (hd : o.data = .seq #[.int i t, .int j u] n) : G.tupKeyC h noText (.ref a) = some [Sum.inl i, Sum.inl j] := by
  unfold G.tupKeyC
  rw [if_pos (by unfold G.isTupObj; dsimp only; rw [ho]; dsimp only; rw [hc]; decide)]
  unfold tupKey
  dsimp only
  rw [ho]
  dsimp only
  rw [hd]
  rfl
theorem kf_at {h : Heap} {a : Addr} {o : Obj} {i j : Int} {t u : Tok} {n : Nat} (ho : h.get? a = some o) (hc : o.cls = .type "tuple") (hd : o.data = .seq #[.int i t, .int j u] n) : kf h (.ref a) = (i, j) := by
  unfold kf
  rw [key_at ho hc hd]
theorem Pairs2.kfs {h : Heap} {vs : List Value} {ks : List (Int × Int)} (p : Pairs2 h vs ks) : vs.map (kf h) = ks := by
  unfold Pairs2 at p
  induction p with
  | nil => rfl
  | cons h1 _ ih =>
    obtain ⟨a, o, t, u, n, rfl, e1, e2, e3⟩ := h1
    rw [List.map_cons, ih, kf_at e1 e2 e3]
theorem Pairs2.some {h : Heap} {vs : List Value} {ks : List (Int × Int)} (p : Pairs2 h vs ks) : ∀ v ∈ vs, G.tupKeyC h noText v = some [Sum.inl (kf h v).1, Sum.inl (kf h v).2] := by
  unfold Pairs2 at p
  induction p with
  | nil =>
    intro v hv
    cases hv
  | cons h1 _ ih =>
    intro v hv
    rcases List.mem_cons.mp hv with q | q
    · obtain ⟨a, o, t, u, n, rfl, e1, e2, e3⟩ := h1
      rw [q, key_at e1 e2 e3, kf_at e1 e2 e3]
    · exact ih v q
theorem Pairs2.tups {h : Heap} {vs : List Value} {ks : List (Int × Int)} (p : Pairs2 h vs ks) : ∃ fs, TupsOf h noText vs fs ∧ fs.length = vs.length := by
  unfold Pairs2 at p
  induction p with
  | nil => exact ⟨[], .nil, rfl⟩
  | cons h1 _ ih =>
    obtain ⟨a, o, t, u, n, rfl, e1, e2, e3⟩ := h1
    obtain ⟨fs, q, l⟩ := ih
    exact ⟨_ :: fs, .cons ⟨a, o, _, n, rfl, e1, e2, e3, rfl, fun _ => ⟨_, _, rfl⟩, fun z => by cases z⟩ q, by rw [List.length_cons, List.length_cons, l]⟩
theorem lex_le {a b c d : Int} (h : lexLt itemOrd [Sum.inl c, Sum.inl d] [Sum.inl a, Sum.inl b] = false) : Le2 (a, b) (c, d) := by
  rw [lex_false] at h
  obtain ⟨h1, h2⟩ := h
  have h1 : decide (c < a) = false := h1
  rw [decide_eq_false_iff_not] at h1
  rcases h2 with h2 | h2
  · have h2 : decide (a < c) = true := h2
    exact .inl (of_decide_eq_true h2)
  · rw [lex_false] at h2
    have h3 : decide (d < b) = false := h2.1
    rw [decide_eq_false_iff_not] at h3
    by_cases q : a < c
    · exact .inl q
    · exact .inr ⟨by show a = c; omega, by show b ≤ d; omega⟩
theorem byKeyT_of {h : Heap} {keys : Array Value} {ks : List (Int × Int)} {xs : List V} {us : List Value} {arr : Array Keyed} (r : Vals xs us) (pk : Pairs2 h keys.toList ks) (hp : arr.Perm (keys.zip us.toArray)) (hs : SortedToK (G.tupKindC h noText) arr arr.size) :
    ∃ ys, Vals ys (arr.map (·.2)).toList ∧ ByKeyT ks xs ys := by
  have hl : arr.toList.Perm (keys.toList.zip us) := by rw [← ksk_zip]; exact Array.perm_iff_toList_perm.mp hp
  have h1 : (arr.toList.map fun p : Keyed => (kf h p.1, p.2)).Perm (ks.zip us) := by
    have e2 : (keys.toList.zip us).map (fun p : Keyed => (kf h p.1, p.2)) = ks.zip us := by
      rw [← pk.kfs, List.zip_map_left]
      exact List.map_congr_left fun ⟨x, y⟩ _ => rfl
    rw [← e2]
    exact hl.map _
  have kat : ∀ i (hi : i < arr.size), KK (G.tupKindC h noText) arr i = [Sum.inl (kf h arr[i].1).1, Sum.inl (kf h arr[i].1).2] := fun i hi => by
    unfold KK
    rw [Array.getElem?_eq_getElem hi]
    show (G.tupKeyC h noText arr[i].1).getD [] = _
    have hm : arr[i] ∈ keys.toList.zip us := hl.mem_iff.mp (Array.getElem_mem_toList hi)
    rw [pk.some _ (List.of_mem_zip (show (arr[i].1, arr[i].2) ∈ _ from hm)).1]
    rfl
  have h3 : (arr.toList.map fun p : Keyed => (kf h p.1, p.2)).Pairwise (fun p q => Le2 p.1 q.1) := by
    rw [List.pairwise_iff_getElem]
    intro i j hi hj hij
    have hi' : i < arr.size := by simpa using hi
    have hj' : j < arr.size := by simpa using hj
    have q : lexLt itemOrd (KK (G.tupKindC h noText) arr j) (KK (G.tupKindC h noText) arr i) = false := hs i j (Nat.le_of_lt hij) hj'
    rw [kat i hi', kat j hj'] at q
    simpa using lex_le q
  obtain ⟨qs, q1, q2⟩ := lift_perm h1 (paired_zipT (ks := ks) r)
  obtain ⟨q3, q4⟩ := paired_sndT q2
  refine ⟨qs.map (·.2), ?_, qs, q1, rfl, ?_⟩
  · have e : (arr.map (·.2)).toList = (arr.toList.map fun p : Keyed => (kf h p.1, p.2)).map (·.2) := by
      rw [Array.toList_map, List.map_map]
      rfl
    rw [e]
    exact q3
  · rw [q4, List.pairwise_map]
    exact h3
/-! ### list.sort(key=f), pairs as keys -/
section
variable {X : Cx} {pins : List (Addr × Obj)} {σ : L2.St} {H : Hp} {s : Shared} {A : Around} {E : Value → Shared → Prop}
/-- f called with an item makes its key, a pair, and nothing else that is tracked changes -/
def KeyRunT (X : Cx) (A : Around) (pins : List (Addr × Obj)) (σ : L2.St) (H : Hp) (f : Addr) (of : Obj) (x : V) (k : Int × Int) : Prop :=
  ∀ (s : Shared) (H' : Hp) (u : Value), Inv X pins σ H' s → (∀ b o, H b = some o → H' b = some o) → s.heap.get? f = some of → H' f = none → RelV x u →
    codeAny (model X.prog X.w) A (.call (.ref f) ⟨[u], []⟩) (CR NoX X.stack X.prog X.w H' s (fun v H'' => ∃ q, v = .ref q ∧ H' q = none ∧ H'' = upd H' q (.tup (k2V k))) fun _ _ _ => False) s
theorem call_keyT {f : Addr} {of : Obj} {x : V} {k : Int × Int} {H' : Hp} {u : Value} {R : Value → Shared → Prop} (kr : KeyRunT X A pins σ H f of x k) (I : Inv X pins σ H' s) (hs : ∀ b o, H b = some o → H' b = some o) (hf : s.heap.get? f = some of) (hn : H' f = none) (hof : of.cls ≠ .type "tuple")
    (hfr : f ∉ frs X.stack) (r : RelV x u) (h : ∀ q s', H' q = none → q ≠ f → Inv X pins σ (upd H' q (.tup (k2V k))) s' → s'.heap.get? f = some of → R (.ref q) s') : wpAny (model X.prog X.w) A (call (.ref f) [u]) R E s := by
  refine wpAny_call (codeAny_mono (kr s H' u I hs hf hn r) fun r' s' hq => ?_)
  cases r' with
  | error e => exact False.elim hq
  | ok fl =>
    cases fl with
    | next => exact False.elim hq
    | brk => exact False.elim hq
    | cont => exact False.elim hq
    | ret v =>
      have hq' : CE X.stack X.prog X.w H' s (fun v H'' => ∃ q, v = .ref q ∧ H' q = none ∧ H'' = upd H' q (.tup (k2V k))) v s' := hq
      have un : s'.heap.get? f = some of := by
        obtain ⟨_, _, _, _, un, _⟩ := hq'
        exact un.keep f of hf hn hfr (by simp)
      obtain ⟨z, H2, I2, rz, q, rfl, hq1, rfl⟩ := I.after hq'
      cases rz
      refine h q s' hq1 (fun z => ?_) I2 un
      obtain ⟨_, _, _, o, ho, hc, _⟩ := I2.hok q _ upd_same
      rw [z, un] at ho
      cases ho
      exact hof hc
theorem pairs2_of {h : Heap} {P : Program} {w : World} {H : Hp} (hok : HOk P w H h) : ∀ {qs : List Addr} {ks : List (Int × Int)}, Paired (fun q k => H q = some (.tup (k2V k))) qs ks → Pairs2 h (qs.map Value.ref) ks
  | _, _, .nil => .nil
  | q :: _, k :: _, .cons h1 h2 => by
    refine .cons ?_ (pairs2_of hok h2)
    obtain ⟨_, its, rv, o, ho, hc, n, hd⟩ := hok q _ h1
    obtain ⟨t, u, e⟩ := Vals.int2 rv
    subst e
    exact ⟨q, o, t, u, n, rfl, ho, hc, hd⟩
/-- the items lie sorted in st, whatever that says of them -/
theorem tail_gen {a kS : Addr} (Φ : List V → Prop) {keys : Array Value} {e e1 : Nat} {st : SortSt} {R : PySem.Fin → Shared → Prop} (I : Inv X pins σ H s) (hS : H kS = some (LE kS keys e)) (hA : H a = some (LE a #[] e1)) (hne : kS ≠ a)
    (hk64 : keys.size < 64) (hout : ∃ ys, Vals ys ((arrOf st).map (·.2)).toList ∧ Φ ys) (hs64 : (arrOf st).size < 64) (hfl : failedOf st = none)
    (h : ∀ H' s' ys, Inv X pins σ H' s' → (∀ b o, b ≠ a → b ≠ kS → H b = some o → H' b = some o) → H' a = some (.lst ys) → Φ ys → R (.done (.ret .none)) s') :
    wpAny (model X.prog X.w) A (ksk_tail a false e1 (.ref kS) st) R E s := by
  have g1 := LE.get I.hok hS
  obtain ⟨n1, I1⟩ := le_set I hS fun _ => #[]
  have hA1 : upd H kS (LE kS #[] n1) a = some (LE a #[] e1) := (upd_ne (Ne.symm hne)).trans hA
  have g2 := LE.get I1.hok hA1
  obtain ⟨n2, I2⟩ := le_set I1 hA1 fun _ => (arrOf st).map (·.2)
  obtain ⟨ys, r1, r2⟩ := hout
  have hyl : ys.length ≤ sizeLine := by
    rw [r1.length, Array.length_toList, Array.size_map, sizeLine_eq]
    omega
  have I3 := le_list I2 (upd_same) r1 hyl
  unfold ksk_tail
  dsimp only
  refine wpAny_bind (listUpdate_at g1 rfl ?_ (by rw [sizeLine_eq]; omega) (Nat.zero_le _))
  refine wpAny_bind (wpAny_letGo ?_)
  refine wpAny_bind (seqEpoch_at g2 rfl ?_)
  refine wpAny_bind (listUpdate_at g2 rfl ?_ (Nat.zero_le _) (by simp only [Bool.false_eq_true, if_false, Array.size_map]; rw [sizeLine_eq]; omega))
  rw [hfl]
  simp only [bne_self_eq_false, Bool.false_eq_true, if_false]
  refine wpAny_pure (h _ _ ys I3 (fun b o n1 n2 q => ?_) upd_same r2)
  rw [upd_ne n1, upd_ne n1, upd_ne n2]
  exact q
theorem end_keyT {a kS : Addr} {its : List Value} {xs : List V} {ks : List (Int × Int)} {qs : List Addr} {e e1 : Nat} {R : PySem.Fin → Shared → Prop} (I : Inv X pins σ H s) (hS : H kS = some (LE kS (qs.map Value.ref).toArray e)) (hA : H a = some (LE a #[] e1)) (hne : kS ≠ a)
    (rv : Vals xs its) (hk : Paired (fun q k => H q = some (.tup (k2V k))) qs ks) (hlen : ks.length = its.length) (h64 : its.length < 64)
    (h : ∀ H' s' ys, Inv X pins σ H' s' → (∀ b o, b ≠ a → b ≠ kS → H b = some o → H' b = some o) → H' a = some (.lst ys) → ByKeyT ks xs ys → R (.done (.ret .none)) s') :
    wpAny (model X.prog X.w) A (ksk_end a false its.toArray e1 (.ref kS) (qs.map Value.ref).toArray) R E s := by
  have hkl : qs.length = ks.length := hk.length
  have pk : Pairs2 s.heap ((qs.map Value.ref).toArray).toList ks := pairs2_of I.hok hk
  have hks : (qs.map Value.ref).toArray.size = its.length := by
    rw [List.size_toArray, List.length_map]
    omega
  have hzs : ((qs.map Value.ref).toArray.zip its.toArray).size = its.length := by
    have q : its.toArray.size = its.length := List.size_toArray ..
    rw [Array.size_zip, q, hks, Nat.min_self]
  unfold ksk_end
  simp only [Bool.false_eq_true, if_false]
  by_cases h2 : its.toArray.size < 2
  · rw [if_pos h2, if_pos h2]
    refine wpAny_bind (wpAny_pure ?_)
    rw [StateT.run_pure]
    refine wpAny_bind (wpAny_pure ?_)
    dsimp only
    refine tail_gen (ByKeyT ks xs) (st := SortSt.mk' general' ((qs.map Value.ref).toArray.zip its.toArray) #[] 7 none) I hS hA hne (by omega) (byKeyT_of rv pk (Array.Perm.refl _) (fun i j hij hj => ?_)) (Nat.lt_of_le_of_lt (Nat.le_of_eq hzs) h64) rfl h
    rw [List.size_toArray] at h2
    have hj2 : j < its.length := by
      rw [← hzs]
      exact hj
    obtain rfl : i = j := by omega
    exact KeyOrd.kle_refl _
  · rw [if_neg h2, if_neg h2]
    rw [List.size_toArray] at h2
    obtain ⟨fs, tf, tl⟩ := pk.tups
    refine wpAny_bind (wpAny_mono (tup_kind (shape := noText) (vs := qs.map Value.ref) (Q := fun kd s' => kd = tuples' true ∧ s' = s) (by rw [tl]; show 0 < (qs.map Value.ref).length; rw [List.length_map]; omega) tf ⟨rfl, rfl⟩) ?_ fun _ _ e => e)
    rintro kd0 s0 ⟨hkd, hs0⟩
    subst hkd
    subst hs0
    refine wpAny_bind (wpAny_mono (G.wpS_sortRunsSt (κ := G.tupKindC s0.heap noText) (kd := tuples' true) (a₀ := (qs.map Value.ref).toArray.zip its.toArray) (st := SortSt.mk' (tuples' true) ((qs.map Value.ref).toArray.zip its.toArray) #[] 7 none)
      (Q := fun _ z => (arrOf z).Perm ((qs.map Value.ref).toArray.zip its.toArray) ∧ failedOf z = none ∧ SortedToK (G.tupKindC s0.heap noText) (arrOf z) ((qs.map Value.ref).toArray.zip its.toArray).size)
      (G.tupC_ltAt true (G.KeepsTups.refl _)) ?_ ⟨Array.Perm.refl _, rfl, rfl⟩ rfl (Stable.refl _) (by omega) fun z a1 a2 a3 _ => ⟨a1, a2, a3⟩) ?_ fun _ _ e => e)
    · intro p hp
      rw [ksk_zip] at hp
      exact ⟨_, pk.some _ (List.of_mem_zip (show (p.1, p.2) ∈ _ from hp)).1⟩
    · rintro ⟨⟨⟩, z⟩ s' ⟨rfl, p1, p2, p3⟩
      dsimp only
      refine tail_gen (ByKeyT ks xs) I hS hA hne (by omega) (byKeyT_of rv pk p1 (by rw [p1.size_eq]; exact p3)) (by rw [p1.size_eq]; omega) p2 h
theorem paired_snoc {α β : Type} {R : α → β → Prop} {a : α} {b : β} (h : R a b) : ∀ {l : List α} {m : List β}, Paired R l m → Paired R (l ++ [a]) (m ++ [b])
  | _, _, .nil => .cons h .nil
  | _, _, .cons h1 h2 => .cons h1 (paired_snoc h h2)
theorem paired_imp {α β : Type} {R S : α → β → Prop} (f : ∀ a b, R a b → S a b) : ∀ {l : List α} {m : List β}, Paired R l m → Paired S l m
  | _, _, .nil => .nil
  | _, _, .cons h1 h2 => .cons (f _ _ h1) (paired_imp f h2)
theorem rest_keyT {a kS f : Addr} {of : Obj} {its : List Value} {xs : List V} {ks : List (Int × Int)} {e1 : Nat} {R : PySem.Fin → Shared → Prop} {H0 : Hp} (I : Inv X pins σ H s) (hS : H kS = some (LE kS #[] 0)) (hA : H a = some (LE a #[] e1)) (hne : kS ≠ a)
    (sub : ∀ b o, H0 b = some o → H b = some o) (n1 : H0 kS = none) (hf : s.heap.get? f = some of) (hof : of.cls ≠ .type "tuple") (hfn : H f = none) (hfr : f ∉ frs X.stack) (rv : Vals xs its) (hlen : ks.length = its.length) (h64 : its.length < 64)
    (run : ∀ (i : Nat) (x : V) (k : Int × Int), xs[i]? = some x → ks[i]? = some k → KeyRunT X A pins σ H0 f of x k)
    (h : ∀ H' s' ys, Inv X pins σ H' s' → (∀ b o, b ≠ a → b ≠ kS → H b = some o → H' b = some o) → H' a = some (.lst ys) → ByKeyT ks xs ys → R (.done (.ret .none)) s') :
    wpAny (model X.prog X.w) A (ksk_rest a (.ref f) false its.toArray e1 (.ref kS)) R E s := by
  unfold ksk_rest
  refine wpAny_bind (wpAny_rule ?_)
  rw [List.forIn_toArray]
  refine wpAny_bind (ksk_fold (fun i s' => ∃ (Hj : Hp) (qs : List Addr) (n : Nat), Inv X pins σ Hj s' ∧ (∀ b o, b ≠ kS → H b = some o → Hj b = some o) ∧ Hj kS = some (LE kS (qs.map Value.ref).toArray n) ∧ Hj f = none ∧ s'.heap.get? f = some of ∧ Paired (fun q k => Hj q = some (.tup (k2V k))) qs (ks.take i)) its 0 s
    ⟨H, [], 0, I, fun _ _ _ q => q, hS, hfn, hf, .nil⟩ (fun j u s' hu hI => ?_) fun s' hI => ?_)
  · obtain ⟨Hj, qs, n, J, sj, hSj, hfj, jf, hk⟩ := hI
    rw [Nat.zero_add] at hk ⊢
    have hj : j < its.length := (List.getElem?_eq_some_iff.mp hu).1
    obtain ⟨k, hkj⟩ : ∃ k, ks[j]? = some k := ⟨_, List.getElem?_eq_getElem (by omega)⟩
    obtain ⟨x, hx⟩ : ∃ x, xs[j]? = some x := ⟨_, List.getElem?_eq_getElem (by have := rv.length; omega)⟩
    obtain ⟨u', hu', rx⟩ := rv.get hx
    obtain rfl : u' = u := Option.some.inj (hu'.symm.trans hu)
    have hz : (qs.map Value.ref).toArray.size ≤ its.length := by
      have q := hk.length
      rw [List.length_take] at q
      rw [List.size_toArray, List.length_map]
      omega
    refine wpAny_bind (wpAny_attempt (call_keyT (run j x k hx hkj) J (fun b o q => sj b o (ne_of_none q n1) (sub b o q)) jf hfj hof hfr rx fun q s2 hq nqf J2 jf2 => ?_))
    have nqk : q ≠ kS := fun z => by rw [z, hSj] at hq; cases hq
    have hS2 : upd Hj q (.tup (k2V k)) kS = some (LE kS (qs.map Value.ref).toArray n) := (upd_ne (Ne.symm nqk)).trans hSj
    dsimp only
    obtain ⟨n', J3⟩ := le_set J2 hS2 (·.push (.ref q))
    have g3 := LE.get J2.hok hS2
    have nfS : f ≠ kS := fun z => by rw [z, hSj] at hfj; cases hfj
    refine wpAny_bind (listUpdate_at g3 rfl ?_ (by rw [sizeLine_eq]; omega) (Nat.le_trans (Nat.le_of_eq (Array.size_push ..)) (by rw [sizeLine_eq]; omega)))
    refine wpAny_pure ⟨rfl, _, qs ++ [q], n', J3, fun b o hb e => ?_, ?_, ?_, ?_, ?_⟩
    · rw [upd_ne hb]
      have e1 := sj b o hb e
      rw [upd_ne (ne_of_none e1 hq)]
      exact e1
    · rw [upd_same, List.map_append, List.push_toArray]
      rfl
    · rw [upd_ne nfS, upd_ne (Ne.symm nqf)]
      exact hfj
    · exact (Heap.get?_update_ne _ _ _ _ nfS).trans jf2
    · have e2 : ks.take (j + 1) = ks.take j ++ [k] := by rw [List.take_add_one, hkj]; simp
      rw [e2]
      refine paired_snoc ?_ (paired_imp (fun q' k' e => ?_) hk)
      · exact (upd_ne nqk).trans upd_same
      · rw [upd_ne (ne_of e hSj (by intro z; cases z)), upd_ne (ne_of_none e hq)]
        exact e
  · obtain ⟨Hj, qs, n, J, sj, hSj, hfj, jf, hk⟩ := hI
    rw [Nat.zero_add, List.take_of_length_le (by omega)] at hk
    have g3 := LE.get J.hok hSj
    refine wpAny_bind (listItems_at g3 rfl ?_)
    refine end_keyT J hSj (sj _ _ (Ne.symm hne) hA) hne rv hk hlen h64 fun H' s2 ys J2 q1 q2 q3 => h H' s2 ys J2 (fun b o b1 b2 q => q1 b o b1 b2 (sj b o b2 q)) q2 q3
/-- list.sort(key=f) of the list a -/
theorem sort_keyT {a f : Addr} {of : Obj} {its : List Value} {xs : List V} {ks : List (Int × Int)} {n : Nat} {R : PySem.Fin → Shared → Prop} (I : Inv X pins σ H s) (hA : H a = some (LE a its.toArray n)) (hf : s.heap.get? f = some of) (hof : of.cls ≠ .type "tuple") (hfn : H f = none) (hfr : f ∉ frs X.stack)
    (rv : Vals xs its) (hlen : ks.length = its.length) (h64 : its.length < 64) {H0 : Hp} (sub : ∀ b o, H0 b = some o → H b = some o) (n0 : H0 a = none)
    (run : ∀ (i : Nat) (x : V) (k : Int × Int), xs[i]? = some x → ks[i]? = some k → KeyRunT X A pins σ H0 f of x k)
    (h : ∀ H' s' ys, Inv X pins σ H' s' → (∀ b o, b ≠ a → H b = some o → H' b = some o) → H' a = some (.lst ys) → ByKeyT ks xs ys → R (.done (.ret .none)) s') :
    wpAny (model X.prog X.w) A (ksk_tree a (.ref f) false) R E s := by
  have g0 := LE.get I.hok hA
  have hfa : f ≠ a := fun z => by rw [z, hA] at hfn; cases hfn
  obtain ⟨e1, I1⟩ := le_set I hA fun _ => #[]
  have hA1 : upd H a (LE a #[] e1) a = some (LE a #[] e1) := upd_same
  have g1 := LE.get I1.hok hA1
  unfold ksk_tree
  refine wpAny_bind (listItems_at g0 rfl ?_)
  refine wpAny_bind (listUpdate_at g0 rfl ?_ (by rw [List.size_toArray, sizeLine_eq]; omega) (Nat.zero_le _))
  refine wpAny_bind (seqEpoch_at g1 rfl ?_)
  refine wpAny_bind (wpAny_newTuple ?_ (by show its.length ≤ _; rw [sizeLine_eq]; omega))
  have I2 := I1.kept (t' := s.toks) (h' := (s.heap.update a (Obj.mapSeq fun _ => #[])).push { cls := .type "tuple", data := .seq its.toArray }) fun b u q => Heap.get?_push_of_some _ q
  refine wpAny_bind (wpAny_newList ?_ (Nat.zero_le _))
  have I3 := le_new I2 []
  refine wpAny_holding ?_
  have fr : upd H a (LE a #[] e1) ((s.heap.update a (Obj.mapSeq fun _ => #[])).push { cls := .type "tuple", data := .seq its.toArray }).objs.size = none := I2.hok.fresh (Nat.le_refl _)
  generalize hkS : ((s.heap.update a (Obj.mapSeq fun _ => #[])).push { cls := .type "tuple", data := .seq its.toArray }).objs.size = kS at I3 fr
  have nka : kS ≠ a := fun z => by rw [z, upd_same] at fr; cases fr
  have nkf : kS ≠ f := fun z => by
    have q1 : (s.heap.update a (Obj.mapSeq fun _ => (#[] : Array Value))).get? f = some of := (Heap.get?_update_ne _ _ _ _ hfa).trans hf
    have q2 := Heap.lt_size (Heap.get?_push_of_some ({ cls := .type "tuple", data := .seq its.toArray } : Obj) q1)
    rw [hkS, z] at q2
    exact absurd q2 (Nat.lt_irrefl _)
  have fk : H kS = none := (upd_ne nka).symm.trans fr
  refine rest_keyT (H0 := H0) I3 upd_same ((upd_ne (Ne.symm nka)).trans hA1) nka (fun b o q => ?_) ?_ ?_ hof ((upd_ne (Ne.symm nkf)).trans ((upd_ne hfa).trans hfn)) hfr rv hlen h64 run fun H' s' ys J q1 q2 q3 => h H' s' ys J (fun b o hb q => ?_) q2 q3
  · rw [upd_ne (ne_of_none (sub b o q) fk), upd_ne (ne_of_none q n0)]
    exact sub b o q
  · cases q : H0 kS with
    | none => rfl
    | some o =>
      rw [sub kS o q] at fk
      cases fk
  · exact Heap.get?_push_of_some _ (Heap.get?_push_of_some _ ((Heap.get?_update_ne _ _ _ _ hfa).trans hf))
  · refine q1 b o hb (ne_of_none q fk) ?_
    rw [upd_ne (ne_of_none q fk), upd_ne hb]
    exact q
end
/-! ### sorted(e, key=lambda x: (.., ..)) -/
/-- what is asked of the keys: the lambda's body makes them, whatever is made meanwhile -/
def KeysToldT (N : List Str) (tb : TE) (wv : List (Option V)) (H : Hp) (xs : List V) (ks : List (Int × Int)) : Prop :=
  ∀ (i : Nat) (x : V) (k : Int × Int), xs[i]? = some x → ks[i]? = some k → ∀ H' : Hp, ExtN H H' → tb (startF N [x] wv) H' fun v H'' => ∃ q, v = .ref q ∧ H' q = none ∧ H'' = upd H' q (.tup (k2V k))
/-- the reading: the thing at a has the items xs (told by src), their keys are ks -/
def tSortLamT (src : Hp → Addr → List V → Prop) (T : List (Addr × Str)) (N : List Str) (js : List Nat) (tb : TE) (te : TA) : TE := fun σ H Q => te σ H fun vs H1 => ∃ (a : Addr) (xs : List V) (ks : List (Int × Int)), vs = [.ref a] ∧ src H1 a xs ∧ xs.length < 64 ∧ ks.length = xs.length ∧
  Tabs T H1 ∧ KeysToldT N tb (js.map (slotAt σ)) H1 xs ks ∧ ∀ (H2 : Hp) (p : Addr) (ys : List V), ExtN H1 H2 → Tabs T H2 → H2 p = some (.lst ys) → ByKeyT ks xs ys → Q (.ref p) H2
section
variable {X : Cx} {x : Str} {p pos lpos kpos : Pos} {e : Expr} {te : TA} {params : Arguments} {body : Expr} {scope : Scope} {T : List (Addr × Str)} {c P : Addr} {N fr : List Str} {js : List Nat} {tb : TE} {k : Nat} {src : Hp → Addr → List V → Prop}
theorem pe_sortLamT (G : Gathers X src) (ha : PA X [e] te) (hg : Gl X "sorted") (hmg : X.mg "sorted" = none) (TB : TabB X.base X.mg c P) (hcode : X.env.code = .ref c) (hm : (P, X.env.qual ++ "<lambda>") ∈ T) (hu : ∀ p ∈ T, p.1 = P → p.2 = X.env.qual ++ "<lambda>")
    (hdef : defaultsOf params X.env = ([], [])) (S : NScope N [x] fr scope) (hfree : ∀ y ∈ scope.names, y.2 = .free → X.env.scope.names.lookup y.1 = some .cell ∨ X.env.scope.names.lookup y.1 = some .free) (hfr : ∀ y ∈ fr, (y, NameKind.free) ∈ scope.names)
    (hjs : js.map (fun j => X.N[j]?) = fr.map some) (hb : ∀ (q : Str) (cl : List (Str × Addr)) (pm cv ctv u : Value), bindArgs (PySem.W.kla_fn "<lambda>" q params body scope cl pm cv ctv) ⟨[u], []⟩ = pure [(x, u)]) (hr : Room (k + 3) X.A)
    (hbody : ∀ (A : Around) (outer : List Env) (s : Shared) (H : Hp) (E : XK) (f c' : Addr) (cl : List (Str × Addr)), Room k (A.deeper (envF (lamF (X.env.qual ++ "<lambda>") params scope cl c') f s.heap.objs.size)) → PE (ncx NoX X.prog X.w X.K X.mg X.base N (lamF (X.env.qual ++ "<lambda>") params scope cl c') f A outer s H E) body tb)
    (he : backTo pos (starEach [e] X.env) = (false, eval e X.env) :: backTo pos (starEach [] X.env) := by rfl) (hpl : (backTo pos (starEach [e] X.env)).any (·.1) = false := by rfl) :
    PE X (.Call (.Name "sorted" p) [e] [⟨some "key", .Lambda params body scope lpos, kpos⟩] pos) (tSortLamT src T N js tb te) := by
  refine ⟨fun pins s σ H Q I h => ?_⟩
  refine wpAny_Call_Name_kw (ld_blt I hg hmg (u := .builtin "sorted") (by decide +kernel) ?_)
  refine callWith_kw (thn (ha.run pos pins s σ H _ I h) fun us s1 ⟨vs, H1, I1, r1, q1⟩ => ?_) he hpl
  obtain ⟨a, xs, ks, rfl, hsrc, h64, hlen, hT, hkeys, hq⟩ := q1
  obtain rfl := Vals.ref1 r1
  have hfr' : ∀ y ∈ scope.names, y.2 = .free → ∃ c, X.env.cells.lookup y.1 = some c := fun y hy e => (hfree y hy e).elim (fun z => I1.ok.has _ (.inl z)) fun z => I1.ok.has _ (.inr z)
  show wpAny _ _ (evalAll [do let v ← eval (.Lambda params body scope lpos) X.env; standAt pos; pure v]) _ _ s1
  refine wpAny_evalAll_cons (wpAny_bind (lam_make2 I1 TB hcode hm hu hT hdef hfr' fun f c' pm ctv H2 s2 I2 e2 T2 hf hfn hfs hc => wpAny_bind (wpAny_standAt (wpAny_pure (wpAny_evalAll_nil ?_)))))
  show wpAny _ _ (call (.builtin "sorted") [.ref a] [(Str.ofString "key", .ref f)]) _ _ s2
  refine call_function_entry_kw kind_sorted plain_sorted entry_sorted (ksk_s1 _ _) ?_
  unfold Builtin.«sorted»
  refine wpAny_bind (m := checkCount "sorted" 1 1 _) (wpAny_pure ?_)
  refine wpAny_bind (G.2 pins σ H2 s2 a xs _ _ I2 (G.1 _ _ _ _ e2 hsrc) h64 fun acc h' tk hk rv => ?_)
  have hal : acc.length = xs.length := rv.length.symm
  have I3 := I2.kept (t' := tk) hk
  refine wpAny_bind (wpAny_newList ?_ (by rw [hal, sizeLine_eq]; omega))
  have I4 := le_new I3 acc
  have gL := LE.get I4.hok upd_same
  have nL : H2 h'.objs.size = none := I3.hok.fresh (Nat.le_refl _)
  have nfL : f ≠ h'.objs.size := Nat.ne_of_lt (Heap.lt_size (hk _ _ hf))
  have cap := fun {s' : Shared} {H' : Hp} (J : Inv X pins σ H' s') => cells_of J (Caps.made (fr := fr) (js := js) (scope := scope) J.ok hfree hfr hjs)
  have run : ∀ (i : Nat) (z : V) (n : Int × Int), xs[i]? = some z → ks[i]? = some n → KeyRunT X X.A.in1.in1 pins σ H2 f (PySem.W.kla_obj "<lambda>" (X.env.qual ++ "<lambda>") params body scope (cloFrom X.env.cells scope.names []) pm c' ctv) z n := by
    intro i z n hz hn s' H' u J sub jf jn ru
    have hr1 : Room (k + 1) X.A.in1.in1 := (Room.in1 (Room.in1 hr))
    exact lam_call (vs := [z]) (us := [u]) S J.env0.in1.in1 hr1 jf (sub _ _ hc) (hb _ _ _ _ _ _) (cap J) (.cons ru .nil) rfl (hbody _ _ _ _ _ _ _ _ (hr1.deeper _)) (hkeys i z n hz hn H' (e2.trans (ExtN.of sub)))
  refine wpAny_bind (wpAny_holding (wpAny_call_entry_kw slot_list_sort ⟨_, gL, rfl⟩ entry_list_sort ?_ (ksk_l1 _ _)))
  rw [ksk_t1]
  refine sort_keyT (H0 := H2) (s := { s2 with heap := h'.push { cls := .type "list", data := .seq acc.toArray }, toks := tk }) I4 upd_same (Heap.get?_push_of_some _ (hk _ _ hf)) (show Value.type "function" ≠ Value.type "tuple" by decide +kernel) ((upd_ne nfL).trans hfn) hfs rv (by omega) (by omega) (fun b o q => (upd_ne (ne_of_none q nL)).trans q) nL run fun H5 s5 ys I5 q1 q2 q3 => ⟨_, rfl, ?_⟩
  refine wpAny_pure ⟨_, rfl, .ref _, H5, I5, rfl, hq H5 _ ys (e2.trans fun b o q _ => ?_) (fun p hp => ?_) q2 q3⟩
  · exact q1 b o (ne_of_none q nL) ((upd_ne (ne_of_none q nL)).trans q)
  · exact (T2 p hp).ext fun b o q => q1 b o (ne_of_none q nL) ((upd_ne (ne_of_none q nL)).trans q)
end
end WS
end
section
set_option Elab.async false
set_option linter.all false
set_option maxRecDepth 100000
set_option maxHeartbeats 4000000
namespace WF
open PySem PySem.Spec PyProof.Rows L2
open WB (Ok)
def top (i : Nat) : Stmt := PySem.Challenge.pw_waysbetween_s01_answers.main.body.getD i (.Pass ⟨0, 0, 0, 0⟩)
abbrev sNode : Stmt := top 7
abbrev sEdge : Stmt := top 8
abbrev sMay : Stmt := top 9
abbrev sCut : Stmt := top 10
abbrev sGInit : Stmt := inClass (top 12) 0
abbrev sNodes : Stmt := inClass (top 12) 1
abbrev sBut : Stmt := inClass (top 12) 2
abbrev sHas : Stmt := inClass (top 12) 3
/-! ### the graph as it stands in memory -/
def edgeKV (es : List Gq05.Edge) : List (List Key × V) := es.map fun e => ([Sum.inl (e.src : Int), Sum.inl (e.dst : Int)], V.int (e.long : Int))
def gf (n : Nat) (d : Addr) : List (Str × V) := putF "edges" (.ref d) (putF "node_total" (.int (n : Int)) [])
theorem gf_total (n : Nat) (d : Addr) : (gf n d).lookup ("node_total" : Str) = some (.int (n : Int)) := by
  unfold gf
  rw [lookup_putF, if_neg (by decide +kernel), lookup_putF, if_pos rfl]
theorem gf_edges (n : Nat) (d : Addr) : (gf n d).lookup ("edges" : Str) = some (.ref d) := by
  unfold gf
  rw [lookup_putF, if_pos rfl]
theorem gf_no (n : Nat) (d : Addr) {m : Str} (h1 : ¬ m = "node_total") (h2 : ¬ m = "edges") : (gf n d).lookup m = none := by
  unfold gf
  rw [lookup_putF, if_neg h2, lookup_putF, if_neg h1]
  rfl
theorem gf_put (n m : Nat) (d : Addr) : putF "node_total" (.int (m : Int)) (gf n d) = gf m d := by
  show (if ("node_total" : Str) = "node_total" then _ else _) = _
  rw [if_pos rfl]
  rfl
/-- the graph g stands at a -/
def GraphAt (C : Addr) (H : Hp) (a : Addr) (g : Gq05.Graph) : Prop := ∃ dx d, H a = some (.ins C dx (gf g.many d)) ∧ H d = some (.dT (edgeKV g.edges))
theorem GraphAt.same {C : Addr} {H H' : Hp} {a : Addr} {g : Gq05.Graph} (h : GraphAt C H a g) (k : Same H H') : GraphAt C H' a g := by
  obtain ⟨dx, d, h1, h2⟩ := h
  exact ⟨dx, d, k _ _ h1, k _ _ h2⟩
theorem same_upd {H : Hp} {p : Addr} {o : HO} (h : H p = none) : Same H (upd H p o) := fun b u e => by
  rw [upd_ne (ne_of_none e h)]
  exact e
theorem yes {c A B : Prop} [Decidable c] (h : c) (a : A) : if c then A else B := by
  rw [if_pos h]
  exact a
theorem no {c A B : Prop} [Decidable c] (h : ¬ c) (b : B) : if c then A else B := by
  rw [if_neg h]
  exact b
theorem ri {n : Int} {t : Tok} : RelV (.int n) (Value.int n t) := ⟨t, rfl⟩
/-- facts of the classes and names -/
structure Txt (K : PySem.W.Frag) (mg : Str → Option Value) (C : Addr) : Prop where
  cl : Cls K C
  nT : NoAttr K C "node_total"
  nE : NoAttr K C "edges"
  mgC : mg "Graph" = some (.ref C)
  list : mg "list" = none
  range : mg "range" = none
  len : mg "len" = none
  full : ∃ t, mg "FULL" = some (.int (-5) t)
  told : ∃ t, mg "NOT_AS_TOLD" = some (.int (-1) t)
  there : ∃ t, mg "NOT_THERE" = some (.int (-3) t)
  already : ∃ t, mg "THERE_ALREADY" = some (.int (-4) t)
  most : ∃ t, mg "MOST_NODES" = some (.int 12 t)
  longest : ∃ t, mg "LONGEST_EDGE" = some (.int 9 t)
section
variable {P : Program} {w : World} {K : PySem.W.Frag} {mg : Str → Option Value} {base : Heap} {C : Addr}
/-! ### Graph -/
def spGInit (C : Addr) : Sp := fun vs H Q _ => ∃ (p dx : Addr), vs = [.ref p] ∧ H p = some (.ins C dx []) ∧ ∀ (H' : Hp), GraphAt C H' p ⟨0, []⟩ → (∀ b o, H b = some o → b ≠ p → H' b = some o) → Q .non H'
theorem scGI : FnScope ["self"] ["self"] (defScope sGInit) := ⟨rfl, rfl, rfl, by decide +kernel, rfl, by decide +kernel, by decide +kernel⟩
theorem ok_ginit {f : Addr} {fd : FuncData} (F : Fun K "__init__" "Graph.__init__" sGInit f fd) (T : Txt K mg C) : FnOk P w K mg base CX0 1 f fd ["self"] (spGInit C) := by
  refine F.ok scGI (fun vs H Q E h => ?_) (fun cdv A outer s H vs Q E hr h => ?_)
  · obtain ⟨p, dx, rfl, _⟩ := h
    rfl
  · obtain ⟨p, dx, rfl, hp, k⟩ := h
    refine ⟨_, pss_cons (ps_fld (pv 0) pe_int rfl) (pss_one (ps_fld (pv 0) pe_dnewT rfl)), ?_⟩
    refine ⟨_, rfl, p, C, dx, [], rfl, hp, T.cl, T.nT, (by show 0 < 1000; decide), ?_⟩
    intro d hd
    have hpd : p ≠ d := fun z => by rw [← z, upd_same] at hd; cases hd
    refine ⟨_, rfl, p, C, dx, _, rfl, (upd_ne hpd).trans upd_same, T.cl, T.nE, (by show 1 < 1000; decide), ?_⟩
    refine k _ ⟨dx, d, upd_same, (upd_ne (Ne.symm hpd)).trans upd_same⟩ fun b o e hb => ?_
    rw [upd_ne hb, upd_ne fun z => ?_, upd_ne hb]
    · exact e
    · rw [z, ← upd_ne (H := H) (o := .ins C dx (putF "node_total" (.int 0) [])) (fun q => hb (z.trans q))] at e
      rw [hd] at e
      cases e
def spHas (C : Addr) : Sp := fun vs H Q _ => ∃ (a : Addr) (g : Gq05.Graph) (x : Int), vs = [.ref a, .int x] ∧ GraphAt C H a g ∧ Q (.bl (decide (1 ≤ x ∧ x ≤ (g.many : Int)))) H
theorem scHas : FnScope ["self", "x"] ["self", "x"] (defScope sHas) := ⟨rfl, rfl, rfl, by decide +kernel, rfl, by decide +kernel, by decide +kernel⟩
theorem ok_has {f : Addr} {fd : FuncData} (F : Fun K "has_node" "Graph.has_node" sHas f fd) (T : Txt K mg C) : FnOk P w K mg base CX0 1 f fd ["self", "x"] (spHas C) := by
  refine F.ok scHas (fun vs H Q E h => ?_) (fun cdv A outer s H vs Q E hr h => ?_)
  · obtain ⟨a, g, x, rfl, _⟩ := h
    rfl
  · obtain ⟨a, g, x, rfl, ⟨dx, d, h1, h2⟩, k⟩ := h
    refine ⟨_, pss_one (ps_ret (pe_chain op_le op_le pe_int (pv 1) (pe_fld (pv 0) rfl))), ?_⟩
    refine ⟨_, rfl, _, _, rfl, rfl, _, rfl, ?_⟩
    by_cases hx : 1 ≤ x
    · rw [if_pos (by simpa using hx)]
      refine ⟨_, rfl, a, C, dx, _, _, rfl, h1, T.cl, T.nT, gf_total _ _, _, _, rfl, rfl, ?_⟩
      have e : decide (1 ≤ x ∧ x ≤ (g.many : Int)) = decide (x ≤ (g.many : Int)) := by simp [hx]
      rw [e] at k
      exact k
    · rw [if_neg (by simpa using hx)]
      have e : decide (1 ≤ x ∧ x ≤ (g.many : Int)) = false := by simp [hx]
      rw [e] at k
      exact k
/-- the nodes' numbers -/
def nodesV (g : Gq05.Graph) : List V := (Gq05.nodes g).map fun (x : Nat) => V.int (x : Int)
theorem rg_nodes (g : Gq05.Graph) : rgV 1 ((g.many : Int) + 1) = nodesV g := by
  unfold rgV nodesV Gq05.nodes
  rw [show ((g.many : Int) + 1 - 1).toNat = g.many by omega, List.map_map]
  refine List.map_congr_left fun i _ => ?_
  show V.int (1 + (i : Int)) = V.int ((i + 1 : Nat) : Int)
  congr 1
  omega
def spNodes (C : Addr) : Sp := fun vs H Q _ => ∃ (a : Addr) (g : Gq05.Graph), vs = [.ref a] ∧ GraphAt C H a g ∧ g.many ≤ 12 ∧ ∀ q, H q = none → Q (.ref q) (upd H q (.lst (nodesV g)))
theorem scNodes : FnScope ["self"] ["self"] (defScope sNodes) := ⟨rfl, rfl, rfl, by decide +kernel, rfl, by decide +kernel, by decide +kernel⟩
theorem ok_nodes {f : Addr} {fd : FuncData} (F : Fun K "nodes" "Graph.nodes" sNodes f fd) (T : Txt K mg C) : FnOk P w K mg base CX0 1 f fd ["self"] (spNodes C) := by
  refine F.ok scNodes (fun vs H Q E h => ?_) (fun cdv A outer s H vs Q E hr h => ?_)
  · obtain ⟨a, g, rfl, _⟩ := h
    rfl
  · obtain ⟨a, g, rfl, ⟨dx, d, h1, h2⟩, hm, k⟩ := h
    refine ⟨_, pss_one (ps_ret (pe_listRg rfl rfl T.list (prg_2 rfl T.range pe_int (pe_op op_add (pe_fld (pv 0) rfl) pe_int)))), ?_⟩
    refine ⟨_, rfl, a, C, dx, _, _, rfl, h1, T.cl, T.nT, gf_total _ _, _, _, rfl, rfl, _, _, rfl, rfl, RgOk.of_le (by omega) (by omega) (by omega) (by omega), fun q hq => ?_⟩
    rw [rg_nodes]
    exact k q hq
/-! ### node, edge, cut -/
def outV (l : List Int) : List V := l.map V.int
/-- what stays whatever is changed of the graph: lists, tuples, what is locked, tables -/
def Stays : HO → Prop
  | .lst _ => True
  | .tup _ => True
  | .frz _ _ => True
  | .tbl _ => True
  | .ext _ => True
  | _ => False
def Keep (H H' : Hp) : Prop := ∀ b o, H b = some o → Stays o → H' b = some o
theorem Keep.tabs {H H' : Hp} (k : Keep H H') {T : List (Addr × Str)} (t : LamX.Tabs T H) : LamX.Tabs T H' := fun p hp => by
  obtain ⟨ps, h1, h2, h3⟩ := t p hp
  refine ⟨ps, k _ _ h1 trivial, h2, fun pos cv hc => ?_⟩
  obtain ⟨c, e1, e2⟩ := h3 pos cv hc
  exact ⟨c, e1, k _ _ e2 trivial⟩
theorem Keep.of {H H' : Hp} (h : Same H H') : Keep H H' := fun b o e _ => h b o e
theorem Keep.trans {H H1 H2 : Hp} (a : Keep H H1) (b : Keep H1 H2) : Keep H H2 := fun c o e k => b c o (a c o e k) k
theorem keep_ins {H : Hp} {p C dx : Addr} {fs : List (Str × V)} {o : HO} (h : H p = some (.ins C dx fs)) : Keep H (upd H p o) := fun b u e k => by
  rw [upd_ne fun z => ?_]
  · exact e
  · rw [z, h] at e
    cases e
    exact False.elim k
theorem keep_dT {H : Hp} {p : Addr} {kvs : List (List Key × V)} {o : HO} (h : H p = some (.dT kvs)) : Keep H (upd H p o) := fun b u e k => by
  rw [upd_ne fun z => ?_]
  · exact e
  · rw [z, h] at e
    cases e
    exact False.elim k
/-- no list stands at p -/
def NL (H : Hp) (p : Addr) : Prop := ∀ xs, H p ≠ some (.lst xs)
theorem nl_none {H : Hp} {p : Addr} (h : H p = none) : NL H p := fun xs e => by
  rw [h] at e
  cases e
theorem nl_keep {H H' : Hp} (k : Keep H H') {p : Addr} (h : H' p = none) : NL H p := fun xs e => by
  rw [k _ _ e trivial] at h
  cases h
theorem nl_same {H H' : Hp} (k : Same H H') {p : Addr} (h : H' p = none) : NL H p := nl_keep (.of k) h
/-- a call that answers what the specification's step does -/
def spStep (C : Addr) (args : List V) (c : Gq05.Call) : Sp := fun vs H Q _ => ∃ (a : Addr) (g : Gq05.Graph), vs = .ref a :: args ∧ GraphAt C H a g ∧ Ok g ∧ g.edges.length < 1000 ∧
  ∀ (H' : Hp) (p : Addr), GraphAt C H' a (Gq05.step g c).1 → H' p = some (.lst (outV (Gq05.step g c).2)) → Keep H H' → NL H p → Q (.ref p) H'
theorem scNode : FnScope ["graph"] ["graph"] (defScope sNode) := ⟨rfl, rfl, rfl, by decide +kernel, rfl, by decide +kernel, by decide +kernel⟩
theorem ok_node {f : Addr} {fd : FuncData} (F : Fun K "node" "node" sNode f fd) (T : Txt K mg C) : FnOk P w K mg base CX0 1 f fd ["graph"] (spStep C [] .node) := by
  refine F.ok scNode (fun vs H Q E h => ?_) (fun cdv A outer s H vs Q E hr h => ?_)
  · obtain ⟨a, g, rfl, _⟩ := h
    rfl
  · obtain ⟨a, g, rfl, ⟨dx, d, h1, h2⟩, ok, hl, k⟩ := h
    obtain ⟨t1, m1⟩ := T.most
    obtain ⟨t2, m2⟩ := T.full
    refine ⟨_, pss_cons (ps_if (pt_cmpR op_eq (pe_fld (pv 0) rfl) (pe_glob rfl m1 ri) (nomark _)) (pss_one (ps_ret (pe_lst (pa_cons (pe_glob rfl m2 ri) pa_nil)))) pss_nil)
      (pss_cons (ps_fldaug (pv 0) pe_int in_add) (pss_one (ps_ret (pe_lst (pa_cons (pe_fld (pv 0) rfl) pa_nil))))), ?_⟩
    refine ⟨_, rfl, a, C, dx, _, _, rfl, h1, T.cl, T.nT, gf_total _ _, rfl, _, rfl, ?_⟩
    have hle := ok.le
    by_cases hm : g.many = 12
    · refine yes (by rw [hm]; rfl) ?_
      refine ⟨(by show 1 ≤ sizeLine; decide), fun p hp => ?_⟩
      have e : Gq05.step g .node = (g, [-5]) := if_pos (by omega)
      rw [e] at k
      exact k _ p (GraphAt.same ⟨dx, d, h1, h2⟩ (same_upd hp)) upd_same (.of (same_upd hp)) (nl_none hp)
    · refine no (fun q => ?_) ?_
      · have q := of_decide_eq_true q
        injection q with q
        omega
      refine ⟨_, rfl, a, C, dx, _, _, rfl, h1, T.cl, T.nT, gf_total _ _, _, _, rfl, rfl, _, _, h1, (by show 2 < 1000; decide), ?_⟩
      have ep : putF "node_total" (V.int ((g.many : Int) + 1)) (gf g.many d) = gf (g.many + 1) d := gf_put g.many (g.many + 1) d
      rw [ep]
      have nad : d ≠ a := ne_of h2 h1 (by intro z; cases z)
      refine ⟨_, rfl, a, C, dx, _, _, rfl, upd_same, T.cl, T.nT, gf_total _ _, (by show 1 ≤ sizeLine; decide), fun p hp => ?_⟩
      have e : Gq05.step g .node = ({ g with many := g.many + 1 }, Gq05.ints [g.many + 1]) := if_neg (by omega)
      rw [e] at k
      have s1 := same_upd (o := .lst [V.int (((g.many + 1 : Nat) : Int))]) hp
      exact k _ p (GraphAt.same ⟨dx, d, upd_same, (upd_ne nad).trans h2⟩ s1) upd_same ((keep_ins h1).trans (.of s1)) (nl_keep (keep_ins h1) hp)
theorem isNode_iff (g : Gq05.Graph) (x : Nat) : decide (1 ≤ (x : Int) ∧ (x : Int) ≤ (g.many : Int)) = Gq05.isNode g x := by
  unfold Gq05.isNode
  rw [Bool.eq_iff_iff, Bool.and_eq_true, decide_eq_true_eq, decide_eq_true_eq, decide_eq_true_eq]
  omega
def mayB (g : Gq05.Graph) (x y l : Nat) : Bool := Gq05.isNode g x && (Gq05.isNode g y && (decide (x ≠ y) && decide (1 ≤ l ∧ l ≤ 9)))
def spMay (C : Addr) : Sp := fun vs H Q _ => ∃ (a : Addr) (g : Gq05.Graph) (x y l : Nat), vs = [.ref a, .int (x : Int), .int (y : Int), .int (l : Int)] ∧ GraphAt C H a g ∧ Q (.bl (mayB g x y l)) H
theorem scMay : FnScope ["graph", "x", "y", "length"] ["graph", "x", "y", "length"] (defScope sMay) := ⟨rfl, rfl, rfl, by decide +kernel, rfl, by decide +kernel, by decide +kernel⟩
/-- graph.has_node and what it needs -/
structure HasM (P : Program) (w : World) (K : PySem.W.Frag) (mg : Str → Option Value) (base : Heap) (C : Addr) : Prop where
  ex : ∃ f fd, Meth K C "has_node" f ∧ Binds K fd ["self", "x"] [] ∧ FnOk P w K mg base CX0 1 f fd ["self", "x"] (spHas C)
theorem ok_may {f : Addr} {fd : FuncData} (F : Fun K "may_be_edge" "may_be_edge" sMay f fd) (T : Txt K mg C) (M : HasM P w K mg base C) : FnOk P w K mg base CX0 2 f fd ["graph", "x", "y", "length"] (spMay C) := by
  obtain ⟨fh, fdh, mh, bh, G⟩ := M.ex
  refine F.ok scMay (fun vs H Q E h => ?_) (fun cdv A outer s H vs Q E hr h => ?_)
  · obtain ⟨a, g, x, y, l, rfl, _⟩ := h
    rfl
  · obtain ⟨a, g, x, y, l, rfl, hg, k⟩ := h
    obtain ⟨dx, d, h1, h2⟩ := id hg
    obtain ⟨t1, m1⟩ := T.longest
    refine ⟨_, pss_one (ps_ret (pe_and (pe_meth (pv 0) T.cl mh G hr bh .nil pass0 (pa_cons (pv 1) pa_nil)) (pe_and (pe_meth (pv 0) T.cl mh G hr bh .nil pass0 (pa_cons (pv 2) pa_nil))
      (pe_and (pe_cmpR op_ne (pv 1) (pv 2) (nomark _)) (pe_one (pe_chain op_le op_le pe_int (pv 3) (pe_glob rfl m1 ri))))))), ?_⟩
    refine ⟨_, rfl, a, dx, _, rfl, h1, gf_no _ _ (by decide +kernel) (by decide +kernel), _, rfl, a, g, x, rfl, hg, _, rfl, ?_⟩
    rw [isNode_iff]
    unfold mayB at k
    cases e1 : Gq05.isNode g x with
    | false =>
      rw [e1] at k
      exact iteF k
    | true =>
      rw [e1, Bool.true_and] at k
      refine iteT ⟨_, rfl, a, dx, _, rfl, h1, gf_no _ _ (by decide +kernel) (by decide +kernel), _, rfl, a, g, y, rfl, hg, _, rfl, ?_⟩
      rw [isNode_iff]
      cases e2 : Gq05.isNode g y with
      | false =>
        rw [e2] at k
        exact iteF k
      | true =>
        rw [e2, Bool.true_and] at k
        refine iteT ⟨_, rfl, _, rfl, rfl, _, rfl, ?_⟩
        by_cases hxy : x = y
        · refine no (by simp [hxy]) ?_
          simpa [hxy] using k
        · have hxy' : ¬ (V.int (x : Int)) = V.int (y : Int) := fun q => hxy (by injection q with q; omega)
          refine yes (by simpa using hxy') ?_
          refine ⟨_, rfl, _, _, rfl, rfl, _, rfl, ?_⟩
          rw [show decide (x ≠ y) = true by simpa using hxy, Bool.true_and] at k
          by_cases hl : 1 ≤ (l : Int)
          · refine yes (by simpa using hl) ?_
            refine ⟨_, _, rfl, rfl, ?_⟩
            have e : decide ((l : Int) ≤ 9) = decide (1 ≤ l ∧ l ≤ 9) := by
              rw [Bool.eq_iff_iff, decide_eq_true_eq, decide_eq_true_eq]
              omega
            rw [← e] at k
            exact k
          · refine no (by simpa using hl) ?_
            rw [show decide (1 ≤ l ∧ l ≤ 9) = false by simp; omega] at k
            exact k
/-! ### the edges' dict -/
abbrev ek (x y : Nat) : List Key := [Sum.inl (x : Int), Sum.inl (y : Int)]
theorem ek_inj {x y u v : Nat} (h : ek x y = ek u v) : x = u ∧ y = v := by
  injection h with h1 h2
  injection h2 with h2 _
  injection h1 with h1
  injection h2 with h2
  omega
theorem edge_val (x y : Nat) : ∀ es : List Gq05.Edge, valV (edgeKV es) (ek x y) = ((es.find? fun e => e.src == x && e.dst == y).map fun e => e.long).map fun (l : Nat) => V.int (l : Int)
  | [] => rfl
  | e :: es => by
    by_cases h : e.src = x ∧ e.dst = y
    · obtain ⟨rfl, rfl⟩ := h
      rw [show edgeKV (e :: es) = (ek e.src e.dst, V.int (e.long : Int)) :: edgeKV es from rfl, valV_pos rfl, List.find?_cons_of_pos (by simp)]
      rfl
    · rw [show edgeKV (e :: es) = (ek e.src e.dst, V.int (e.long : Int)) :: edgeKV es from rfl, valV_neg (fun q => h (ek_inj q)), edge_val x y es, List.find?_cons_of_neg (by simpa using h)]
theorem long_val (g : Gq05.Graph) (x y : Nat) : valV (edgeKV g.edges) (ek x y) = (Gq05.long? g x y).map fun (l : Nat) => V.int (l : Int) := edge_val x y g.edges
theorem edge_new {g : Gq05.Graph} {x y l : Nat} (h : Gq05.long? g x y = none) : putK (edgeKV g.edges) (ek x y) (V.int (l : Int)) = edgeKV (g.edges ++ [⟨x, y, l⟩]) := by
  rw [putK_new _ (by rw [long_val, h]; rfl)]
  unfold edgeKV
  rw [List.map_append]
  rfl
theorem not_both {a b x y : Nat} (h : ¬ (a = x ∧ b = y)) : (!(a == x && b == y)) = true := by
  by_cases p : a = x <;> by_cases q : b = y <;> simp_all
theorem edge_drop (x y : Nat) : ∀ es : List Gq05.Edge, dropK (edgeKV es) (ek x y) = edgeKV (es.filter fun e => !(e.src == x && e.dst == y))
  | [] => rfl
  | e :: es => by
    have ih := edge_drop x y es
    unfold dropK at ih ⊢
    rw [show edgeKV (e :: es) = (ek e.src e.dst, V.int (e.long : Int)) :: edgeKV es from rfl, List.filter_cons, List.filter_cons]
    by_cases h : e.src = x ∧ e.dst = y
    · rw [if_neg (by simp [h]), if_neg (by simp [h]), ih]
    · rw [if_pos (by
        rw [decide_eq_true_eq]
        exact fun q => h (ek_inj q)), if_pos (not_both h), ih]
      rfl
theorem drop_len (x y : Nat) : ∀ es : List Gq05.Edge, (es.map fun e => (e.src, e.dst)).Nodup → (es.find? fun e => e.src == x && e.dst == y).isSome = true → (es.filter fun e => !(e.src == x && e.dst == y)).length = es.length - 1
  | [], _, h => by cases h
  | e :: es, nd, h => by
    rw [List.map_cons, List.nodup_cons] at nd
    rw [List.filter_cons]
    by_cases hx : e.src = x ∧ e.dst = y
    · rw [if_neg (by simp [hx])]
      have : es.filter (fun e => !(e.src == x && e.dst == y)) = es := List.filter_eq_self.mpr fun z hz => by
        have : ¬ (z.src = x ∧ z.dst = y) := fun q => nd.1 (by rw [hx.1, hx.2, ← q.1, ← q.2]; exact List.mem_map.mpr ⟨z, hz, rfl⟩)
        exact not_both this
      rw [this]
      rfl
    · rw [List.find?_cons_of_neg (by simpa using hx)] at h
      rw [if_pos (not_both hx), List.length_cons, drop_len x y es nd.2 h, List.length_cons]
      have : 0 < es.length := by
        cases es with
        | nil => cases h
        | cons _ _ => simp
      omega
/-- d.pop(k), d with tuples as keys, k there -/
def rPop1T : V → List V → Hp → VK → Prop := fun x xs H Q => ∃ (a : Addr) (kvs : List (List Key × V)) (k : List Key) (b : Addr) (v : V), x = .ref a ∧ xs = [.ref b] ∧ H a = some (.dT kvs) ∧ H b = some (.tup (k.map kV)) ∧ valV kvs k = some v ∧ Q v (upd H a (.dT (dropK kvs k)))
theorem kt_drop {H : Hp} (k : List Key) : ∀ {kvs : List (List Key × V)} {xs : List (List Key × Addr × Value)}, KT H kvs xs → KT H (dropK kvs k) (withoutH xs k)
  | _, _, .nil => .nil
  | p :: _, q :: _, .cons h t => by
    have ih := kt_drop k t
    unfold dropK withoutH at ih ⊢
    rw [List.filter_cons, List.filter_cons, h.1]
    by_cases z : q.1 = k
    · rw [if_neg (by simpa using z), if_neg (by simpa using z)]
      exact ih
    · rw [if_pos (by simpa using z), if_pos (by simpa using z)]
      exact .cons h ih
theorem mt_pop1T {X : Cx} (hu : X.A.units + 1 < cLine) : MtR X "dict.pop" rPop1T := by
  intro pins s σ H x xs v us Q I rx rxs h
  obtain ⟨a, kvs, k, b, v0, rfl, rfl, ha, hb, hv, q⟩ := h
  cases rx
  obtain ⟨u1, rfl, r1⟩ := vals1 rxs
  cases r1
  obtain ⟨z, hd, ys, rel, dd⟩ := dt_of I.hok ha
  have r := rel.val k
  rw [hv] at r
  refine call_meetsIn PySem.F.slot_dict_pop dd.typeIs PySem.F.entry_dict_pop (PySem.F.args_dict_pop_2 _ _) (meetsH_dict_pop (tupleKind (mixKind X.prog X.w)) a b hd [] (.inl rfl))
    ⟨tupleKind_room_in1 hu, k, ys, key_of I.hok hb, dd, by rw [← Paired.length rel]; exact z, fun p hp h' dd' hs => ?_, fun hn => ?_⟩
  · rw [hp] at r
    obtain ⟨o, es, ep, hq, h2, h3, h4, _, h5⟩ := dd'
    have I2 : Inv X pins σ (upd H a (.dT (dropK kvs k))) { s with heap := h', toks := s.toks + (tupleKind (mixKind X.prog X.w)).draws k } :=
      d_write I (by rw [ha]; exact True.intro) hs ⟨o, hq⟩ ⟨Nat.le_trans (dropK_le kvs k) z, hd, _, (kt_drop k rel).keeps (fun c ys ec => by rw [upd_ne (ne_of ec ha (fun z => by cases z))]; exact ec), o, es, ep, hq, h2, h3, h4, h5⟩
    exact ⟨v0, _, I2, r, q⟩
  · rw [hn] at r
    exact (show False from r).elim
section
variable {P : Program} {w : World} {K : PySem.W.Frag} {mg : Str → Option Value} {base : Heap} {C : Addr}
/-- may_be_edge and what it needs -/
structure MayF (P : Program) (w : World) (K : PySem.W.Frag) (mg : Str → Option Value) (base : Heap) (C : Addr) : Prop where
  ex : ∃ f fd, mg "may_be_edge" = some (.ref f) ∧ PySem.W.keepIn K (.ref f) = true ∧ Binds K fd ["graph", "x", "y", "length"] [] ∧ FnOk P w K mg base CX0 2 f fd ["graph", "x", "y", "length"] (spMay C)
theorem scEdge : FnScope ["graph", "x", "y", "length"] ["graph", "x", "y", "length"] (defScope sEdge) := ⟨rfl, rfl, rfl, by decide +kernel, rfl, by decide +kernel, by decide +kernel⟩
theorem step_edge_no {g : Gq05.Graph} {x y l : Nat} (h : mayB g x y l = false) : Gq05.step g (.edge x y l) = (g, [-1]) := by
  show (if _ then _ else _) = _
  rw [if_pos]
  unfold mayB at h
  rw [Bool.and_eq_false_iff, Bool.and_eq_false_iff, Bool.and_eq_false_iff, decide_eq_false_iff_not, decide_eq_false_iff_not] at h
  rcases h with h | h | h | h
  · exact .inl h
  · exact .inr (.inl h)
  · exact .inr (.inr (.inl (by omega)))
  · exact .inr (.inr (.inr (by omega)))
theorem step_edge_yes {g : Gq05.Graph} {x y l : Nat} (h : mayB g x y l = true) : Gq05.step g (.edge x y l) = if (Gq05.long? g x y).isSome = true then (g, [-4]) else ({ g with edges := g.edges ++ [⟨x, y, l⟩] }, Gq05.ints [g.edges.length + 1]) := by
  show (if _ then _ else _) = _
  rw [if_neg]
  unfold mayB at h
  rw [Bool.and_eq_true, Bool.and_eq_true, Bool.and_eq_true, decide_eq_true_eq, decide_eq_true_eq] at h
  rintro (q | q | q | q | q)
  · rw [h.1] at q
    cases q
  · rw [h.2.1] at q
    cases q
  · exact h.2.2.1 q
  · omega
  · omega
theorem edgeKV_len (es : List Gq05.Edge) : (edgeKV es).length = es.length := by
  unfold edgeKV
  rw [List.length_map]
def spEdge (C : Addr) : Sp := fun vs H Q E => ∃ (x y l : Nat), spStep C [.int (x : Int), .int (y : Int), .int (l : Int)] (.edge x y l) vs H Q E
theorem ok_edge {f : Addr} {fd : FuncData} (F : Fun K "edge" "edge" sEdge f fd) (T : Txt K mg C) (M : MayF P w K mg base C) : FnOk P w K mg base CX0 3 f fd ["graph", "x", "y", "length"] (spEdge C) := by
  obtain ⟨fm, fdm, mm, km, bm, G⟩ := M.ex
  refine F.ok scEdge (fun vs H Q E h => ?_) (fun cdv A outer s H vs Q E hr h => ?_)
  · obtain ⟨x, y, l, a, g, rfl, _⟩ := h
    rfl
  · obtain ⟨x, y, l, a, g, rfl, hg, ok, hlen, k⟩ := h
    obtain ⟨dx, d, h1, h2⟩ := id hg
    obtain ⟨t1, m1⟩ := T.told
    obtain ⟨t2, m2⟩ := T.already
    have hu := hu_of hr
    refine ⟨_, pss_cons (ps_if (pt_not (pt_val (pe_call G hr rfl mm km bm .nil pass0 (pa_cons (pv 0) (pa_cons (pv 1) (pa_cons (pv 2) (pa_cons (pv 3) pa_nil))))))) (pss_one (ps_ret (pe_lst (pa_cons (pe_glob rfl m1 ri) pa_nil)))) pss_nil)
      (pss_cons (ps_if (pt_cmp (pc_din hu (pe_tup (pa_cons (pv 1) (pa_cons (pv 2) pa_nil))) (pe_fld (pv 0) rfl))) (pss_one (ps_ret (pe_lst (pa_cons (pe_glob rfl m2 ri) pa_nil)))) pss_nil)
      (pss_cons (ps_dput hu (pe_fld (pv 0) rfl) (pe_tup (pa_cons (pv 1) (pa_cons (pv 2) pa_nil))) (pv 3) rfl)
      (pss_one (ps_ret (pe_lst (pa_cons (pe_callB call_len_dT (by rfl) T.len PySem.boot_len (pa_cons (pe_fld (pv 0) rfl) pa_nil)) pa_nil)))))), ?_⟩
    refine ⟨_, rfl, _, rfl, _, rfl, _, rfl, a, g, x, y, l, rfl, hg, _, rfl, ?_⟩
    cases em : mayB g x y l with
    | false =>
      refine iteT ⟨(by show 1 ≤ sizeLine; decide), fun p hp => ?_⟩
      rw [step_edge_no em] at k
      exact k _ p (hg.same (same_upd hp)) upd_same (.of (same_upd hp)) (nl_none hp)
    | true =>
      rw [step_edge_yes em] at k
      refine iteF ?_
      refine ⟨_, rfl, _, rfl, (by show 2 ≤ sizeLine; decide), fun t ht => ?_⟩
      have s1 := same_upd (o := .tup [.int (x : Int), .int (y : Int)]) ht
      refine ⟨_, rfl, a, C, dx, _, _, rfl, s1 _ _ h1, T.cl, T.nE, gf_edges _ _, d, _, rfl, DGet.t (k := ek x y) (s1 _ _ h2) upd_same, _, rfl, ?_⟩
      rw [long_val]
      cases el : Gq05.long? g x y with
      | some l0 =>
        refine iteT ⟨(by show 1 ≤ sizeLine; decide), fun p hp => ?_⟩
        rw [el] at k
        simp only [Option.isSome_some, if_true] at k
        have s2 := s1.trans (same_upd (o := .lst [.int (-4)]) hp)
        exact k _ p (hg.same s2) upd_same (.of s2) (nl_same s1 hp)
      | none =>
        rw [el] at k
        simp only [Option.isSome_none, Bool.false_eq_true, if_false] at k
        refine iteF ⟨_, rfl, _, rfl, a, C, dx, _, _, rfl, s1 _ _ h1, T.cl, T.nE, gf_edges _ _, _, rfl, _, rfl, (by show 2 ≤ sizeLine; decide), fun u hu' => ?_⟩
        have s2 := s1.trans (same_upd (o := .tup [.int (x : Int), .int (y : Int)]) hu')
        refine ⟨d, _, rfl, DPut.t (k := ek x y) (s2 _ _ h2) upd_same (by rw [edgeKV_len, sizeLine_eq]; omega), ?_⟩
        rw [edge_new el]
        have nad : a ≠ d := ne_of h1 h2 (by intro z; cases z)
        refine ⟨_, rfl, a, C, dx, _, _, rfl, (upd_ne nad).trans (s2 _ _ h1), T.cl, T.nE, gf_edges _ _, d, _, rfl, upd_same, (by show 1 ≤ sizeLine; decide), fun p hp => ?_⟩
        have s3 := same_upd (o := .lst [V.int ((edgeKV (g.edges ++ [⟨x, y, l⟩])).length : Int)]) hp
        refine k _ p (GraphAt.same ⟨dx, d, (upd_ne nad).trans (s2 _ _ h1), upd_same⟩ s3) ?_ ((Keep.of s2).trans ((keep_dT (s2 _ _ h2)).trans (.of s3))) (nl_keep ((Keep.of s2).trans (keep_dT (s2 _ _ h2))) hp)
        rw [upd_same, edgeKV_len, List.length_append]
        rfl
theorem scCut : FnScope ["graph", "x", "y"] ["graph", "x", "y"] (defScope sCut) := ⟨rfl, rfl, rfl, by decide +kernel, rfl, by decide +kernel, by decide +kernel⟩
def spCut (C : Addr) : Sp := fun vs H Q E => ∃ (x y : Nat), spStep C [.int (x : Int), .int (y : Int)] (.cut x y) vs H Q E
theorem ok_cut {f : Addr} {fd : FuncData} (F : Fun K "cut" "cut" sCut f fd) (T : Txt K mg C) : FnOk P w K mg base CX0 1 f fd ["graph", "x", "y"] (spCut C) := by
  refine F.ok scCut (fun vs H Q E h => ?_) (fun cdv A outer s H vs Q E hr h => ?_)
  · obtain ⟨x, y, a, g, rfl, _⟩ := h
    rfl
  · obtain ⟨x, y, a, g, rfl, hg, ok, hlen, k⟩ := h
    obtain ⟨dx, d, h1, h2⟩ := id hg
    obtain ⟨t1, m1⟩ := T.there
    have hu := hu_of hr
    refine ⟨_, pss_cons (ps_if (pt_cmp (pc_dnotin hu (pe_tup (pa_cons (pv 1) (pa_cons (pv 2) pa_nil))) (pe_fld (pv 0) rfl))) (pss_one (ps_ret (pe_lst (pa_cons (pe_glob rfl m1 ri) pa_nil)))) pss_nil)
      (pss_cons (ps_expr (pe_bm PySem.F.plainAttrs_dict PySem.F.slot_dict_pop PySem.F.type_dict_pop (mt_pop1T hu) (pe_fld (pv 0) rfl) (pa_cons (pe_tup (pa_cons (pv 1) (pa_cons (pv 2) pa_nil))) pa_nil)))
      (pss_one (ps_ret (pe_lst (pa_cons (pe_callB call_len_dT (by rfl) T.len PySem.boot_len (pa_cons (pe_fld (pv 0) rfl) pa_nil)) pa_nil))))), ?_⟩
    refine ⟨_, rfl, _, rfl, (by show 2 ≤ sizeLine; decide), fun t ht => ?_⟩
    have s1 := same_upd (o := .tup [.int (x : Int), .int (y : Int)]) ht
    refine ⟨_, rfl, a, C, dx, _, _, rfl, s1 _ _ h1, T.cl, T.nE, gf_edges _ _, d, _, rfl, DGet.t (k := ek x y) (s1 _ _ h2) upd_same, _, rfl, ?_⟩
    rw [long_val]
    have ks : Gq05.step g (.cut x y) = if (Gq05.long? g x y).isNone = true then (g, [-3]) else ({ g with edges := g.edges.filter fun e => !(e.src == x && e.dst == y) }, Gq05.ints [g.edges.length - 1]) := rfl
    rw [ks] at k
    cases el : Gq05.long? g x y with
    | none =>
      rw [el] at k
      refine iteT ⟨(by show 1 ≤ sizeLine; decide), fun p hp => ?_⟩
      have s2 := s1.trans (same_upd (o := .lst [.int (-3)]) hp)
      exact k _ p (hg.same s2) upd_same (.of s2) (nl_same s1 hp)
    | some l0 =>
      rw [el] at k
      refine iteF ⟨_, rfl, a, C, dx, _, _, rfl, s1 _ _ h1, T.cl, T.nE, gf_edges _ _, ?_⟩
      simp only [Option.isNone_some, Bool.false_eq_true, if_false] at k
      refine ⟨.inr (.inr (.inl ⟨rfl, .inr ⟨_, s1 _ _ h2⟩⟩)), _, rfl, _, rfl, (by show 2 ≤ sizeLine; decide), fun u hu' => ?_⟩
      have s2 := s1.trans (same_upd (o := .tup [.int (x : Int), .int (y : Int)]) hu')
      refine ⟨d, _, ek x y, u, V.int (l0 : Int), rfl, rfl, s2 _ _ h2, upd_same, by rw [long_val, el]; rfl, ?_⟩
      rw [edge_drop]
      have nad : a ≠ d := ne_of h1 h2 (by intro z; cases z)
      refine ⟨_, rfl, a, C, dx, _, _, rfl, (upd_ne nad).trans (s2 _ _ h1), T.cl, T.nE, gf_edges _ _, d, _, rfl, upd_same, (by show 1 ≤ sizeLine; decide), fun p hp => ?_⟩
      have s3 := same_upd (o := .lst [V.int ((edgeKV (g.edges.filter fun e => !(e.src == x && e.dst == y))).length : Int)]) hp
      refine k _ p (GraphAt.same ⟨dx, d, (upd_ne nad).trans (s2 _ _ h1), upd_same⟩ s3) ?_ ((Keep.of s2).trans ((keep_dT (s2 _ _ h2)).trans (.of s3))) (nl_keep ((Keep.of s2).trans (keep_dT (s2 _ _ h2))) hp)
      rw [upd_same, edgeKV_len, drop_len x y g.edges ok.nd (by
        unfold Gq05.long? at el
        rw [Option.map_eq_some_iff] at el
        obtain ⟨e, he, _⟩ := el
        rw [he]
        rfl)]
      rfl
end
end
end WF
end
section
set_option Elab.async false
set_option linter.all false
set_option maxRecDepth 100000
set_option maxHeartbeats 4000000
namespace WF
open PySem PySem.Spec PyProof.Rows L2
open WB (Ok)
abbrev sFrac : Stmt := top 30
abbrev sGcd : Stmt := top 31
abbrev sTog : Stmt := top 32
abbrev sCommon : Stmt := top 33
section
variable {P : Program} {w : World} {K : PySem.W.Frag} {mg : Str → Option Value} {base : Heap}
def spGcd : Sp := fun vs H Q _ => ∃ (a b : Nat), vs = [.int (a : Int), .int (b : Int)] ∧ Q (.int ((Nat.gcd a b : Nat) : Int)) H
theorem scGcd : FnScope ["first", "second", "larger", "smaller", "rest"] ["first", "second"] (defScope sGcd) := ⟨rfl, rfl, rfl, by decide +kernel, rfl, by decide +kernel, by decide +kernel⟩
theorem ok_gcd {f : Addr} {fd : FuncData} (F : Fun K "greatest_divisor" "greatest_divisor" sGcd f fd) : FnOk P w K mg base CX0 1 f fd ["first", "second"] spGcd := by
  refine F.ok scGcd (fun vs H Q E h => ?_) (fun cdv A outer s H vs Q E hr h => ?_)
  · obtain ⟨a, b, rfl, _⟩ := h
    rfl
  · obtain ⟨a, b, rfl, k⟩ := h
    refine ⟨_, pss_cons (ps_set (i := 2) scGcd.nd rfl (Or.inl rfl) (pv 0)) (pss_cons (ps_set (i := 3) scGcd.nd rfl (Or.inl rfl) (pv 1))
      (pss_cons (ps_while PassesOwn.never (pt_cmpR op_gt (pv 3) pe_int (nomark _))
        (pss_cons (ps_set (i := 4) scGcd.nd rfl (Or.inl rfl) (pe_op op_mod (pv 2) (pv 3))) (pss_cons (ps_set (i := 2) scGcd.nd rfl (Or.inl rfl) (pv 3)) (pss_one (ps_set (i := 3) scGcd.nd rfl (Or.inl rfl) (pv 4))))))
      (pss_one (ps_ret (pv 2))))), ?_⟩
    refine ⟨_, rfl, _, rfl, ?_⟩
    refine while_by (fun σ H' => H' = H ∧ ∃ (x y : Nat) (o : Option V), σ = [some (.int (a : Int)), some (.int (b : Int)), some (.int (x : Int)), some (.int (y : Int)), o] ∧ Nat.gcd x y = Nat.gcd a b)
      (fun σ _ => match σ with | [_, _, _, some (.int y), _] => y.toNat | _ => 0) ⟨rfl, a, b, none, rfl, rfl⟩ ?_ ?_
    · rintro σ H' ⟨rfl, x, y, o, rfl, hxy⟩
      refine ⟨_, rfl, _, _, rfl, rfl, _, rfl, ?_⟩
      by_cases hy : 0 < y
      · refine yes (by simpa using hy) ?_
        refine ⟨_, rfl, _, rfl, _, _, rfl, rfl, (by show (0 : Int) < (y : Int); omega), _, rfl, _, rfl, ⟨rfl, y, x % y, _, rfl, ?_⟩, ?_⟩
        · rw [← hxy, Nat.gcd_comm x y, Nat.gcd_comm y (x % y)]
          exact (Nat.gcd_rec y x).symm
        · show ((x : Int) % (y : Int)).toNat < ((y : Int)).toNat
          have h1 := Int.emod_lt_of_pos (x : Int) (show (0 : Int) < (y : Int) by omega)
          omega
      · refine no (by simpa using hy) ?_
        have hy0 : y = 0 := by omega
        subst hy0
        refine ⟨_, rfl, ?_⟩
        rw [Nat.gcd_zero_right] at hxy
        rw [hxy]
        exact k
    · rintro σ H' Q1 Q2 m ⟨v, hv, i, j, e1, e2, c, e3, q⟩
      exact ⟨v, hv, i, j, e1, e2, c, e3, m _ _ q⟩
/-- a fraction in lowest terms -/
def low (a b : Nat) : Nat × Nat := (a / Nat.gcd a b, b / Nat.gcd a b)
def frV (p : Nat × Nat) : List V := [.int (p.1 : Int), .int (p.2 : Int)]
theorem low_pos {a b : Nat} (hb : 0 < b) : 0 < (low a b).2 := Nat.div_gcd_pos_of_pos_right a hb
theorem low_le (a b : Nat) : (low a b).1 ≤ a ∧ (low a b).2 ≤ b := ⟨Nat.div_le_self _ _, Nat.div_le_self _ _⟩
structure GcdF (P : Program) (w : World) (K : PySem.W.Frag) (mg : Str → Option Value) (base : Heap) : Prop where
  ex : ∃ f fd, mg "greatest_divisor" = some (.ref f) ∧ PySem.W.keepIn K (.ref f) = true ∧ Binds K fd ["first", "second"] [] ∧ FnOk P w K mg base CX0 1 f fd ["first", "second"] spGcd
def spFrac : Sp := fun vs H Q _ => ∃ (a b : Nat), vs = [.int (a : Int), .int (b : Int)] ∧ 0 < b ∧ b < 2 ^ 9000 ∧ ∀ p, H p = none → Q (.ref p) (upd H p (.tup (frV (low a b))))
theorem scFrac : FnScope ["above", "below", "divisor"] ["above", "below"] (defScope sFrac) := ⟨rfl, rfl, rfl, by decide +kernel, rfl, by decide +kernel, by decide +kernel⟩
theorem ok_frac {f : Addr} {fd : FuncData} (F : Fun K "fraction" "fraction" sFrac f fd) (M : GcdF P w K mg base) : FnOk P w K mg base CX0 2 f fd ["above", "below"] spFrac := by
  obtain ⟨fg, fdg, mgg, kg, bg, G⟩ := M.ex
  refine F.ok scFrac (fun vs H Q E h => ?_) (fun cdv A outer s H vs Q E hr h => ?_)
  · obtain ⟨a, b, rfl, _⟩ := h
    rfl
  · obtain ⟨a, b, rfl, hb, hz, k⟩ := h
    refine ⟨_, pss_cons (ps_set (i := 2) scFrac.nd rfl (Or.inl rfl) (pe_call G hr rfl mgg kg bg .nil pass0 (pa_cons (pv 0) (pa_cons (pv 1) pa_nil))))
      (pss_one (ps_ret (pe_tup (pa_cons (pe_op op_fdivW (pv 0) (pv 2)) (pa_cons (pe_op op_fdivW (pv 1) (pv 2)) pa_nil))))), ?_⟩
    have g0 : 0 < Nat.gcd a b := Nat.gcd_pos_of_pos_right a hb
    have g1 : Nat.gcd a b ≤ b := Nat.gcd_le_right a hb
    have cd : ∀ i : Int, CDivW i ((Nat.gcd a b : Nat) : Int) := fun i => wide_div (b := 9000) (by omega) (by rw [Int.natAbs_natCast]; exact Nat.lt_of_le_of_lt g1 hz) (by decide) (by decide)
    refine ⟨_, rfl, _, rfl, a, b, rfl, _, rfl, _, rfl, _, _, rfl, rfl, cd _, _, rfl, _, rfl, _, _, rfl, rfl, cd _, (by show 2 ≤ sizeLine; decide), fun p hp => ?_⟩
    exact k p hp
structure FracF (P : Program) (w : World) (K : PySem.W.Frag) (mg : Str → Option Value) (base : Heap) : Prop where
  ex : ∃ f fd, mg "fraction" = some (.ref f) ∧ PySem.W.keepIn K (.ref f) = true ∧ Binds K fd ["above", "below"] [] ∧ FnOk P w K mg base CX0 2 f fd ["above", "below"] spFrac
/-- the sum of two fractions -/
def plus (p q : Nat × Nat) : Nat × Nat := low (p.1 * q.2 + q.1 * p.2) (p.2 * q.2)
def spTog : Sp := fun vs H Q _ => ∃ (a b : Addr) (p q : Nat × Nat) (n1 n2 m1 m2 : Nat), vs = [.ref a, .ref b] ∧ H a = some (.tup (frV p)) ∧ H b = some (.tup (frV q)) ∧ 0 < p.2 ∧ 0 < q.2 ∧ (p.1 < 2 ^ n1 ∧ p.2 < 2 ^ n2) ∧ (q.1 < 2 ^ m1 ∧ q.2 < 2 ^ m2) ∧ (0 < n1 ∧ 0 < n2 ∧ 0 < m1 ∧ 0 < m2) ∧ n2 + m2 ≤ 9000 ∧ n1 ≤ 100000 ∧ m1 ≤ 100000 ∧
  ∀ r, H r = none → Q (.ref r) (upd H r (.tup (frV (plus p q))))
theorem scTog : FnScope ["one", "other"] ["one", "other"] (defScope sTog) := ⟨rfl, rfl, rfl, by decide +kernel, rfl, by decide +kernel, by decide +kernel⟩
theorem ok_tog {f : Addr} {fd : FuncData} (F : Fun K "together" "together" sTog f fd) (M : FracF P w K mg base) : FnOk P w K mg base CX0 3 f fd ["one", "other"] spTog := by
  obtain ⟨fg, fdg, mgg, kg, bg, G⟩ := M.ex
  refine F.ok scTog (fun vs H Q E h => ?_) (fun cdv A outer s H vs Q E hr h => ?_)
  · obtain ⟨a, b, p, q, n1, n2, m1, m2, rfl, _⟩ := h
    rfl
  · obtain ⟨a, b, p, q, n1, n2, m1, m2, rfl, ha, hb, p0, q0, ⟨p1, p2⟩, ⟨q1, q2⟩, ⟨z1, z2, z3, z4⟩, hnm, b1, b2, k⟩ := h
    refine ⟨_, pss_one (ps_ret (pe_call G hr rfl mgg kg bg .nil pass0 (pa_cons (pe_op op_add (pe_op op_mulW (pe_ix ix_tup (pv 0) pe_int (fun _ _ => rfl)) (pe_ix ix_tup (pv 1) pe_int (fun _ _ => rfl))) (pe_op op_mulW (pe_ix ix_tup (pv 1) pe_int (fun _ _ => rfl)) (pe_ix ix_tup (pv 0) pe_int (fun _ _ => rfl))))
      (pa_cons (pe_op op_mulW (pe_ix ix_tup (pv 0) pe_int (fun _ _ => rfl)) (pe_ix ix_tup (pv 1) pe_int (fun _ _ => rfl))) pa_nil)))), ?_⟩
    have cm : ∀ {i j u v : Nat}, i < 2 ^ u → j < 2 ^ v → 0 < u → 0 < v → u + v ≤ 1000000 → CMulW (i : Int) (j : Int) := fun hi hj hu hv h => wide_mul (by rw [Int.natAbs_natCast]; exact hi) (by rw [Int.natAbs_natCast]; exact hj) hu hv h
    refine ⟨_, rfl, a, _, _, _, rfl, rfl, SqT.of ha, atI_nat (j := 0) rfl, _, rfl, b, _, _, _, rfl, rfl, SqT.of hb, atI_nat (j := 1) rfl, _, _, rfl, rfl, cm p1 q2 z1 z4 (by omega),
      _, rfl, b, _, _, _, rfl, rfl, SqT.of hb, atI_nat (j := 0) rfl, _, rfl, a, _, _, _, rfl, rfl, SqT.of ha, atI_nat (j := 1) rfl, _, _, rfl, rfl, cm q1 p2 z3 z2 (by omega), _, _, rfl, rfl,
      _, rfl, a, _, _, _, rfl, rfl, SqT.of ha, atI_nat (j := 1) rfl, _, rfl, b, _, _, _, rfl, rfl, SqT.of hb, atI_nat (j := 1) rfl, _, _, rfl, rfl, cm p2 q2 z2 z4 (by omega),
      p.1 * q.2 + q.1 * p.2, p.2 * q.2, ?_, Nat.mul_pos p0 q0, ?_, k⟩
    · show [V.int ((p.1 : Int) * (q.2 : Int) + (q.1 : Int) * (p.2 : Int)), V.int ((p.2 : Int) * (q.2 : Int))] = _
      rw [Int.natCast_add, Int.natCast_mul, Int.natCast_mul, Int.natCast_mul]
    · calc p.2 * q.2 < 2 ^ n2 * 2 ^ m2 := Nat.mul_lt_mul'' p2 q2
        _ = 2 ^ (n2 + m2) := (Nat.pow_add ..).symm
        _ ≤ 2 ^ 9000 := Nat.pow_le_pow_right (by decide) hnm
end
end WF
end
section
set_option Elab.async false
set_option linter.all false
set_option maxRecDepth 100000
set_option maxHeartbeats 4000000
namespace WF
open PySem PySem.Spec PyProof.Rows L2
open WB (Ok ND ndGet ndPut)
abbrev sLens : Stmt := top 15
abbrev sGo : Stmt := top 16
abbrev sTots : Stmt := top 17
abbrev sBef : Stmt := top 18
/-! ### a dict of numbers in memory -/
def ndV (d : ND) : List (Key × V) := d.map fun p => (Sum.inl (p.1 : Int), V.int (p.2 : Int))
abbrev ik (k : Nat) : Key := Sum.inl (k : Int)
theorem ik_inj {k j : Nat} : ik k = ik j ↔ k = j := by
  constructor
  · intro h
    injection h with h
    omega
  · rintro rfl
    rfl
theorem ndV_val (k : Nat) : ∀ d : ND, valV (ndV d) (ik k) = (ndGet d k).map fun (n : Nat) => V.int (n : Int)
  | [] => rfl
  | p :: d => by
    rw [WB.ndGet_cons]
    by_cases h : p.1 = k
    · rw [if_pos h]
      exact valV_pos (ik_inj.mpr h)
    · rw [if_neg h, ← ndV_val k d]
      exact valV_neg fun q => h (ik_inj.mp q)
theorem ndV_len (d : ND) : (ndV d).length = d.length := by
  unfold ndV
  rw [List.length_map]
theorem ndV_put (d : ND) (k v : Nat) : putK (ndV d) (ik k) (V.int (v : Int)) = ndV (ndPut d k v) := by
  have e : ((ndV d).any fun kv => decide (kv.1 = ik k)) = d.any fun p => decide (p.1 = k) := by
    unfold ndV
    rw [List.any_map]
    congr 1
    funext p
    show decide (ik p.1 = ik k) = decide (p.1 = k)
    rw [decide_eq_decide]
    exact ik_inj
  unfold putK ndPut
  rw [e]
  split
  · unfold ndV
    rw [List.map_map, List.map_map]
    refine List.map_congr_left fun p _ => ?_
    show (if ik p.1 = ik k then (ik p.1, V.int (v : Int)) else (ik p.1, V.int (p.2 : Int))) = (ik (if p.1 = k then (p.1, v) else p).1, V.int (((if p.1 = k then (p.1, v) else p).2 : Nat) : Int))
    by_cases h : p.1 = k
    · rw [if_pos (ik_inj.mpr h), if_pos h]
    · rw [if_neg fun q => h (ik_inj.mp q), if_neg h]
  · unfold ndV
    rw [List.map_append]
    rfl
section
variable {P : Program} {w : World} {K : PySem.W.Frag} {mg : Str → Option Value} {base : Heap} {C : Addr}
/-! ### go_edge -/
def spGo : Sp := fun vs H Q _ => ∃ (p : Addr) (d : ND) (x y l : Nat), vs = [.ref p, .int (x : Int), .int (y : Int), .int (l : Int)] ∧ H p = some (.dK (ndV d)) ∧ d.length < 1000 ∧
  ∀ H' : Hp, H' p = some (.dK (ndV (WB.relax d x y l))) → (∀ b, b ≠ p → H' b = H b) → Q .non H'
theorem scGo : FnScope ["lengths", "x", "y", "length"] ["lengths", "x", "y", "length"] (defScope sGo) := ⟨rfl, rfl, rfl, by decide +kernel, rfl, by decide +kernel, by decide +kernel⟩
theorem ok_go {f : Addr} {fd : FuncData} (F : Fun K "go_edge" "go_edge" sGo f fd) : FnOk P w K mg base CX0 1 f fd ["lengths", "x", "y", "length"] spGo := by
  refine F.ok scGo (fun vs H Q E h => ?_) (fun cdv A outer s H vs Q E hr h => ?_)
  · obtain ⟨p, d, x, y, l, rfl, _⟩ := h
    rfl
  · obtain ⟨p, d, x, y, l, rfl, hp, hz, k⟩ := h
    have hu := hu_of hr
    refine ⟨_, pss_cons (ps_if (pt_cmp (pc_dnotin hu (pv 1) (pv 0))) (pss_one ps_retN) pss_nil)
      (pss_one (ps_if (PW.pt (pw_or (pt_cmp (pc_dnotin hu (pv 2) (pv 0))) (pw_or1 (pt_cmpR op_lt (pe_op op_add (pe_dget hu (pv 0) (pv 1) (fun _ _ => rfl)) (pv 3)) (pe_dget hu (pv 0) (pv 2) (fun _ _ => rfl)) (nomark _)))))
        (pss_one (ps_dput hu (pv 0) (pv 2) (pe_op op_add (pe_dget hu (pv 0) (pv 1) (fun _ _ => rfl)) (pv 3)) rfl)) pss_nil)), ?_⟩
    refine ⟨_, rfl, _, rfl, p, _, rfl, DGet.k (k := ik x) hp, _, rfl, ?_⟩
    rw [ndV_val]
    unfold WB.relax at k
    cases ex : ndGet d x with
    | none =>
      rw [ex] at k
      exact iteT (k H hp fun _ _ => rfl)
    | some a =>
      rw [ex] at k
      dsimp only at k
      refine iteF ?_
      have gx : DGet H p (.int (x : Int)) (some (.int (a : Int))) := by
        have q := DGet.k (k := ik x) hp
        rw [ndV_val, ex] at q
        exact q
      refine ⟨_, rfl, _, rfl, p, _, rfl, DGet.k (k := ik y) hp, _, rfl, ?_⟩
      rw [ndV_val]
      cases ey : ndGet d y with
      | none =>
        rw [ey] at k
        refine iteT (iteT ?_)
        refine ⟨_, rfl, _, rfl, p, _, rfl, gx, _, rfl, _, _, rfl, rfl, _, rfl, _, rfl, p, _, rfl, DPut.k (k := ik y) hp (by rw [ndV_len, sizeLine_eq]; omega), ?_⟩
        refine k _ ?_ fun b hb => upd_ne hb
        rw [upd_same, ← ndV_put]
        rfl
      | some b =>
        rw [ey] at k
        dsimp only at k
        have gy : DGet H p (.int (y : Int)) (some (.int (b : Int))) := by
          have q := DGet.k (k := ik y) hp
          rw [ndV_val, ey] at q
          exact q
        refine iteF ⟨_, rfl, _, rfl, p, _, rfl, gx, _, rfl, _, _, rfl, rfl, _, rfl, _, rfl, p, _, rfl, gy, _, _, rfl, rfl, _, rfl, ?_⟩
        by_cases hlt : a + l < b
        · rw [if_pos hlt] at k
          refine yes (by rw [decide_eq_true_eq]; omega) ?_
          refine ⟨_, rfl, _, rfl, p, _, rfl, gx, _, rfl, _, _, rfl, rfl, _, rfl, _, rfl, p, _, rfl, DPut.k (k := ik y) hp (by rw [ndV_len, sizeLine_eq]; omega), ?_⟩
          refine k _ ?_ fun b hb => upd_ne hb
          rw [upd_same, ← ndV_put]
          rfl
        · rw [if_neg hlt] at k
          refine no (by rw [decide_eq_true_eq]; omega) ?_
          exact k H hp fun _ _ => rfl
/-! ### lengths_from -/
theorem find_mem {x y : Nat} : ∀ {es : List Gq05.Edge}, (es.map fun e => (e.src, e.dst)).Nodup → ∀ {e : Gq05.Edge}, e ∈ es → e.src = x → e.dst = y → es.find? (fun e => e.src == x && e.dst == y) = some e
  | [], _, _, h, _, _ => by cases h
  | a :: es, nd, e, h, hx, hy => by
    rw [List.map_cons, List.nodup_cons] at nd
    rcases List.mem_cons.mp h with q | q
    · subst q
      exact List.find?_cons_of_pos (by simp [hx, hy])
    · rw [List.find?_cons_of_neg, find_mem nd.2 q hx hy]
      have : ¬ (a.src = x ∧ a.dst = y) := fun z => nd.1 (List.mem_map.mpr ⟨e, q, by rw [hx, hy, z.1, z.2]⟩)
      intro z
      rw [Bool.and_eq_true, beq_iff_eq, beq_iff_eq] at z
      exact this z
theorem long_mem {g : Gq05.Graph} (o : Ok g) {e : Gq05.Edge} (he : e ∈ g.edges) : Gq05.long? g e.src e.dst = some e.long := by
  unfold Gq05.long?
  rw [find_mem o.nd he rfl rfl]
  rfl
theorem sub_len {l : List Nat} {n : Nat} (nd : l.Nodup) (h : ∀ x ∈ l, x < n) : l.length ≤ n := by
  have := List.Nodup.length_le_of_subset nd (l₂ := List.range n) fun x hx => List.mem_range.mpr (h x hx)
  rw [List.length_range] at this
  exact this
theorem sound_len {g : Gq05.Graph} {s : Nat} {d : ND} (o : Ok g) (hs : 1 ≤ s ∧ s ≤ g.many) (h : WB.Sound g s d) : d.length ≤ 13 := by
  have h1 := sub_len (n := 13) h.nd fun x hx => by
    obtain ⟨a, ha⟩ := Option.isSome_iff_exists.mp (WB.nd_mem.mp hx)
    have := (WB.W_node o hs (h.walk x a ha)).2
    have := o.le
    omega
  rw [List.length_map] at h1
  exact h1
structure GoF (P : Program) (w : World) (K : PySem.W.Frag) (mg : Str → Option Value) (base : Heap) : Prop where
  ex : ∃ f fd, mg "go_edge" = some (.ref f) ∧ PySem.W.keepIn K (.ref f) = true ∧ Binds K fd ["lengths", "x", "y", "length"] [] ∧ FnOk P w K mg base CX0 1 f fd ["lengths", "x", "y", "length"] spGo
def spLens (C : Addr) : Sp := fun vs H Q _ => ∃ (a : Addr) (g : Gq05.Graph) (s : Nat), vs = [.ref a, .int (s : Int)] ∧ GraphAt C H a g ∧ Ok g ∧ (1 ≤ s ∧ s ≤ g.many) ∧
  ∀ (H' : Hp) (p : Addr), Same H H' → H p = none → H' p = some (.dK (ndV (WB.rounds g.edges s (g.many - 1)))) → Q (.ref p) H'
theorem scLens : FnScope ["graph", "start", "lengths", "edges_so_far", "pair"] ["graph", "start"] (defScope sLens) := ⟨rfl, rfl, rfl, by decide +kernel, rfl, by decide +kernel, by decide +kernel⟩
theorem ok_lens {f : Addr} {fd : FuncData} (F : Fun K "lengths_from" "lengths_from" sLens f fd) (T : Txt K mg C) (M : GoF P w K mg base) : FnOk P w K mg base CX0 2 f fd ["graph", "start"] (spLens C) := by
  obtain ⟨fg, fdg, mgg, kg, bg, G⟩ := M.ex
  refine F.ok scLens (fun vs H Q E h => ?_) (fun cdv A outer s H vs Q E hr h => ?_)
  · obtain ⟨a, g, s, rfl, _⟩ := h
    rfl
  · obtain ⟨a, g, st, rfl, ⟨dx, d, h1, h2⟩, ok, hst, k⟩ := h
    have hu := hu_of hr
    refine ⟨_, pss_cons (ps_set (i := 2) scLens.nd rfl (Or.inl rfl) (pe_disp (pps_cons (pv 1) pe_int pps_nil) (by rfl) (by rfl) (fun z => by cases z) (by decide)))
      (pss_cons (ps_for PassesOwn.never rfl (pi_range2 (by rfl) T.range (pa_cons pe_int (pa_cons (pe_fld (pv 0) rfl) pa_nil))) (pg_name (i := 3) scLens.nd rfl (Or.inl rfl))
        (pss_one (ps_lock (ps_for PassesOwn.never rfl (pi_keys (pe_fld (pv 0) rfl)) (pg_name (i := 4) scLens.nd rfl (Or.inl rfl))
          (pss_one (ps_expr (pe_call G hr rfl mgg kg bg .nil pass0 (pa_cons (pv 2) (pa_cons (pe_ix ix_tup (pv 4) pe_int (fun _ _ => rfl)) (pa_cons (pe_ix ix_tup (pv 4) pe_int (fun _ _ => rfl)) (pa_cons (pe_dget hu (pe_fld (pv 0) rfl) (pv 4) (fun _ _ => rfl)) pa_nil)))))))))))
      (pss_one (ps_ret (pv 2)))), ?_⟩
    -- lengths = {start: 0}
    intro p hp
    refine ⟨_, rfl, upd_same, [(ik st, .int 0)], rfl, (by show 1 ≤ 15; decide), ?_⟩
    have s1 : Same H (upd (upd H p (.dK [])) p (.dK (ndV (WB.rounds g.edges st 0)))) := fun b o e => by
      have hb := ne_of_none e hp
      rw [upd_ne hb, upd_ne hb]
      exact e
    have nad : a ≠ d := ne_of h1 h2 (by intro z; cases z)
    have npa : p ≠ a := fun z => by rw [z, h1] at hp; cases hp
    have npd : p ≠ d := fun z => by rw [z, h2] at hp; cases hp
    -- for edges_so_far in range(1, graph.node_total)
    refine ⟨_, rfl, a, C, dx, _, _, rfl, (upd_ne (Ne.symm npa)).trans ((upd_ne (Ne.symm npa)).trans h1), T.cl, T.nT, gf_total _ _, 1, _, rfl, ⟨by decide, by decide, by have := ok.le; omega, by have := ok.le; omega⟩, ?_⟩
    have en : ((g.many : Int) - 1).toNat = g.many - 1 := by omega
    refine for_range (lo := 1) (n := ((g.many : Int) - 1).toNat) (fun i σ H' => ∃ v3 v4 : Option V, σ = [some (.ref a), some (.int (st : Int)), some (.ref p), v3, v4] ∧ Same H H' ∧ H' p = some (.dK (ndV (WB.rounds g.edges st i))))
      ⟨none, none, rfl, s1, upd_same⟩ ?_ ?_
    · rintro i σ H1 hi ⟨v3, v4, rfl, s2, hp2⟩
      -- the edges are locked
      refine ⟨d, _, s2 _ _ h2, trivial, fun od => ?_⟩
      refine ⟨_, rfl, a, C, dx, _, _, rfl, (upd_ne nad).trans (s2 _ _ h1), T.cl, T.nE, gf_edges _ _, d, od, rfl, .inr ⟨_, upd_same, ?_⟩⟩
      refine for_it walk_keysT (fun j σ H2 => ∃ v4 : Option V, σ = [some (.ref a), some (.int (st : Int)), some (.ref p), some (.int (1 + (i : Int))), v4] ∧ (∀ b o, H b = some o → b ≠ d → H2 b = some o) ∧ H2 d = some (.frz od (.dT (edgeKV g.edges))) ∧
          H2 p = some (.dK (ndV ((g.edges.take j).foldl (fun d e => WB.relax d e.src e.dst e.long) (WB.rounds g.edges st i))))) ?_ (fun j σ H2 _ ⟨_, _, _, q, _⟩ => q) ?_ ?_
      · refine ⟨v4, rfl, fun b o e hb => (upd_ne hb).trans (s2 _ _ e), upd_same, ?_⟩
        rw [upd_ne npd, hp2]
        rfl
      · rintro j x σ H2 H3 hj ⟨v5, rfl, s3, hd2, hp3⟩ ⟨rfl, kk, vv, q, hkv, rfl, hq⟩
        obtain ⟨e, he, hee⟩ : ∃ e, g.edges[j]? = some e ∧ (ek e.src e.dst, V.int (e.long : Int)) = (kk, vv) := by
          unfold edgeKV at hkv
          rw [List.getElem?_map, Option.map_eq_some_iff] at hkv
          exact hkv
        injection hee with e1 e2
        subst e1
        subst e2
        have hm : e ∈ g.edges := List.mem_of_getElem? he
        have snd : WB.Sound g st ((g.edges.take j).foldl (fun d e => WB.relax d e.src e.dst e.long) (WB.rounds g.edges st i)) := WB.fold_sound ok _ _ (fun x hx => List.mem_of_mem_take hx) (WB.rounds_sound ok i)
        have hl := sound_len ok hst snd
        refine ⟨_, rfl, _, rfl, q, _, _, _, rfl, rfl, SqT.of hq, atI_nat (j := 0) rfl, _, rfl, q, _, _, _, rfl, rfl, SqT.of hq, atI_nat (j := 1) rfl,
          _, rfl, a, C, dx, _, _, rfl, s3 _ _ h1 nad, T.cl, T.nE, gf_edges _ _, _, rfl, d, _, rfl, .inr ⟨_, ek e.src e.dst, q, .inr ⟨od, hd2⟩, rfl, hq, ?_⟩, p, _, e.src, e.dst, e.long, rfl, hp3, by omega, fun H4 hp4 hk4 => ?_⟩
        · rw [long_val, long_mem ok hm]
          rfl
        · refine ⟨_, rfl, fun b o e hb => ?_, ?_, ?_⟩
          · rw [hk4 b (ne_of_none e hp)]
            exact s3 b o e hb
          · rw [hk4 d (Ne.symm npd)]
            exact hd2
          · rw [hp4, List.take_add_one, he, List.foldl_append]
            rfl
      · rintro σ H2 ⟨v5, rfl, s3, hd2, hp3⟩
        rw [edgeKV_len, List.take_length] at hp3
        refine ⟨hd2, _, _, rfl, fun b o e => ?_, (upd_ne npd).trans hp3⟩
        by_cases hb : b = d
        · rw [hb, upd_same]
          rw [hb, h2] at e
          exact e
        · rw [upd_ne hb]
          exact s3 b o e hb
    · rintro σ H1 ⟨v3, v4, rfl, s2, hp2⟩
      refine ⟨_, rfl, ?_⟩
      rw [en] at hp2
      exact k H1 p s2 hp hp2
end
end WF
end
section
set_option Elab.async false
set_option linter.all false
set_option maxRecDepth 100000
set_option maxHeartbeats 4000000
namespace WF
open PySem PySem.Spec PyProof.Rows L2
open WB (Ok ND ndGet ndPut)
section
variable {P : Program} {w : World} {K : PySem.W.Frag} {mg : Str → Option Value} {base : Heap} {C : Addr}
/-! ### nodes_before -/
def isBef (g : Gq05.Graph) (L : ND) (e b x : Nat) : Bool := match Gq05.long? g x e, ndGet L x with
  | some l, some a => decide (a + l = b)
  | _, _ => false
def befs (g : Gq05.Graph) (L : ND) (e b : Nat) : List Nat := (L.map fun p => p.1).filter (isBef g L e b)
def natsV (l : List Nat) : List V := l.map fun (n : Nat) => V.int (n : Int)
def spBef (C : Addr) : Sp := fun vs H Q _ => ∃ (a p : Addr) (g : Gq05.Graph) (L : ND) (e b : Nat), vs = [.ref a, .ref p, .int (e : Int)] ∧ GraphAt C H a g ∧ H p = some (.dK (ndV L)) ∧ (L.map fun p => p.1).Nodup ∧ L.length < 1000 ∧ ndGet L e = some b ∧
  ∀ (H' : Hp) (q : Addr), Same H H' → H q = none → H' q = some (.lst (natsV (befs g L e b))) → Q (.ref q) H'
theorem scBef : FnScope ["graph", "lengths", "end", "x"] ["graph", "lengths", "end"] (defScope sBef) := ⟨rfl, rfl, rfl, by decide +kernel, rfl, by decide +kernel, by decide +kernel⟩
theorem ndGet_at {L : ND} (nd : (L.map fun p => p.1).Nodup) {i : Nat} {x a : Nat} (h : L[i]? = some (x, a)) : ndGet L x = some a := by
  induction L generalizing i with
  | nil => simp at h
  | cons p L ih =>
    rw [List.map_cons, List.nodup_cons] at nd
    rw [WB.ndGet_cons]
    cases i with
    | zero =>
      have e : p = (x, a) := Option.some.inj h
      rw [e, if_pos rfl]
    | succ i =>
      have h : L[i]? = some (x, a) := h
      rw [if_neg, ih nd.2 h]
      intro q
      rw [q] at nd
      exact nd.1 (List.mem_map.mpr ⟨(x, a), List.mem_of_getElem? h, rfl⟩)
/-- the reading of nodes_before's test -/
def ttBef (K : PySem.W.Frag) : TT := tAnd (tB (tDIn (tTup (tCons (tVar 3) (tCons (tVar 2) tNil))) (tFld K (tVar 0) "edges")))
  (tTest (tOp rEq (tOp (rI0 fun i j => .int (i + j)) (tDGet (tVar 1) (tVar 3)) (tDGet (tFld K (tVar 0) "edges") (tTup (tCons (tVar 3) (tCons (tVar 2) tNil))))) (tDGet (tVar 1) (tVar 2))))
theorem ok_bef {f : Addr} {fd : FuncData} (F : Fun K "nodes_before" "nodes_before" sBef f fd) (T : Txt K mg C) : FnOk P w K mg base CX0 1 f fd ["graph", "lengths", "end"] (spBef C) := by
  refine F.ok scBef (fun vs H Q E h => ?_) (fun cdv A outer s H vs Q E hr h => ?_)
  · obtain ⟨a, p, g, L, e, b, rfl, _⟩ := h
    rfl
  · obtain ⟨a, p, g, L, e, b, rfl, ⟨dx, d, h1, h2⟩, hp, nd, hz, heb, k⟩ := h
    have hu := hu_of hr
    refine ⟨_, pss_one (ps_ret (pe_lock (pe_lc (own := [("x", 3)]) (g := gName 3) (tt := ttBef K) rfl scBef.nd (pi_keys (pv 1)) (blkOk_by (own := [("x", 3)]) (N := ["graph", "lengths", "end", "x"]) (sc := defScope sBef) (by decide +kernel))
      (fun _ _ _ _ _ => pg_name (i := 3) scBef.nd rfl (Or.inl rfl))
      (fun _ _ _ _ _ => pts_one (PW.pt (pw_and (pt_cmp (pc_din hu (pe_tup (pa_cons (pv 3) (pa_cons (pv 2) pa_nil))) (pe_fld (pv 0) rfl)))
        (pw_and1 (pt_cmpR op_eq (pe_op op_add (pe_dget hu (pv 1) (pv 3) (fun _ _ => rfl)) (pe_dget hu (pe_fld (pv 0) rfl) (pe_tup (pa_cons (pv 3) (pa_cons (pv 2) pa_nil))) (fun _ _ => rfl))) (pe_dget hu (pv 1) (pv 2) (fun _ _ => rfl)) (nomark _))))))
      (fun _ _ _ _ _ => pv 3)))), ?_⟩
    refine ⟨p, _, hp, trivial, fun od => ?_⟩
    refine ⟨_, rfl, p, od, rfl, .inl ⟨_, upd_same, fun D hD => ?_⟩⟩
    have npa : a ≠ p := ne_of h1 hp (by intro z; cases z)
    have npd : d ≠ p := ne_of h2 hp (by intro z; cases z)
    have nDp : D ≠ p := fun z => by rw [z, upd_same] at hD; cases hD
    have hD0 : H D = none := (upd_ne nDp).symm.trans hD
    refine lc_it walk_keys (fun i H1 => (∀ b o, H b = some o → b ≠ p → H1 b = some o) ∧ H1 p = some (.frz od (.dK (ndV L))) ∧ H1 D = some (.lst (natsV (((L.map fun p => p.1).take i).filter (isBef g L e b))))) ?_ (fun i H1 _ q => q.2.1) ?_ ?_
    · refine ⟨fun c o q hc => ?_, (upd_ne (Ne.symm nDp)).trans upd_same, upd_same⟩
      rw [upd_ne (ne_of_none q hD0), upd_ne hc]
      exact q
    · rintro i x H1 HY hi ⟨s1, hp1, hD1⟩ ⟨rfl, kk, vv, hkv, rfl⟩
      obtain ⟨y, c, hy, hee⟩ : ∃ y c, L[i]? = some (y, c) ∧ (ik y, V.int (c : Int)) = (kk, vv) := by
        unfold ndV at hkv
        rw [List.getElem?_map, Option.map_eq_some_iff] at hkv
        obtain ⟨z, hz1, hz2⟩ := hkv
        exact ⟨z.1, z.2, hz1, hz2⟩
      injection hee with e1 e2
      subst e1
      subst e2
      have gy : ndGet L y = some c := ndGet_at nd hy
      have tk : (L.map fun p => p.1).take (i + 1) = (L.map fun p => p.1).take i ++ [y] := by
        rw [List.take_add_one, List.getElem?_map, hy]
        rfl
      have nDy : ∀ {q : Addr} {o : HO}, HY q = none → D ≠ q := fun h z => by rw [← z, hD1] at h; cases h
      refine ⟨rfl, ?_⟩
      refine ⟨_, rfl, _, rfl, (by show 2 ≤ sizeLine; decide), fun t ht => ?_⟩
      have s2 := same_upd (o := .tup [V.int (y : Int), V.int (e : Int)]) ht
      refine ⟨_, rfl, a, C, dx, _, _, rfl, s2 _ _ (s1 _ _ h1 npa), T.cl, T.nE, gf_edges _ _, d, _, rfl, DGet.t (k := ek y e) (s2 _ _ (s1 _ _ h2 npd)) upd_same, _, rfl, ?_⟩
      rw [long_val]
      have fin : ∀ (H3 : Hp), Same HY H3 → isBef g L e b y = false → (∀ c o, H c = some o → c ≠ p → H3 c = some o) ∧ H3 p = some (.frz od (.dK (ndV L))) ∧ H3 D = some (.lst (natsV (((L.map fun p => p.1).take (i + 1)).filter (isBef g L e b)))) := fun H3 s3 hb => by
        refine ⟨fun c o q hc => s3 _ _ (s1 c o q hc), s3 _ _ hp1, ?_⟩
        rw [tk, List.filter_append, List.filter_cons, if_neg (by rw [hb]; simp), List.filter_nil, List.append_nil]
        exact s3 _ _ hD1
      cases el : Gq05.long? g y e with
      | none =>
        refine iteF (iteF ?_)
        exact fin _ s2 (by unfold isBef; rw [el])
      | some l =>
        refine iteT ?_
        have gp : ∀ {H3 : Hp} {z v : Nat}, H3 p = some (.frz od (.dK (ndV L))) → ndGet L z = some v → DGet H3 p (.int (z : Int)) (some (.int (v : Int))) := fun {H3 z v} h hz => .inl ⟨_, ik z, .inr ⟨od, h⟩, rfl, by rw [ndV_val, hz]; rfl⟩
        refine ⟨_, rfl, _, rfl, p, _, rfl, gp (s2 _ _ hp1) gy, _, rfl, a, C, dx, _, _, rfl, s2 _ _ (s1 _ _ h1 npa), T.cl, T.nE, gf_edges _ _, _, rfl, _, rfl, (by show 2 ≤ sizeLine; decide), fun t2 ht2 => ?_⟩
        have s3 := s2.trans (same_upd (o := .tup [V.int (y : Int), V.int (e : Int)]) ht2)
        refine ⟨d, V.int (l : Int), rfl, ?_, _, _, rfl, rfl, _, rfl, _, rfl, p, _, rfl, gp (s3 _ _ hp1) heb, rfl, _, rfl, ?_⟩
        · have q := DGet.t (k := ek y e) (s3 _ _ (s1 _ _ h2 npd)) (upd_same (H := upd HY t (.tup [V.int (y : Int), V.int (e : Int)])) (a := t2) (o := .tup [V.int (y : Int), V.int (e : Int)]))
          rw [long_val, el] at q
          exact q
        · by_cases hcl : c + l = b
          · refine yes (by rw [decide_eq_true_eq, ← hcl]; rfl) ?_
            refine ⟨_, rfl, _, s3 _ _ hD1, ?_, ?_, ?_, ?_⟩
            · have : (natsV (((L.map fun p => p.1).take i).filter (isBef g L e b))).length ≤ L.length := by
                unfold natsV
                rw [List.length_map]
                refine Nat.le_trans (List.length_filter_le ..) ?_
                rw [List.length_take, List.length_map]
                exact Nat.min_le_right ..
              rw [sizeLine_eq]
              omega
            · intro c' o q hc
              have q2 := s3 _ _ (s1 c' o q hc)
              rw [upd_ne (ne_of_none q hD0)]
              exact q2
            · rw [upd_ne (Ne.symm nDp)]
              exact s3 _ _ hp1
            · rw [upd_same, tk, List.filter_append, List.filter_cons, if_pos (by unfold isBef; rw [el, gy]; simpa using hcl), List.filter_nil]
              unfold natsV
              rw [List.map_append]
              rfl
          · refine no (by
              rw [decide_eq_true_eq]
              intro z
              injection z with z
              omega) ?_
            exact fin _ s3 (by unfold isBef; rw [el, gy]; simpa using hcl)
    · rintro H1 ⟨s1, hp1, hD1⟩
      refine ⟨hp1, ?_⟩
      rw [ndV_len, List.take_of_length_le (by rw [List.length_map]; exact Nat.le_refl _)] at hD1
      refine k _ D (fun c o q => ?_) hD0 ((upd_ne nDp).trans hD1)
      by_cases hc : c = p
      · rw [hc, upd_same]
        rw [hc, hp] at q
        exact q
      · rw [upd_ne hc]
        exact s1 c o q hc
end
end WF
end
section
set_option Elab.async false
set_option linter.all false
set_option maxRecDepth 100000
set_option maxHeartbeats 4000000
namespace WF
open PySem PySem.Spec PyProof.Rows L2
open WB (Ok ND ndGet ndPut IsD W Lens)
/-! ### the mathematics of totals_from -/
def cntL (es : List Gq05.Edge) (s : Nat) (L : ND) (x : Nat) : Nat := W es s x ((ndGet L x).getD 0)
section
variable {g : Gq05.Graph} {s : Nat} {L : ND}
theorem bef_of {e b x : Nat} (h : x ∈ befs g L e b) : ∃ l a, Gq05.long? g x e = some l ∧ ndGet L x = some a ∧ a + l = b := by
  unfold befs at h
  have h := (List.mem_filter.mp h).2
  unfold isBef at h
  split at h
  · rename_i l a h1 h2
    exact ⟨l, a, h1, h2, by simpa using h⟩
  · cases h
theorem befs_sum (o : Ok g) (hL : Lens g.edges s L) {e b : Nat} (h : IsD g.edges s e b) (hn : e ≠ s) : W g.edges s e b = ((befs g L e b).map (cntL g.edges s L)).sum := by
  have key : ∀ x l a, Gq05.long? g x e = some l → ndGet L x = some a → a + l ≠ b → l ≤ b → W g.edges s x (b - l) = 0 := fun x l a h1 h2 h3 h4 => by
    rcases Nat.eq_zero_or_pos (W g.edges s x (b - l)) with q | q
    · exact q
    · obtain ⟨f, hf, f1, f2, f3⟩ := WB.long_some h1
      have hD : IsD g.edges s x (b - l) := ⟨q, fun M hM => by
        rcases Nat.eq_zero_or_pos (W g.edges s x M) with r | r
        · exact r
        · have h5 := WB.W_step o hf (s := s) M
          rw [f1, f2, f3] at h5
          have := h.2 (M + l) (by omega)
          omega⟩
      have := hD.uniq ((hL.iff x a).mp h2)
      omega
  rw [WB.count_into o h hn hL.nd fun x a ha => WB.nd_mem.mpr (by rw [(hL.iff x a).mpr ha]; rfl)]
  unfold befs
  rw [← WB.sum_if]
  refine WB.sum_congr _ fun x hx => ?_
  obtain ⟨a, ha⟩ := Option.isSome_iff_exists.mp (WB.nd_mem.mp hx)
  unfold isBef cntL
  rw [ha]
  cases hl : Gq05.long? g x e with
  | none => rfl
  | some l =>
    dsimp only [Option.getD_some]
    by_cases hb : a + l = b
    · rw [if_pos (show l ≤ b by omega), if_pos (show decide (a + l = b) = true by simpa using hb), show b - l = a by omega]
    · rw [if_neg (show ¬ decide (a + l = b) = true by simpa using hb)]
      split
      · exact key x l a hl ha hb (by assumption)
      · rfl
/-- what stands in totals when the ends `done` are through -/
structure TotsAt (es : List Gq05.Edge) (s : Nat) (done : List Nat) (t : ND) : Prop where
  nd : (t.map fun p => p.1).Nodup
  iff : ∀ y c, ndGet t y = some c ↔ (y = s ∨ y ∈ done) ∧ ∃ b, IsD es s y b ∧ c = W es s y b
theorem tots_start (es : List Gq05.Edge) (s : Nat) : TotsAt es s [] [(s, 1)] := by
  refine ⟨by simp, fun y c => ?_⟩
  rw [WB.ndGet_cons]
  constructor
  · intro h
    split at h
    · rename_i q
      have q : s = y := q
      cases h
      exact ⟨.inl q.symm, 0, q ▸ IsD.self es s, by rw [← q, WB.W_start]⟩
    · cases h
  · rintro ⟨q | q, b, hb, hc⟩
    · subst q
      have := hb.uniq (IsD.self es y)
      subst this
      rw [if_pos rfl, hc, WB.W_start]
    · cases q
theorem tots_same {es : List Gq05.Edge} {done : List Nat} {t : ND} (h : TotsAt es s done t) : TotsAt es s (done ++ [s]) t := by
  refine ⟨h.nd, fun y c => (h.iff y c).trans ⟨fun ⟨q, r⟩ => ⟨q.elim .inl fun z => .inr (List.mem_append_left _ z), r⟩, fun ⟨q, r⟩ => ⟨q.elim .inl fun z => ?_, r⟩⟩⟩
  rcases List.mem_append.mp z with z | z
  · exact .inr z
  · exact .inl (by simpa using z)
theorem tots_put {es : List Gq05.Edge} {done : List Nat} {t : ND} (h : TotsAt es s done t) {e b : Nat} (he : IsD es s e b) : TotsAt es s (done ++ [e]) (ndPut t e (W es s e b)) := by
  refine ⟨WB.nd_nodup _ _ h.nd, fun y c => ?_⟩
  rw [WB.ndGet_put]
  by_cases hy : y = e
  · subst hy
    rw [if_pos rfl]
    constructor
    · intro q
      cases q
      exact ⟨.inr (List.mem_append_right _ (by simp)), b, he, rfl⟩
    · rintro ⟨_, b', hb', hc⟩
      rw [hc, hb'.uniq he]
  · rw [if_neg hy, h.iff]
    constructor
    · rintro ⟨q, r⟩
      exact ⟨q.elim .inl fun z => .inr (List.mem_append_left _ z), r⟩
    · rintro ⟨q, r⟩
      refine ⟨q.elim .inl fun z => ?_, r⟩
      rcases List.mem_append.mp z with z | z
      · exact .inr z
      · exact absurd (by simpa using z) hy
/-- **the dict of totals** -/
structure Cnts (es : List Gq05.Edge) (s : Nat) (t : ND) : Prop where
  nd : (t.map fun p => p.1).Nodup
  iff : ∀ y c, ndGet t y = some c ↔ ∃ b, IsD es s y b ∧ c = W es s y b
theorem tots_end {es : List Gq05.Edge} {t L' : ND} (hL : Lens es s L) (p : L'.Perm L) (h : TotsAt es s (L'.map fun p => p.1) t) : Cnts es s t := by
  refine ⟨h.nd, fun y c => (h.iff y c).trans ⟨fun q => q.2, fun ⟨b, hb, hc⟩ => ⟨.inr ?_, b, hb, hc⟩⟩⟩
  have : y ∈ L.map fun p => p.1 := WB.nd_mem.mpr (by rw [(hL.iff y b).mpr hb]; rfl)
  exact (p.map _).mem_iff.mpr this
/-- the nodes ahead of an end are through when the end's turn comes -/
theorem befs_done (o : Ok g) {L' : ND} (p : L'.Perm L) (nd : (L.map fun p => p.1).Nodup) (srt : (L'.map fun p => p.2).Pairwise (· ≤ ·)) {i e b x : Nat} (he : L'[i]? = some (e, b)) (hx : x ∈ befs g L e b) : x ∈ (L'.take i).map fun p => p.1 := by
  obtain ⟨l, a, h1, h2, h3⟩ := bef_of hx
  obtain ⟨f, hf, f1, f2, f3⟩ := WB.long_some h1
  have hl := (o.ed f hf).2.2.2.1
  have hm : (x, a) ∈ L' := by
    refine p.mem_iff.mpr ?_
    unfold ndGet at h2
    rw [Option.map_eq_some_iff] at h2
    obtain ⟨q, hq, hqa⟩ := h2
    have := List.find?_some hq
    have e1 : q.1 = x := by simpa using this
    have : q = (x, a) := by rw [← e1, ← hqa]
    rw [← this]
    exact List.mem_of_find?_eq_some hq
  obtain ⟨j, hj⟩ := List.mem_iff_getElem?.mp hm
  have hji : j < i := by
    rcases Nat.lt_or_ge j i with q | q
    · exact q
    · exfalso
      have hlj := (List.getElem?_eq_some_iff.mp hj).1
      have hli := (List.getElem?_eq_some_iff.mp he).1
      rcases Nat.lt_or_ge i j with r | r
      · have := List.pairwise_iff_getElem.mp srt i j (by simpa using hli) (by simpa using hlj) r
        rw [List.getElem_map, List.getElem_map, (List.getElem?_eq_some_iff.mp hj).2, (List.getElem?_eq_some_iff.mp he).2] at this
        have this : b ≤ a := this
        omega
      · have : i = j := by omega
        subst this
        rw [hj] at he
        cases he
        omega
  refine List.mem_map.mpr ⟨(x, a), ?_, rfl⟩
  exact List.mem_of_getElem? (i := j) (by rw [List.getElem?_take_of_lt hji]; exact hj)
end
/-- what sorted gives: the pairs in some order, lengths rising -/
theorem byKey_nd {L : ND} {ys : List V} (h : WS.ByKey (L.map fun p => (p.2 : Int)) ((L.map fun p => (p.1 : Int)).map V.int) ys) : ∃ L' : ND, L'.Perm L ∧ ys = natsV (L'.map fun p => p.1) ∧ (L'.map fun p => p.2).Pairwise (· ≤ ·) := by
  obtain ⟨ps, p1, rfl, p3⟩ := h
  have ez : ∀ M : ND, (M.map fun p => (p.2 : Int)).zip ((M.map fun p => (p.1 : Int)).map V.int) = M.map fun p => ((p.2 : Int), V.int (p.1 : Int)) := fun M => by
    induction M with
    | nil => rfl
    | cons a M ih =>
      rw [List.map_cons, List.map_cons, List.map_cons, List.zip_cons_cons, ih]
      rfl
  rw [ez] at p1
  have pr : ∀ M : ND, Paired (fun (p : Nat × Nat) (q : Int × V) => q = ((p.2 : Int), V.int (p.1 : Int))) M (M.map fun p => ((p.2 : Int), V.int (p.1 : Int))) := fun M => by
    induction M with
    | nil => exact .nil
    | cons a M ih => exact .cons rfl ih
  obtain ⟨L', q1, q2⟩ := WS.lift_perm p1 (pr L)
  have back : ∀ {M : ND} {qs : List (Int × V)}, Paired (fun (p : Nat × Nat) (q : Int × V) => q = ((p.2 : Int), V.int (p.1 : Int))) M qs → qs = M.map fun p => ((p.2 : Int), V.int (p.1 : Int)) := fun {M qs} h => by
    induction h with
    | nil => rfl
    | cons h _ ih => rw [List.map_cons, h, ih]
  have e := back q2
  subst e
  refine ⟨L', q1, ?_, ?_⟩
  · unfold natsV
    rw [List.map_map, List.map_map]
    rfl
  · rw [List.map_map, List.pairwise_map] at p3
    rw [List.pairwise_map]
    exact p3.imp fun h => by
      have h : ((_ : Nat) : Int) ≤ ((_ : Nat) : Int) := h
      omega
theorem int_sum (l : List Nat) : (l.map fun (n : Nat) => (n : Int)).sum = ((l.sum : Nat) : Int) := by
  induction l with
  | nil => rfl
  | cons a l ih => rw [List.map_cons, List.sum_cons, List.sum_cons, ih, Int.natCast_add]
section
variable {P : Program} {w : World} {K : PySem.W.Frag} {mg : Str → Option Value} {base : Heap} {C : Addr}
/-- a def whose code object is told -/
theorem okC {x qual : Str} {st : Stmt} {f c : Addr} {fd : FuncData} {N ps : List Str} {k : Nat} {sp : Sp} (F : Fun K x qual st f fd) (hc : fd.code = .ref c) (S : FnScope N ps (defScope st)) (len : ∀ vs H Q E, sp vs H Q E → vs.length = ps.length)
    (hbody : ∀ (A : Around) (outer : List Env) (s : Shared) (H : Hp) (vs : List V) (Q : VK) (E : XK), Room k (A.deeper (envOfC qual (defScope st) s.heap.objs.size f (.ref c))) → sp vs H Q E →
      ∃ t, PSs (cxOf CX0 P w K mg base N qual (defScope st) f (.ref c) A outer s H E).nox (defBody st) t ∧ t { nx := fun _ H' => Q .non H', rt := Q } (start N vs) H) : FnOk P w K mg base CX0 (k + 1) f fd ps sp := by
  obtain ⟨_, _, _, _, _, _, cdv, _, _, rfl, lk, hcd⟩ := F.ex
  obtain rfl : cdv = .ref c := hc
  refine fn_of lk hcd S len fun Ar outer s H vs Q E hr hsp => ?_
  obtain ⟨t, h, q⟩ := hbody Ar outer s H vs Q E hr hsp
  exact ⟨t, h.nox, q⟩
def lamQ : Str := ((("totals_from" : Str) ++ ".<locals>.") ++ "<lambda>")
/-- the lambda's table is among those tracked -/
structure TabT (base : Heap) (mg : Str → Option Value) (T : List (Addr × Str)) (c : Addr) (q : Str) : Prop where
  ex : ∃ P, LamX.TabB base mg c P ∧ (P, q) ∈ T ∧ ∀ p ∈ T, p.1 = P → p.2 = q
structure BefF (P : Program) (w : World) (K : PySem.W.Frag) (mg : Str → Option Value) (base : Heap) (C : Addr) : Prop where
  ex : ∃ f fd, mg "nodes_before" = some (.ref f) ∧ PySem.W.keepIn K (.ref f) = true ∧ Binds K fd ["graph", "lengths", "end"] [] ∧ FnOk P w K mg base CX0 1 f fd ["graph", "lengths", "end"] (spBef C)
def spTots (C : Addr) (T : List (Addr × Str)) : Sp := fun vs H Q _ => ∃ (a p : Addr) (g : Gq05.Graph) (s : Nat) (L : ND), vs = [.ref a, .int (s : Int), .ref p] ∧ GraphAt C H a g ∧ Ok g ∧ (1 ≤ s ∧ s ≤ g.many) ∧ H p = some (.dK (ndV L)) ∧ Lens g.edges s L ∧ LamX.Tabs T H ∧
  ∀ (H' : Hp) (q : Addr) (t : ND), LamX.ExtN H H' → LamX.Tabs T H' → H q = none → H' q = some (.dK (ndV t)) → Cnts g.edges s t → Q (.ref q) H'
theorem scTots : FnScope ["graph", "start", "lengths", "totals", "end", "x"] ["graph", "start", "lengths"] (defScope sTots) := ⟨rfl, rfl, rfl, by decide +kernel, rfl, by decide +kernel, by decide +kernel⟩
theorem ok_tots {f c : Addr} {fd : FuncData} {T : List (Addr × Str)} (F : Fun K "totals_from" "totals_from" sTots f fd) (hc : fd.code = .ref c) (X : Txt K mg C) (hsorted : mg "sorted" = none) (hsum : mg "sum" = none) (TT : TabT base mg T c lamQ) (M : BefF P w K mg base C) :
    FnOk P w K mg base CX0 4 f fd ["graph", "start", "lengths"] (spTots C T) := by
  obtain ⟨fg, fdg, mgg, kg, bg, G⟩ := M.ex
  obtain ⟨PT, TB, hm, hu⟩ := TT.ex
  refine okC F hc scTots (fun vs H Q E h => ?_) (fun A outer s H vs Q E hr h => ?_)
  · obtain ⟨a, p, g, s, L, rfl, _⟩ := h
    rfl
  · obtain ⟨a, p, g, st, L, rfl, ⟨dx, d, h1, h2⟩, ok, hst, hp, hL, hT, k⟩ := h
    have hun := hu_of hr
    have hr1 : Room 1 _ := hr.mono (by decide)
    refine ⟨_, pss_cons (ps_set (i := 3) scTots.nd rfl (Or.inr rfl) (pe_disp (pps_cons (pv 1) pe_int pps_nil) (by rfl) (by rfl) (fun z => by cases z) (by decide)))
      (pss_cons (ps_for PassesOwn.never rfl (pi_list (WS.pe_sortLam (x := "x") (N := ["x", "lengths"]) (fr := ["lengths"]) (js := [2]) (k := 0) (tb := tDGet (tVar 1) (tVar 0)) (WS.gathers_dict rfl) (pa_cons (pv 2) pa_nil) rfl hsorted TB rfl hm hu rfl (NdefX.nscope_by (by decide +kernel)) (show ∀ y : Str × NameKind, y ∈ _ → y.2 = NameKind.free → (defScope sTots).names.lookup y.1 = some .cell ∨ (defScope sTots).names.lookup y.1 = some .free by decide +kernel) (by decide +kernel) rfl
          (fun _ _ _ _ _ _ => rfl) hr (fun _ _ _ _ _ _ _ _ hrl => pe_dget (hu_of hrl) (pv 1) (pv 0) (fun _ _ => rfl)))) (pg_name (i := 4) scTots.nd rfl (Or.inl rfl))
        (pss_one (ps_if (pt_cmpR op_ne (pv 4) (pv 1) (nomark _))
          (pss_one (ps_dput hun (pv 3) (pv 4) (pe_callB (cr_sum rfl) (by rfl) hsum (by decide +kernel) (pa_cons (pe_lc (own := [("x", 5)]) (g := gName 5) (tt := tYes) rfl scTots.nd (pi_list (pe_call G hr1 rfl mgg kg bg .nil pass0 (pa_cons (pv 0) (pa_cons (pv 2) (pa_cons (pv 4) pa_nil)))))
            (blkOk_by (own := [("x", 5)]) (N := ["graph", "start", "lengths", "totals", "end", "x"]) (sc := defScope sTots) (by decide +kernel)) (fun _ _ _ _ _ => pg_name (i := 5) scTots.nd rfl (Or.inl rfl)) (fun _ _ _ _ _ => pts_nil) (fun _ _ _ _ _ => pe_dget hun (pv 3) (pv 5) (fun _ _ => rfl))) pa_nil)) rfl)) pss_nil)))
      (pss_one (ps_ret (pv 3)))), ?_⟩
    -- totals = {start: 1}
    intro q hq
    refine ⟨_, rfl, upd_same, [(ik st, .int 1)], rfl, (by show 1 ≤ 15; decide), ?_⟩
    have s1 : Same H (upd (upd H q (.dK [])) q (.dK (mergeK [] [(ik st, .int 1)]))) := fun b o e => by
      have hb := ne_of_none e hq
      rw [upd_ne hb, upd_ne hb]
      exact e
    have hq1 : upd (upd H q (.dK [])) q (.dK (mergeK [] [(ik st, .int 1)])) q = some (.dK (ndV [(st, 1)])) := upd_same
    generalize upd (upd H q (.dK [])) q (.dK (mergeK [] [(ik st, .int 1)])) = H1 at s1 hq1 ⊢
    have hlenL : L.length ≤ 13 := by
      have h3 := sub_len (n := 13) hL.nd fun x hx => by
        obtain ⟨b, hb⟩ := Option.isSome_iff_exists.mp (WB.nd_mem.mp hx)
        have := (WB.W_node ok hst ((hL.iff x b).mp hb).1).2
        have := ok.le
        omega
      rw [List.length_map] at h3
      exact h3
    -- for end in sorted(lengths, key=lambda x: lengths[x])
    refine ⟨_, rfl, p, (L.map fun p => (p.1 : Int)).map V.int, L.map fun p => (p.2 : Int), rfl, ⟨ndV L, L.map fun p => (p.1 : Int), .inl (s1 _ _ hp), ?_, rfl⟩, ?_, ?_, hT.ext s1, ?_, ?_⟩
    · unfold ndV
      rw [List.map_map, List.map_map]
      rfl
    · rw [List.length_map, List.length_map]
      omega
    · rw [List.length_map, List.length_map, List.length_map]
    · intro i x z hx hz H' eN
      rw [List.map_map, List.getElem?_map, Option.map_eq_some_iff] at hx
      rw [List.getElem?_map, Option.map_eq_some_iff] at hz
      obtain ⟨⟨y, c⟩, hy, rfl⟩ := hx
      obtain ⟨y', hy', rfl⟩ := hz
      rw [hy] at hy'
      cases hy'
      refine ⟨.ref p, rfl, .int (y : Int), rfl, p, .int (c : Int), rfl, ?_, rfl, rfl⟩
      have gd := DGet.k (k := ik y) (eN _ _ (s1 _ _ hp) (fun _ z => by cases z))
      rw [ndV_val, ndGet_at hL.nd hy] at gd
      exact gd
    · intro H2 pl ys eN T2 hpl bk
      obtain ⟨L', perm, rfl, srt⟩ := byKey_nd bk
      have up : ∀ {b : Addr} {o : HO}, H b = some o → (∀ ps, o ≠ .tbl ps) → H2 b = some o := fun e n => eN _ _ (s1 _ _ e) n
      have hq2 : H2 q = some (.dK (ndV [(st, 1)])) := eN _ _ hq1 (fun _ z => by cases z)
      have nda : a ≠ q := fun z => by rw [z, hq] at h1; cases h1
      have ndp : p ≠ q := fun z => by rw [z, hq] at hp; cases hp
      have ndd : d ≠ q := fun z => by rw [z, hq] at h2; cases h2
      have ndl : pl ≠ q := ne_of hpl hq2 (by intro z; cases z)
      have a2 := up h1 (fun _ z => by cases z)
      have d2 := up h2 (fun _ z => by cases z)
      have p2 := up hp (fun _ z => by cases z)
      refine ⟨pl, rfl, ⟨_, SqL.of hpl⟩, for_list (K := K) (a := pl) (xs := natsV (L'.map fun p => p.1)) (fun i σ H' => ∃ v4 v5 : Option V, σ = [some (.ref a), some (.int (st : Int)), some (.ref p), some (.ref q), v4, v5] ∧ (∀ b o, H2 b = some o → b ≠ q → H' b = some o) ∧
        ∃ t : ND, H' q = some (.dK (ndV t)) ∧ TotsAt g.edges st ((L'.take i).map fun p => p.1) t) ⟨none, none, rfl, fun _ _ e _ => e, _, hq2, tots_start _ _⟩ (fun i σ H' _ ⟨_, _, _, s3, _⟩ => SqL.of (s3 _ _ hpl ndl)) ?_ ?_⟩
      · rintro i x σ H3 hx ⟨v4, v5, rfl, s3, t, hq3, ht⟩
        obtain ⟨e, b, heb, rfl⟩ : ∃ e b, L'[i]? = some (e, b) ∧ x = V.int (e : Int) := by
          unfold natsV at hx
          rw [List.map_map, List.getElem?_map, Option.map_eq_some_iff] at hx
          obtain ⟨z, hz, rfl⟩ := hx
          exact ⟨z.1, z.2, hz, rfl⟩
        have tk : (L'.take (i + 1)).map (fun p => p.1) = (L'.take i).map (fun p => p.1) ++ [e] := by
          rw [List.take_add_one, heb, List.map_append]
          rfl
        have hmem : (e, b) ∈ L := perm.mem_iff.mp (List.mem_of_getElem? heb)
        have gLe : ndGet L e = some b := by
          obtain ⟨j, hj⟩ := List.mem_iff_getElem?.mp hmem
          exact ndGet_at hL.nd hj
        have hD : IsD g.edges st e b := (hL.iff e b).mp gLe
        refine ⟨_, rfl, _, rfl, rfl, _, rfl, ?_⟩
        by_cases hes : e = st
        · refine no (by simp [hes]) ?_
          refine ⟨_, _, rfl, s3, t, hq3, ?_⟩
          rw [tk, hes]
          exact tots_same ht
        · refine yes (by
            simp only [Bool.not_eq_true', decide_eq_false_iff_not]
            intro z
            injection z with z
            omega) ?_
          -- totals[end] = sum([totals[x] for x in nodes_before(graph, lengths, end)])
          refine ⟨_, rfl, _, rfl, _, rfl, a, p, g, L, e, b, rfl, ⟨dx, d, s3 _ _ a2 nda, s3 _ _ d2 ndd⟩, s3 _ _ p2 ndp, hL.nd, by omega, gLe, fun H4 ql s4 hql hl4 => ?_⟩
          refine ⟨ql, rfl, ⟨_, SqL.of hl4⟩, fun D hD4 => ?_⟩
          have look : ∀ y ∈ befs g L e b, ndGet t y = some (cntL g.edges st L y) := fun y hy => by
            obtain ⟨l, c, _, hyc, _⟩ := bef_of hy
            refine (ht.iff y _).mpr ⟨.inr (befs_done ok perm hL.nd srt heb hy), c, (hL.iff y c).mp hyc, ?_⟩
            unfold cntL
            rw [hyc]
            rfl
          refine lc_list (K := K) (a := ql) (xs := natsV (befs g L e b)) (fun j H5 => Same H4 H5 ∧ H5 D = some (.lst (natsV (((befs g L e b).take j).map (cntL g.edges st L))))) ⟨same_upd hD4, upd_same⟩ (fun j H5 _ q => SqL.of (q.1 _ _ hl4)) ?_ ?_
          · rintro j x H5 hx ⟨s5, hD5⟩
            obtain ⟨y, hy, rfl⟩ : ∃ y, (befs g L e b)[j]? = some y ∧ x = V.int (y : Int) := by
              unfold natsV at hx
              rw [List.getElem?_map, Option.map_eq_some_iff] at hx
              obtain ⟨z, hz, rfl⟩ := hx
              exact ⟨z, hz, rfl⟩
            have gd := DGet.k (k := ik y) (s5 _ _ (s4 _ _ hq3))
            rw [ndV_val, look y (List.mem_of_getElem? hy)] at gd
            refine ⟨rfl, ?_⟩
            change tDGet (tVar 3) (tVar 5) _ H5 _
            refine ⟨_, rfl, _, rfl, q, _, rfl, gd, _, hD5, ?_, ?_, ?_⟩
            · unfold natsV
              rw [List.length_map, List.length_map, List.length_take]
              have : (befs g L e b).length ≤ L.length := by
                unfold befs
                refine Nat.le_trans (List.length_filter_le ..) ?_
                rw [List.length_map]
                exact Nat.le_refl _
              rw [sizeLine_eq]
              omega
            · intro c o z
              rw [upd_ne (ne_of_none z hD4)]
              exact s5 c o z
            · rw [upd_same, List.take_add_one, hy, List.map_append]
              unfold natsV
              rw [List.map_append]
              rfl
          · rintro H5 ⟨s5, hD5⟩
            rw [List.take_of_length_le (by unfold natsV; rw [List.length_map]; exact Nat.le_refl _)] at hD5
            have en : natsV ((befs g L e b).map (cntL g.edges st L)) = (((befs g L e b).map (cntL g.edges st L)).map fun (n : Nat) => (n : Int)).map V.int := by
              unfold natsV
              rw [List.map_map (g := V.int)]
              rfl
            rw [en] at hD5
            refine ⟨D, _, rfl, SqL.of hD5, ?_⟩
            rw [int_sum, ← befs_sum ok hL hD hes]
            have hq5 := s5 _ _ (s4 _ _ hq3)
            have lt : t.length ≤ 13 := by
              have h3 := sub_len (n := 13) ht.nd fun y hy => by
                obtain ⟨c, hc⟩ := Option.isSome_iff_exists.mp (WB.nd_mem.mp hy)
                obtain ⟨_, b', hb', _⟩ := (ht.iff y c).mp hc
                have := (WB.W_node ok hst hb'.1).2
                have := ok.le
                omega
              rw [List.length_map] at h3
              exact h3
            refine ⟨_, rfl, _, rfl, q, _, rfl, DPut.k (k := ik e) hq5 (by rw [ndV_len, sizeLine_eq]; omega), ?_⟩
            refine ⟨_, _, rfl, fun c o z hc => ?_, ndPut t e (W g.edges st e b), ?_, ?_⟩
            · rw [upd_ne hc]
              exact s5 _ _ (s4 _ _ (s3 c o z hc))
            · rw [upd_same, ← ndV_put]
            · rw [tk]
              exact tots_put ht hD
      · rintro σ H3 ⟨v4, v5, rfl, s3, t, hq3, ht⟩
        refine ⟨_, rfl, ?_⟩
        have ht2 : TotsAt g.edges st (L'.map fun p => p.1) t := by
          rw [List.take_of_length_le] at ht
          · exact ht
          · unfold natsV
            rw [List.length_map, List.length_map]
            exact Nat.le_refl _
        refine k H3 q t (fun b o e n => s3 _ _ (up e n) fun z => ?_) (fun pp hpp => ?_) hq hq3 (tots_end hL perm ht2)
        · rw [z, hq] at e
          cases e
        · obtain ⟨ps, t1, t2, t3⟩ := T2 pp hpp
          refine ⟨ps, s3 _ _ t1 (ne_of t1 hq2 (by intro z; cases z)), t2, fun pos cv hc' => ?_⟩
          obtain ⟨c0, e1, e2⟩ := t3 pos cv hc'
          exact ⟨c0, e1, s3 _ _ e2 (ne_of e2 hq2 (by intro z; cases z))⟩
end
end WF
end
section
set_option Elab.async false
set_option linter.all false
set_option maxRecDepth 100000
set_option maxHeartbeats 4000000
namespace WF
open PySem PySem.Spec PyProof.Rows L2
open WB (Ok ND ndGet ndPut IsD W Lens)
abbrev sSInit : Stmt := inClass (top 14) 0
abbrev sTotal : Stmt := inClass (top 14) 1
abbrev sTotBy : Stmt := inClass (top 14) 2
abbrev sOver : Stmt := inClass (top 14) 3
abbrev sAllBy : Stmt := inClass (top 14) 4
abbrev sSteps : Stmt := inClass (top 14) 5
abbrev sIsStep : Stmt := inClass (top 14) 6
def sf (dl dt : Addr) : List (Str × V) := putF "totals" (.ref dt) (putF "lengths" (.ref dl) [])
theorem sf_len (dl dt : Addr) : (sf dl dt).lookup ("lengths" : Str) = some (.ref dl) := by
  unfold sf
  rw [lookup_putF, if_neg (by decide +kernel), lookup_putF, if_pos rfl]
theorem sf_tot (dl dt : Addr) : (sf dl dt).lookup ("totals" : Str) = some (.ref dt) := by
  unfold sf
  rw [lookup_putF, if_pos rfl]
theorem sf_no (dl dt : Addr) {m : Str} (h1 : ¬ m = "lengths") (h2 : ¬ m = "totals") : (sf dl dt).lookup m = none := by
  unfold sf
  rw [lookup_putF, if_neg h2, lookup_putF, if_neg h1]
  rfl
/-- the two dicts of one start -/
def RowAt (es : List Gq05.Edge) (H : Hp) (dl dt : Addr) (kl kt : List (Key × V)) (s : Nat) : Prop := ∃ (p q : Addr) (L t : ND), valV kl (ik s) = some (.ref p) ∧ H p = some (.dK (ndV L)) ∧ Lens es s L ∧ valV kt (ik s) = some (.ref q) ∧ H q = some (.dK (ndV t)) ∧ Cnts es s t ∧ p ≠ dl ∧ p ≠ dt ∧ q ≠ dl ∧ q ≠ dt
/-- a Shortest of the graph g stands at a -/
def ShortAt (CS : Addr) (H : Hp) (a : Addr) (g : Gq05.Graph) : Prop := ∃ (dx dl dt : Addr) (kl kt : List (Key × V)), H a = some (.ins CS dx (sf dl dt)) ∧ H dl = some (.dK kl) ∧ H dt = some (.dK kt) ∧ ∀ s, 1 ≤ s ∧ s ≤ g.many → RowAt g.edges H dl dt kl kt s
theorem RowAt.same {es : List Gq05.Edge} {H H' : Hp} {dl dt : Addr} {kl kt : List (Key × V)} {s : Nat} (h : RowAt es H dl dt kl kt s) (k : ∀ b d, b ≠ dl → b ≠ dt → H b = some (.dK d) → H' b = some (.dK d)) : RowAt es H' dl dt kl kt s := by
  obtain ⟨p, q, L, t, h1, h2, h3, h4, h5, h6, n1, n2, n3, n4⟩ := h
  exact ⟨p, q, L, t, h1, k _ _ n1 n2 h2, h3, h4, k _ _ n3 n4 h5, h6, n1, n2, n3, n4⟩
theorem ShortAt.ext {CS : Addr} {H H' : Hp} {a : Addr} {g : Gq05.Graph} (h : ShortAt CS H a g) (k : LamX.ExtN H H') : ShortAt CS H' a g := by
  obtain ⟨dx, dl, dt, kl, kt, h1, h2, h3, h4⟩ := h
  exact ⟨dx, dl, dt, kl, kt, k _ _ h1 (fun _ z => by cases z), k _ _ h2 (fun _ z => by cases z), k _ _ h3 (fun _ z => by cases z), fun s hs => (h4 s hs).same fun b d _ _ e => k _ _ e (fun _ z => by cases z)⟩
theorem GraphAt.ext {C : Addr} {H H' : Hp} {a : Addr} {g : Gq05.Graph} (h : GraphAt C H a g) (k : LamX.ExtN H H') : GraphAt C H' a g := by
  obtain ⟨dx, d, h1, h2⟩ := h
  exact ⟨dx, d, k _ _ h1 (fun _ z => by cases z), k _ _ h2 (fun _ z => by cases z)⟩
/-- facts of the class Shortest -/
structure TxtS (K : PySem.W.Frag) (mg : Str → Option Value) (CS : Addr) : Prop where
  cl : Cls K CS
  nL : NoAttr K CS "lengths"
  nT : NoAttr K CS "totals"
  mgC : mg "Shortest" = some (.ref CS)
section
variable {P : Program} {w : World} {K : PySem.W.Frag} {mg : Str → Option Value} {base : Heap} {C CS : Addr} {T : List (Addr × Str)}
structure LensF (P : Program) (w : World) (K : PySem.W.Frag) (mg : Str → Option Value) (base : Heap) (C : Addr) : Prop where
  ex : ∃ f fd, mg "lengths_from" = some (.ref f) ∧ PySem.W.keepIn K (.ref f) = true ∧ Binds K fd ["graph", "start"] [] ∧ FnOk P w K mg base CX0 2 f fd ["graph", "start"] (spLens C)
structure TotsF (P : Program) (w : World) (K : PySem.W.Frag) (mg : Str → Option Value) (base : Heap) (C : Addr) (T : List (Addr × Str)) : Prop where
  ex : ∃ f fd, mg "totals_from" = some (.ref f) ∧ PySem.W.keepIn K (.ref f) = true ∧ Binds K fd ["graph", "start", "lengths"] [] ∧ FnOk P w K mg base CX0 4 f fd ["graph", "start", "lengths"] (spTots C T)
structure NodesM (P : Program) (w : World) (K : PySem.W.Frag) (mg : Str → Option Value) (base : Heap) (C : Addr) : Prop where
  ex : ∃ f fd, Meth K C "nodes" f ∧ Binds K fd ["self"] [] ∧ FnOk P w K mg base CX0 1 f fd ["self"] (spNodes C)
def spSInit (C CS : Addr) (T : List (Addr × Str)) : Sp := fun vs H Q _ => ∃ (p dx a : Addr) (g : Gq05.Graph), vs = [.ref p, .ref a] ∧ H p = some (.ins CS dx []) ∧ GraphAt C H a g ∧ Ok g ∧ LamX.Tabs T H ∧ a ≠ p ∧
  ∀ H' : Hp, ShortAt CS H' p g → (∀ b o, H b = some o → b ≠ p → (∀ ps, o ≠ .tbl ps) → H' b = some o) → LamX.Tabs T H' → Q .non H'
theorem scSInit : FnScope ["self", "graph", "start", "lengths"] ["self", "graph"] (defScope sSInit) := ⟨rfl, rfl, rfl, by decide +kernel, rfl, by decide +kernel, by decide +kernel⟩
theorem tabs_upd {H : Hp} {b : Addr} {o o' : HO} (h : H b = some o) (n1 : ∀ ps, o ≠ .tbl ps) (n2 : ∀ c q, o ≠ LamX.CodeO c q) (t : LamX.Tabs T H) : LamX.Tabs T (upd H b o') := fun p hp => by
  obtain ⟨ps, t1, t2, t3⟩ := t p hp
  refine ⟨ps, ?_, t2, fun pos cv hc => ?_⟩
  · rw [upd_ne fun z => ?_]
    · exact t1
    · rw [z, h] at t1
      exact n1 ps (Option.some.inj t1)
  · obtain ⟨c0, e1, e2⟩ := t3 pos cv hc
    refine ⟨c0, e1, ?_⟩
    rw [upd_ne fun z => ?_]
    · exact e2
    · rw [z, h] at e2
      exact n2 _ _ (Option.some.inj e2)
theorem ok_sinit {f : Addr} {fd : FuncData} (F : Fun K "__init__" "Shortest.__init__" sSInit f fd) (X : Txt K mg C) (XS : TxtS K mg CS) (ML : LensF P w K mg base C) (MT : TotsF P w K mg base C T) (MN : NodesM P w K mg base C) :
    FnOk P w K mg base CX0 5 f fd ["self", "graph"] (spSInit C CS T) := by
  obtain ⟨fl, fdl, ml, kl0, bl, GL⟩ := ML.ex
  obtain ⟨ft, fdt, mt, kt0, bt, GT⟩ := MT.ex
  obtain ⟨fn, fdn, mn, bn, GN⟩ := MN.ex
  refine F.ok scSInit (fun vs H Q E h => ?_) (fun cdv A outer s H vs Q E hr h => ?_)
  · obtain ⟨p, dx, a, g, rfl, _⟩ := h
    rfl
  · obtain ⟨p, dx, a, g, rfl, hp, hg, ok, hT, nap, k⟩ := h
    have hu := hu_of hr
    have hr1 : Room 1 _ := hr.mono (by decide)
    have hr2 : Room 2 _ := hr.mono (by decide)
    refine ⟨_, pss_cons (ps_fld (pv 0) pe_dnewK rfl) (pss_cons (ps_fld (pv 0) pe_dnewK rfl)
      (pss_one (ps_for PassesOwn.never rfl (pi_list (pe_meth0 (pv 1) X.cl mn GN hr1 bn .nil pass0)) (pg_name (i := 2) scSInit.nd rfl (Or.inl rfl))
        (pss_cons (ps_set (i := 3) scSInit.nd rfl (Or.inl rfl) (pe_call GL hr2 rfl ml kl0 bl .nil pass0 (pa_cons (pv 1) (pa_cons (pv 2) pa_nil))))
        (pss_cons (ps_dput hu (pe_fld (pv 0) rfl) (pv 2) (pv 3) rfl)
        (pss_one (ps_dput hu (pe_fld (pv 0) rfl) (pv 2) (pe_call GT hr rfl mt kt0 bt .nil pass0 (pa_cons (pv 1) (pa_cons (pv 2) (pa_cons (pv 3) pa_nil)))) rfl)))))))
      , ?_⟩
    obtain ⟨dxg, dg, g1, g2⟩ := id hg
    intro dl hdl
    have npl : p ≠ dl := fun z => by rw [← z, hp] at hdl; cases hdl
    refine ⟨_, rfl, p, CS, dx, [], rfl, (upd_ne npl).trans hp, XS.cl, XS.nL, (by show 0 < 1000; decide), ?_⟩
    intro dt hdt
    have npt : p ≠ dt := fun z => by rw [← z, upd_same] at hdt; cases hdt
    have nlt : dl ≠ dt := fun z => by rw [← z, upd_ne (Ne.symm npl), upd_same] at hdt; cases hdt
    have hdt0 : H dt = none := by
      rw [upd_ne (Ne.symm npt), upd_ne (Ne.symm nlt)] at hdt
      exact hdt
    refine ⟨_, rfl, p, CS, dx, _, rfl, (upd_ne npt).trans upd_same, XS.cl, XS.nT, (by show 1 < 1000; decide), ?_⟩
    have kB : ∀ b o, H b = some o → b ≠ p → upd (upd (upd (upd H dl (.dK [])) p (.ins CS dx (putF "lengths" (.ref dl) []))) dt (.dK [])) p (.ins CS dx (putF "totals" (.ref dt) (putF "lengths" (.ref dl) []))) b = some o := fun b o e hb => by
      rw [upd_ne hb, upd_ne (ne_of_none e hdt0), upd_ne hb, upd_ne (ne_of_none e hdl)]
      exact e
    have pB : upd (upd (upd (upd H dl (.dK [])) p (.ins CS dx (putF "lengths" (.ref dl) []))) dt (.dK [])) p (.ins CS dx (putF "totals" (.ref dt) (putF "lengths" (.ref dl) []))) p = some (.ins CS dx (sf dl dt)) := upd_same
    have lB : upd (upd (upd (upd H dl (.dK [])) p (.ins CS dx (putF "lengths" (.ref dl) []))) dt (.dK [])) p (.ins CS dx (putF "totals" (.ref dt) (putF "lengths" (.ref dl) []))) dl = some (.dK []) := by
      rw [upd_ne (Ne.symm npl), upd_ne nlt, upd_ne (Ne.symm npl), upd_same]
    have tB : upd (upd (upd (upd H dl (.dK [])) p (.ins CS dx (putF "lengths" (.ref dl) []))) dt (.dK [])) p (.ins CS dx (putF "totals" (.ref dt) (putF "lengths" (.ref dl) []))) dt = some (.dK []) := by
      rw [upd_ne (Ne.symm npt), upd_same]
    generalize upd (upd (upd (upd H dl (.dK [])) p (.ins CS dx (putF "lengths" (.ref dl) []))) dt (.dK [])) p (.ins CS dx (putF "totals" (.ref dt) (putF "lengths" (.ref dl) []))) = HB at kB pB lB tB ⊢
    have TB : LamX.Tabs T HB := fun pp hpp => by
      obtain ⟨ps, t1, t2, t3⟩ := hT pp hpp
      refine ⟨ps, kB _ _ t1 (ne_of t1 hp (by intro z; cases z)), t2, fun pos cv hc => ?_⟩
      obtain ⟨c0, e1, e2⟩ := t3 pos cv hc
      exact ⟨c0, e1, kB _ _ e2 (ne_of e2 hp (by intro z; cases z))⟩
    have ndg : dg ≠ p := ne_of g2 hp (by intro z; cases z)
    have gB : GraphAt C HB a g := ⟨dxg, dg, kB _ _ g1 nap, kB _ _ g2 ndg⟩
    -- for start in graph.nodes()
    refine ⟨_, rfl, a, dxg, _, rfl, kB _ _ g1 nap, gf_no _ _ (by decide +kernel) (by decide +kernel), a, g, rfl, gB, ok.le, fun nl hnl => ?_⟩
    have sN := same_upd (o := .lst (nodesV g)) hnl
    refine ⟨nl, rfl, ⟨_, SqL.of upd_same⟩, for_list (K := K) (a := nl) (xs := nodesV g) (fun i σ H' => ∃ v2 v3 : Option V, σ = [some (.ref p), some (.ref a), v2, v3] ∧ (∀ b o, H b = some o → b ≠ p → (∀ ps, o ≠ .tbl ps) → H' b = some o) ∧ LamX.Tabs T H' ∧ H' nl = some (.lst (nodesV g)) ∧ H' p = some (.ins CS dx (sf dl dt)) ∧
      ∃ kl kt, H' dl = some (.dK kl) ∧ H' dt = some (.dK kt) ∧ kl.length ≤ i ∧ kt.length ≤ i ∧ ∀ s, 1 ≤ s → s ≤ i → RowAt g.edges H' dl dt kl kt s)
      ⟨none, none, rfl, fun b o e hb _ => sN _ _ (kB b o e hb), TB.ext sN, upd_same, sN _ _ pB, [], [], sN _ _ lB, sN _ _ tB, Nat.le_refl _, Nat.le_refl _, fun s h1 h2 => by omega⟩ (fun i σ H' _ ⟨_, _, _, _, _, q, _⟩ => SqL.of q) ?_ ?_⟩
    · rintro i x σ H1 hx ⟨v2, v3, rfl, s1, T1, n1, p1, kl, kt, l1, t1, zl, zt, rows⟩
      obtain ⟨hi, rfl⟩ : i < g.many ∧ x = V.int ((i + 1 : Nat) : Int) := by
        unfold nodesV Gq05.nodes at hx
        rw [List.map_map, List.getElem?_map, Option.map_eq_some_iff] at hx
        obtain ⟨z, hz, rfl⟩ := hx
        obtain ⟨h1, h2⟩ := List.getElem?_eq_some_iff.mp hz
        rw [List.length_range] at h1
        rw [List.getElem_range] at h2
        subst h2
        exact ⟨h1, rfl⟩
      have hle := ok.le
      have gat : ∀ {H' : Hp}, (∀ b o, H1 b = some o → b ≠ dl → b ≠ dt → (∀ ps, o ≠ .tbl ps) → H' b = some o) → GraphAt C H' a g := fun h => by
        have a1 := s1 _ _ g1 nap (fun _ z => by cases z)
        have a2 := s1 _ _ g2 ndg (fun _ z => by cases z)
        exact ⟨dxg, dg, h _ _ a1 (ne_of a1 l1 (by intro z; cases z)) (ne_of a1 t1 (by intro z; cases z)) (fun _ z => by cases z), h _ _ a2 (ne_of a2 l1 (by intro z; cases z)) (ne_of a2 t1 (by intro z; cases z)) (fun _ z => by cases z)⟩
      -- lengths = lengths_from(graph, start)
      refine ⟨_, rfl, _, rfl, a, g, i + 1, rfl, gat (fun b o e _ _ _ => e), ok, ⟨by omega, by omega⟩, fun H2 q1 s2 hq1 hL1 => ?_⟩
      have nq1l : q1 ≠ dl := fun z => by rw [z, l1] at hq1; cases hq1
      have nq1t : q1 ≠ dt := fun z => by rw [z, t1] at hq1; cases hq1
      have npl' : p ≠ dl := npl
      -- self.lengths[start] = lengths
      refine ⟨_, rfl, _, rfl, p, CS, dx, _, _, rfl, s2 _ _ p1, XS.cl, XS.nL, sf_len _ _, _, rfl, dl, _, rfl, DPut.k (k := ik (i + 1)) (s2 _ _ l1) (by rw [sizeLine_eq]; omega), ?_⟩
      have k3 : ∀ b o, H1 b = some o → b ≠ dl → upd H2 dl (.dK (putK kl (ik (i + 1)) (.ref q1))) b = some o := fun b o e hb => by
        rw [upd_ne hb]
        exact s2 _ _ e
      have T3 : LamX.Tabs T (upd H2 dl (.dK (putK kl (ik (i + 1)) (.ref q1)))) := tabs_upd (s2 _ _ l1) (fun _ z => by cases z) (fun _ _ z => by cases z) (T1.ext s2)
      have l3 : upd H2 dl (.dK (putK kl (ik (i + 1)) (.ref q1))) dl = some (.dK (putK kl (ik (i + 1)) (.ref q1))) := upd_same
      have q3 : upd H2 dl (.dK (putK kl (ik (i + 1)) (.ref q1))) q1 = some (.dK (ndV (WB.rounds g.edges (i + 1) (g.many - 1)))) := (upd_ne nq1l).trans hL1
      generalize upd H2 dl (.dK (putK kl (ik (i + 1)) (.ref q1))) = H3 at k3 T3 l3 q3 ⊢
      have lok := WB.lens_ok (s := i + 1) ok ⟨by omega, by omega⟩
      -- self.totals[start] = totals_from(graph, start, lengths)
      refine ⟨_, rfl, _, rfl, _, rfl, a, q1, g, i + 1, _, rfl, gat (fun b o e h1 _ _ => k3 b o e h1), ok, ⟨by omega, by omega⟩, q3, lok, T3, fun H4 q2 t e4 T4 hq2 ht4 hc4 => ?_⟩
      have t3 := k3 _ _ t1 (Ne.symm nlt)
      have nq2l : q2 ≠ dl := fun z => by rw [z, l3] at hq2; cases hq2
      have nq2t : q2 ≠ dt := fun z => by rw [z, t3] at hq2; cases hq2
      have l4 := e4 _ _ l3 (fun _ z => by cases z)
      have t4 := e4 _ _ t3 (fun _ z => by cases z)
      have p4 := e4 _ _ (k3 _ _ p1 npl) (fun _ z => by cases z)
      refine ⟨_, rfl, p, CS, dx, _, _, rfl, p4, XS.cl, XS.nT, sf_tot _ _, _, rfl, dt, _, rfl, DPut.k (k := ik (i + 1)) t4 (by rw [sizeLine_eq]; omega), ?_⟩
      have k5 : ∀ b o, H1 b = some o → b ≠ dl → b ≠ dt → (∀ ps, o ≠ .tbl ps) → upd H4 dt (.dK (putK kt (ik (i + 1)) (.ref q2))) b = some o := fun b o e h1 h2 h3 => by
        rw [upd_ne h2]
        exact e4 _ _ (k3 b o e h1) h3
      refine ⟨_, _, rfl, fun b o e hb n => ?_, tabs_upd t4 (fun _ z => by cases z) (fun _ _ z => by cases z) T4, ?_, ?_, putK kl (ik (i + 1)) (.ref q1), putK kt (ik (i + 1)) (.ref q2), ?_, upd_same, ?_, ?_, fun s h1 h2 => ?_⟩
      · have e1 := s1 b o e hb n
        exact k5 b o e1 (fun z => by rw [z, hdl] at e; cases e) (fun z => by rw [z, hdt0] at e; cases e) n
      · exact k5 _ _ n1 (ne_of n1 l1 (by intro z; cases z)) (ne_of n1 t1 (by intro z; cases z)) (fun _ z => by cases z)
      · exact k5 _ _ p1 npl npt (fun _ z => by cases z)
      · exact (upd_ne nlt).trans l4
      · exact Nat.le_trans (length_putK ..) (by omega)
      · exact Nat.le_trans (length_putK ..) (by omega)
      · by_cases hs : s = i + 1
        · subst hs
          refine ⟨q1, q2, _, t, by rw [valV_put, if_pos rfl], ?_, lok, by rw [valV_put, if_pos rfl], ?_, hc4, nq1l, nq1t, nq2l, nq2t⟩
          · rw [upd_ne nq1t]
            exact e4 _ _ q3 (fun _ z => by cases z)
          · rw [upd_ne nq2t]
            exact ht4
        · obtain ⟨pp, qq, L, tt, r1, r2, r3, r4, r5, r6, m1, m2, m3, m4⟩ := rows s h1 (by omega)
          have ns : ¬ ik s = ik (i + 1) := fun z => hs (ik_inj.mp z)
          exact ⟨pp, qq, L, tt, by rw [valV_put, if_neg ns]; exact r1, k5 _ _ r2 m1 m2 (fun _ z => by cases z), r3, by rw [valV_put, if_neg ns]; exact r4, k5 _ _ r5 m3 m4 (fun _ z => by cases z), r6, m1, m2, m3, m4⟩
    · rintro σ H1 ⟨v2, v3, rfl, s1, T1, n1, p1, kl, kt, l1, t1, zl, zt, rows⟩
      refine k H1 ⟨dx, dl, dt, kl, kt, p1, l1, t1, fun s hs => rows s hs.1 ?_⟩ s1 T1
      unfold nodesV
      rw [List.length_map, WB.nodes_len]
      exact hs.2
end
end WF
end
section
set_option Elab.async false
set_option linter.all false
set_option maxRecDepth 100000
set_option maxHeartbeats 4000000
namespace WF
open PySem PySem.Spec PyProof.Rows L2
open WB (Ok ND ndGet ndPut IsD W Lens)
/-! ### the table's entries and the dicts -/
section
variable {g : Gq05.Graph} {s e v : Nat}
abbrev Nd (g : Gq05.Graph) (x : Nat) : Prop := 1 ≤ x ∧ x ≤ g.many
abbrev farT (g : Gq05.Graph) (s e : Nat) : Gq05.Far := Gq05.far (Gq05.table g) s e
theorem lens_far (o : Ok g) (hs : Nd g s) (he : Nd g e) {L : ND} (h : Lens g.edges s L) : ndGet L e = (farT g s e).map fun x => x.1 := by
  rcases WB.far_cases o hs he with ⟨h1, h2⟩ | ⟨b, h1, h2⟩
  · rw [show farT g s e = none from h1]
    cases q : ndGet L e with
    | none => rfl
    | some a => exact absurd ((h.iff e a).mp q) (h2 a)
  · rw [show farT g s e = some (b, W g.edges s e b) from h1, (h.iff e b).mpr h2]
    rfl
theorem cnts_far (o : Ok g) (hs : Nd g s) (he : Nd g e) {t : ND} (h : Cnts g.edges s t) : ndGet t e = (farT g s e).map fun x => x.2 := by
  rcases WB.far_cases o hs he with ⟨h1, h2⟩ | ⟨b, h1, h2⟩
  · rw [show farT g s e = none from h1]
    cases q : ndGet t e with
    | none => rfl
    | some a =>
      obtain ⟨b, hb, _⟩ := (h.iff e a).mp q
      exact absurd hb (h2 b)
  · rw [show farT g s e = some (b, W g.edges s e b) from h1, (h.iff e _).mpr ⟨b, h2, rfl⟩]
    rfl
abbrev waysT (g : Gq05.Graph) (s e : Nat) : Nat := Gq05.ways (Gq05.table g) s e
theorem ways_far (g : Gq05.Graph) (s e : Nat) : waysT g s e = ((farT g s e).map fun x => x.2).getD 0 := by
  have : ∀ x : Gq05.Far, (match x with | some a => a.2 | none => 0) = (x.map fun x => x.2).getD 0 := by
    intro x
    cases x <;> rfl
  exact this _
theorem far_pos (o : Ok g) (hs : Nd g s) (he : Nd g e) {x : Nat × Nat} (h : farT g s e = some x) : 0 < x.2 ∧ x.2 < 2 ^ 40 ∧ IsD g.edges s e x.1 ∧ x.2 = W g.edges s e x.1 := by
  rcases WB.far_cases o hs he with ⟨h1, h2⟩ | ⟨b, h1, h2⟩
  · rw [show farT g s e = none from h1] at h
    cases h
  · rw [show farT g s e = some (b, W g.edges s e b) from h1] at h
    cases h
    exact ⟨h2.1, WB.W_small o hs h2, h2, rfl⟩
theorem ways_zero (o : Ok g) (hs : Nd g s) (he : Nd g e) : waysT g s e = 0 ↔ farT g s e = none := by
  rw [ways_far]
  cases h : farT g s e with
  | none => simp
  | some x =>
    have := (far_pos o hs he h).1
    simp
    omega
theorem ways_small (o : Ok g) (hs : Nd g s) (he : Nd g e) : waysT g s e < 2 ^ 40 := by
  rw [ways_far]
  cases h : farT g s e with
  | none => decide
  | some x => exact (far_pos o hs he h).2.1
/-- ways joined -/
theorem W_join (o : Ok g) : ∀ (b a s v e : Nat), 0 < W g.edges s v a → 0 < W g.edges v e b → 0 < W g.edges s e (a + b) := by
  intro b
  induction b using Nat.strongRecOn with
  | ind b ih =>
    intro a s v e h1 h2
    by_cases hb : b = 0
    · subst hb
      by_cases hv : e = v
      · subst hv
        exact h1
      · rw [WB.W_zero hv] at h2
        omega
    · rw [WB.W_eq, if_neg (fun q => hb q.2), Nat.zero_add] at h2
      obtain ⟨f, hf, h3⟩ := WB.sum_pos _ _ h2
      unfold WB.con at h3
      split at h3
      · rename_i c
        have h4 := ih (b - f.long) (by omega) a s v f.src h1 h3
        have h5 := WB.W_step o hf (s := s) (a + (b - f.long))
        rw [c.1, show a + (b - f.long) + f.long = a + b by omega] at h5
        omega
      · omega
theorem far_join (o : Ok g) (hs : Nd g s) (hv : Nd g v) (he : Nd g e) {x y : Nat × Nat} (h1 : farT g s v = some x) (h2 : farT g v e = some y) : ∃ z, farT g s e = some z := by
  have a := (far_pos o hs hv h1).2.2.1.1
  have b := (far_pos o hv he h2).2.2.1.1
  obtain ⟨c, hc, _⟩ := IsD.ex _ (W_join o _ _ _ _ _ a b)
  exact ⟨_, WB.far_some o hs hc⟩
/-- in how many shortest ways one comes by v, as the program reckons it -/
def thr (g : Gq05.Graph) (s v e : Nat) : Nat := match farT g s e, farT g s v, farT g v e with
  | some a, some b, some c => if b.1 + c.1 = a.1 then b.2 * c.2 else 0
  | _, _, _ => 0
theorem thr_small (o : Ok g) (hs : Nd g s) (hv : Nd g v) (he : Nd g e) : thr g s v e < 2 ^ 80 := by
  unfold thr
  split
  · rename_i a b c h1 h2 h3
    split
    · have x := (far_pos o hs hv h2).2.1
      have y := (far_pos o hv he h3).2.1
      calc b.2 * c.2 < 2 ^ 40 * 2 ^ 40 := Nat.mul_lt_mul'' x y
        _ = 2 ^ 80 := by decide
    · decide
  · decide
/-- whether y comes next after x on some shortest way to e -/
def stepB (g : Gq05.Graph) (x y e : Nat) : Bool := match Gq05.long? g x y, farT g x e, farT g y e with
  | some l, some a, some c => decide (l + c.1 = a.1)
  | _, _, _ => false
end
/-! ### total, total_by -/
section
variable {P : Program} {w : World} {K : PySem.W.Frag} {mg : Str → Option Value} {base : Heap} {C CS : Addr}
/-- what the Shortest at a tells -/
theorem short_len {H : Hp} {a : Addr} {g : Gq05.Graph} (h : ShortAt CS H a g) (o : Ok g) : ∃ (dx dl dt : Addr), H a = some (.ins CS dx (sf dl dt)) ∧ ∀ s, Nd g s → ∃ p q : Addr, DGet H dl (.int (s : Int)) (some (.ref p)) ∧ DGet H dt (.int (s : Int)) (some (.ref q)) ∧ IsD H p ∧ IsD H q ∧
    ∀ e, Nd g e → DGet H p (.int (e : Int)) ((farT g s e).map fun x => V.int (x.1 : Int)) ∧ DGet H q (.int (e : Int)) ((farT g s e).map fun x => V.int (x.2 : Int)) := by
  obtain ⟨dx, dl, dt, kl, kt, h1, h2, h3, h4⟩ := h
  refine ⟨dx, dl, dt, h1, fun s hs => ?_⟩
  obtain ⟨p, q, L, t, r1, r2, r3, r4, r5, r6, _⟩ := h4 s hs
  have a1 := DGet.k (k := ik s) h2
  have a2 := DGet.k (k := ik s) h3
  rw [r1] at a1
  rw [r4] at a2
  refine ⟨p, q, a1, a2, .inl ⟨_, .inl r2⟩, .inl ⟨_, .inl r5⟩, fun e he => ?_⟩
  have b1 := DGet.k (k := ik e) r2
  have b2 := DGet.k (k := ik e) r5
  rw [ndV_val, lens_far o hs he r3, Option.map_map] at b1
  rw [ndV_val, cnts_far o hs he r6, Option.map_map] at b2
  exact ⟨b1, b2⟩
def spTotal (CS : Addr) : Sp := fun vs H Q _ => ∃ (a : Addr) (g : Gq05.Graph) (s e : Nat), vs = [.ref a, .int (s : Int), .int (e : Int)] ∧ ShortAt CS H a g ∧ Ok g ∧ Nd g s ∧ Nd g e ∧ Q (.int (waysT g s e : Int)) H
theorem scTotal : FnScope ["self", "start", "end"] ["self", "start", "end"] (defScope sTotal) := ⟨rfl, rfl, rfl, by decide +kernel, rfl, by decide +kernel, by decide +kernel⟩
theorem ok_total {f : Addr} {fd : FuncData} (F : Fun K "total" "Shortest.total" sTotal f fd) (XS : TxtS K mg CS) : FnOk P w K mg base CX0 1 f fd ["self", "start", "end"] (spTotal CS) := by
  refine F.ok scTotal (fun vs H Q E h => ?_) (fun cdv A outer sh H vs Q E hr h => ?_)
  · obtain ⟨a, g, s, e, rfl, _⟩ := h
    rfl
  · obtain ⟨a, g, s, e, rfl, hS, ok, hs, he, k⟩ := h
    have hu := hu_of hr
    obtain ⟨dx, dl, dt, h1, rows⟩ := short_len hS ok
    obtain ⟨p, q, r1, r2, r3, r4, r5⟩ := rows s hs
    refine ⟨_, pss_one (ps_ret (pe_dget2 hu (pe_dget hu (pe_fld (pv 0) rfl) (pv 1) (fun _ _ => rfl)) (pv 2) pe_int ⟨rfl, rfl, rfl, rfl⟩)), ?_⟩
    refine ⟨_, rfl, a, CS, dx, _, _, rfl, h1, XS.cl, XS.nT, sf_tot _ _, _, rfl, dt, _, rfl, r2, q, rfl, r4, _, rfl, _, (r5 e he).2, ?_⟩
    rw [ways_far] at k
    cases hf : farT g s e with
    | none =>
      rw [hf] at k
      exact k
    | some x =>
      rw [hf] at k
      exact k
structure TotalM (P : Program) (w : World) (K : PySem.W.Frag) (mg : Str → Option Value) (base : Heap) (CS : Addr) : Prop where
  ex : ∃ f fd, Meth K CS "total" f ∧ Binds K fd ["self", "start", "end"] [] ∧ FnOk P w K mg base CX0 1 f fd ["self", "start", "end"] (spTotal CS)
/-- how many of the shortest ways from s to e go x, then l on to y -/
def overN (g : Gq05.Graph) (s x y l e : Nat) : Nat := match farT g s e, farT g s x, farT g y e with
  | some a, some b, some c => if b.1 + l + c.1 = a.1 then b.2 * c.2 else 0
  | _, _, _ => 0
theorem over_thr (g : Gq05.Graph) (s v e : Nat) : overN g s v v 0 e = thr g s v e := rfl
def spOver (CS : Addr) : Sp := fun vs H Q _ => ∃ (a : Addr) (g : Gq05.Graph) (s x y l e : Nat), vs = [.ref a, .int (s : Int), .int (x : Int), .int (y : Int), .int (l : Int), .int (e : Int)] ∧ ShortAt CS H a g ∧ Ok g ∧ Nd g s ∧ Nd g x ∧ Nd g y ∧ Nd g e ∧
  (∀ b c, farT g s x = some b → farT g y e = some c → ∃ z, farT g s e = some z) ∧ Q (.int (overN g s x y l e : Int)) H
theorem scOver : FnScope ["self", "start", "x", "y", "length", "end", "ways"] ["self", "start", "x", "y", "length", "end"] (defScope sOver) := ⟨rfl, rfl, rfl, by decide +kernel, rfl, by decide +kernel, by decide +kernel⟩
theorem ok_over {f : Addr} {fd : FuncData} (F : Fun K "total_over" "Shortest.total_over" sOver f fd) (XS : TxtS K mg CS) (M : TotalM P w K mg base CS) : FnOk P w K mg base CX0 2 f fd ["self", "start", "x", "y", "length", "end"] (spOver CS) := by
  obtain ⟨ft, fdt, mt, bt, G⟩ := M.ex
  refine F.ok scOver (fun vs H Q E h => ?_) (fun cdv A outer sh H vs Q E hr h => ?_)
  · obtain ⟨a, g, s, x, y, l, e, rfl, _⟩ := h
    rfl
  · obtain ⟨a, g, s, x, y, l, e, rfl, hS, ok, hs, hx, hy, he, hj, k⟩ := h
    have hu := hu_of hr
    obtain ⟨dx, dl, dt, h1, rows⟩ := short_len hS ok
    obtain ⟨ps, qs, s1, s2, s3, s4, s5⟩ := rows s hs
    obtain ⟨py, qy, y1, y2, y3, y4, y5⟩ := rows y hy
    have n1 := sf_no dl dt (m := "total") (by decide +kernel) (by decide +kernel)
    refine ⟨_, pss_cons (ps_set (i := 6) scOver.nd rfl (Or.inl rfl) (pe_op op_mul (pe_meth (pv 0) XS.cl mt G hr bt .nil pass0 (pa_cons (pv 1) (pa_cons (pv 2) pa_nil))) (pe_meth (pv 0) XS.cl mt G hr bt .nil pass0 (pa_cons (pv 3) (pa_cons (pv 5) pa_nil)))))
      (pss_cons (ps_if (pt_cmpR op_eq (pv 6) pe_int (nomark _)) (pss_one (ps_ret pe_int)) pss_nil)
      (pss_cons (ps_if (pt_cmpR op_ne (pe_op op_add (pe_op op_add (pe_dget hu (pe_dget hu (pe_fld (pv 0) rfl) (pv 1) (fun _ _ => rfl)) (pv 2) (fun _ _ => rfl)) (pv 4)) (pe_dget hu (pe_dget hu (pe_fld (pv 0) rfl) (pv 3) (fun _ _ => rfl)) (pv 5) (fun _ _ => rfl)))
        (pe_dget hu (pe_dget hu (pe_fld (pv 0) rfl) (pv 1) (fun _ _ => rfl)) (pv 5) (fun _ _ => rfl)) (nomark _)) (pss_one (ps_ret pe_int)) pss_nil)
      (pss_one (ps_ret (pv 6))))), ?_⟩
    have w1 := ways_small ok hs hx
    refine ⟨_, rfl, a, dx, _, rfl, h1, n1, _, rfl, _, rfl, a, g, s, x, rfl, hS, ok, hs, hx, _, rfl, a, dx, _, rfl, h1, n1, _, rfl, _, rfl, a, g, y, e, rfl, hS, ok, hy, he, _, _, rfl, rfl, .inl ⟨by omega, by omega⟩, ?_⟩
    refine ⟨_, rfl, rfl, _, rfl, ?_⟩
    unfold overN at k
    have zero : waysT g s x * waysT g y e = 0 ↔ farT g s x = none ∨ farT g y e = none := by
      rw [Nat.mul_eq_zero, ways_zero ok hs hx, ways_zero ok hy he]
    by_cases hz : waysT g s x * waysT g y e = 0
    · refine yes (by
        rw [decide_eq_true_eq]
        show V.int ((waysT g s x : Int) * (waysT g y e : Int)) = V.int 0
        rw [← Int.natCast_mul, hz]
        rfl) ?_
      have k0 : Q (.int 0) H := by
        rcases zero.mp hz with q | q
        · rw [q] at k
          cases hf : farT g s e <;> rw [hf] at k <;> exact k
        · rw [q] at k
          cases hf : farT g s e <;> cases hf2 : farT g s x <;> rw [hf, hf2] at k <;> exact k
      exact k0
    · refine no (by
        rw [decide_eq_true_eq]
        intro z
        have z : V.int ((waysT g s x : Int) * (waysT g y e : Int)) = V.int 0 := z
        injection z with z
        rw [← Int.natCast_mul] at z
        omega) ?_
      cases hb : farT g s x with
      | none => exact absurd (zero.mpr (.inl hb)) hz
      | some b =>
        cases hc : farT g y e with
        | none => exact absurd (zero.mpr (.inr hc)) hz
        | some c =>
          obtain ⟨z, ha⟩ := hj b c hb hc
          rw [ha, hb, hc] at k
          dsimp only at k
          have d1 := (s5 x hx).1
          have d2 := (y5 e he).1
          have d3 := (s5 e he).1
          rw [hb] at d1
          rw [hc] at d2
          rw [ha] at d3
          refine ⟨_, rfl, a, CS, dx, _, _, rfl, h1, XS.cl, XS.nL, sf_len _ _, _, rfl, dl, _, rfl, s1, _, rfl, ps, _, rfl, d1, _, rfl, _, _, rfl, rfl, _, rfl, a, CS, dx, _, _, rfl, h1, XS.cl, XS.nL, sf_len _ _, _, rfl, dl, _, rfl, y1, _, rfl, py, _, rfl, d2, _, _, rfl, rfl,
            _, rfl, a, CS, dx, _, _, rfl, h1, XS.cl, XS.nL, sf_len _ _, _, rfl, dl, _, rfl, s1, _, rfl, ps, _, rfl, d3, rfl, _, rfl, ?_⟩
          have wb : waysT g s x = b.2 := by rw [ways_far, hb]; rfl
          have wc : waysT g y e = c.2 := by rw [ways_far, hc]; rfl
          by_cases hsum : b.1 + l + c.1 = z.1
          · rw [if_pos hsum] at k
            refine no (by
              simp only [Bool.not_eq_true', decide_eq_false_iff_not, Decidable.not_not]
              show V.int ((b.1 : Int) + (l : Int) + (c.1 : Int)) = V.int (z.1 : Int)
              rw [← hsum, Int.natCast_add, Int.natCast_add]) ?_
            refine ⟨V.int ((waysT g s x : Int) * (waysT g y e : Int)), rfl, ?_⟩
            rw [wb, wc, ← Int.natCast_mul]
            exact k
          · rw [if_neg hsum] at k
            refine yes (by
              simp only [Bool.not_eq_true', decide_eq_false_iff_not]
              intro q
              have q : V.int ((b.1 : Int) + (l : Int) + (c.1 : Int)) = V.int (z.1 : Int) := q
              injection q with q
              omega) ?_
            exact k
structure OverM (P : Program) (w : World) (K : PySem.W.Frag) (mg : Str → Option Value) (base : Heap) (CS : Addr) : Prop where
  ex : ∃ f fd, Meth K CS "total_over" f ∧ Binds K fd ["self", "start", "x", "y", "length", "end"] [] ∧ FnOk P w K mg base CX0 2 f fd ["self", "start", "x", "y", "length", "end"] (spOver CS)
def spTotBy (CS : Addr) : Sp := fun vs H Q _ => ∃ (a : Addr) (g : Gq05.Graph) (s v e : Nat), vs = [.ref a, .int (s : Int), .int (v : Int), .int (e : Int)] ∧ ShortAt CS H a g ∧ Ok g ∧ Nd g s ∧ Nd g v ∧ Nd g e ∧ Q (.int (thr g s v e : Int)) H
theorem scTotBy : FnScope ["self", "start", "v", "end"] ["self", "start", "v", "end"] (defScope sTotBy) := ⟨rfl, rfl, rfl, by decide +kernel, rfl, by decide +kernel, by decide +kernel⟩
theorem ok_totby {f : Addr} {fd : FuncData} (F : Fun K "total_by" "Shortest.total_by" sTotBy f fd) (XS : TxtS K mg CS) (M : OverM P w K mg base CS) : FnOk P w K mg base CX0 3 f fd ["self", "start", "v", "end"] (spTotBy CS) := by
  obtain ⟨ft, fdt, mt, bt, G⟩ := M.ex
  refine F.ok scTotBy (fun vs H Q E h => ?_) (fun cdv A outer sh H vs Q E hr h => ?_)
  · obtain ⟨a, g, s, v, e, rfl, _⟩ := h
    rfl
  · obtain ⟨a, g, s, v, e, rfl, hS, ok, hs, hv, he, k⟩ := h
    obtain ⟨dx, dl, dt, h1, _⟩ := short_len hS ok
    have n1 := sf_no dl dt (m := "total_over") (by decide +kernel) (by decide +kernel)
    refine ⟨_, pss_one (ps_ret (pe_meth (pv 0) XS.cl mt G hr bt .nil pass0 (pa_cons (pv 1) (pa_cons (pv 2) (pa_cons (pv 2) (pa_cons pe_int (pa_cons (pv 3) pa_nil))))))), ?_⟩
    exact ⟨_, rfl, a, dx, _, rfl, h1, n1, _, rfl, _, rfl, _, rfl, _, rfl, a, g, s, v, v, 0, e, rfl, hS, ok, hs, hv, hv, he, fun b c h1 h2 => far_join ok hs hv he h1 h2, k⟩
structure TotByM (P : Program) (w : World) (K : PySem.W.Frag) (mg : Str → Option Value) (base : Heap) (CS : Addr) : Prop where
  ex : ∃ f fd, Meth K CS "total_by" f ∧ Binds K fd ["self", "start", "v", "end"] [] ∧ FnOk P w K mg base CX0 3 f fd ["self", "start", "v", "end"] (spTotBy CS)
/-- there are ways, and all shortest ones go by v -/
def byAll (g : Gq05.Graph) (s v e : Nat) : Bool := decide (0 < waysT g s e) && decide (thr g s v e = waysT g s e)
def spAllBy (CS : Addr) : Sp := fun vs H Q _ => ∃ (a : Addr) (g : Gq05.Graph) (s v e : Nat), vs = [.ref a, .int (s : Int), .int (v : Int), .int (e : Int)] ∧ ShortAt CS H a g ∧ Ok g ∧ Nd g s ∧ Nd g v ∧ Nd g e ∧ Q (.bl (byAll g s v e)) H
theorem scAllBy : FnScope ["self", "start", "v", "end", "total"] ["self", "start", "v", "end"] (defScope sAllBy) := ⟨rfl, rfl, rfl, by decide +kernel, rfl, by decide +kernel, by decide +kernel⟩
theorem ok_allby {f : Addr} {fd : FuncData} (F : Fun K "all_by" "Shortest.all_by" sAllBy f fd) (XS : TxtS K mg CS) (MT : TotalM P w K mg base CS) (MB : TotByM P w K mg base CS) : FnOk P w K mg base CX0 4 f fd ["self", "start", "v", "end"] (spAllBy CS) := by
  obtain ⟨ft, fdt, mt, bt, GT⟩ := MT.ex
  obtain ⟨fb, fdb, mb, bb, GB⟩ := MB.ex
  refine F.ok scAllBy (fun vs H Q E h => ?_) (fun cdv A outer sh H vs Q E hr h => ?_)
  · obtain ⟨a, g, s, v, e, rfl, _⟩ := h
    rfl
  · obtain ⟨a, g, s, v, e, rfl, hS, ok, hs, hv, he, k⟩ := h
    have hr1 : Room 1 _ := hr.mono (by decide)
    obtain ⟨dx, dl, dt, h1, _⟩ := short_len hS ok
    have n1 := sf_no dl dt (m := "total") (by decide +kernel) (by decide +kernel)
    have n2 := sf_no dl dt (m := "total_by") (by decide +kernel) (by decide +kernel)
    refine ⟨_, pss_cons (ps_set (i := 4) scAllBy.nd rfl (Or.inl rfl) (pe_meth (pv 0) XS.cl mt GT hr1 bt .nil pass0 (pa_cons (pv 1) (pa_cons (pv 3) pa_nil))))
      (pss_one (ps_ret (pe_and (pe_cmpR op_gt (pv 4) pe_int (nomark _)) (pe_one (pe_cmpR op_eq (pe_meth (pv 0) XS.cl mb GB hr bb .nil pass0 (pa_cons (pv 1) (pa_cons (pv 2) (pa_cons (pv 3) pa_nil)))) (pv 4) (nomark _)))))), ?_⟩
    refine ⟨_, rfl, a, dx, _, rfl, h1, n1, _, rfl, _, rfl, a, g, s, e, rfl, hS, ok, hs, he, ?_⟩
    refine ⟨_, rfl, _, _, rfl, rfl, _, rfl, ?_⟩
    unfold byAll at k
    by_cases hw : 0 < waysT g s e
    · rw [decide_eq_true hw, Bool.true_and] at k
      refine yes (by rw [decide_eq_true_eq]; omega) ?_
      refine ⟨_, rfl, a, dx, _, rfl, h1, n2, _, rfl, _, rfl, _, rfl, a, g, s, v, e, rfl, hS, ok, hs, hv, he, _, rfl, rfl, ?_⟩
      have ed : decide (V.int (thr g s v e : Int) = V.int (waysT g s e : Int)) = decide (thr g s v e = waysT g s e) := by
        rw [decide_eq_decide]
        constructor
        · intro q
          injection q with q
          omega
        · intro q
          rw [q]
      rw [← ed] at k
      exact k
    · rw [decide_eq_false hw, Bool.false_and] at k
      refine no (by rw [decide_eq_true_eq]; omega) ?_
      exact k
structure AllByM (P : Program) (w : World) (K : PySem.W.Frag) (mg : Str → Option Value) (base : Heap) (CS : Addr) : Prop where
  ex : ∃ f fd, Meth K CS "all_by" f ∧ Binds K fd ["self", "start", "v", "end"] [] ∧ FnOk P w K mg base CX0 4 f fd ["self", "start", "v", "end"] (spAllBy CS)
/-! ### nodes_but -/
/-- the nodes but v -/
def othersN (g : Gq05.Graph) (v : Nat) : List Nat := (Gq05.nodes g).filter fun x => x != v
theorem nat_at {l : List Nat} {i : Nat} {z : V} (hz : (natsV l)[i]? = some z) : ∃ y, l[i]? = some y ∧ z = V.int (y : Int) := by
  unfold natsV at hz
  rw [List.getElem?_map, Option.map_eq_some_iff] at hz
  obtain ⟨y, hy, rfl⟩ := hz
  exact ⟨y, hy, rfl⟩
theorem take_snoc {l : List Nat} {i y : Nat} (hy : l[i]? = some y) : l.take (i + 1) = l.take i ++ [y] := by
  rw [List.take_add_one, hy]
  rfl
def spBut (C : Addr) : Sp := fun vs H Q _ => ∃ (a : Addr) (g : Gq05.Graph) (v : Nat), vs = [.ref a, .int (v : Int)] ∧ GraphAt C H a g ∧ Ok g ∧
  ∀ (H' : Hp) (q : Addr), Same H H' → H q = none → H' q = some (.lst (natsV (othersN g v))) → Q (.ref q) H'
theorem scBut : FnScope ["self", "x", "y"] ["self", "x"] (defScope sBut) := ⟨rfl, rfl, rfl, by decide +kernel, rfl, by decide +kernel, by decide +kernel⟩
theorem ok_but {f : Addr} {fd : FuncData} (F : Fun K "nodes_but" "Graph.nodes_but" sBut f fd) (X : Txt K mg C) (MN : NodesM P w K mg base C) : FnOk P w K mg base CX0 2 f fd ["self", "x"] (spBut C) := by
  obtain ⟨fn, fdn, mn, bn, GN⟩ := MN.ex
  refine F.ok scBut (fun vs H Q E h => ?_) (fun cdv A outer sh H vs Q E hr h => ?_)
  · obtain ⟨a, g, v, rfl, _⟩ := h
    rfl
  · obtain ⟨a, g, v, rfl, hg, ok, k⟩ := h
    obtain ⟨dxg, d, g1, g2⟩ := id hg
    refine ⟨_, pss_one (ps_ret (pe_lc (own := [("y", 2)]) (g := gName 2) rfl scBut.nd (pi_list (pe_meth0 (pv 0) X.cl mn GN hr bn .nil pass0)) (blkOk_by (own := [("y", 2)]) (N := ["self", "x", "y"]) (sc := defScope sBut) (by decide +kernel))
      (fun _ _ _ _ _ => pg_name (i := 2) scBut.nd rfl (Or.inl rfl)) (fun _ _ _ _ _ => pts_one (pt_cmpR op_ne (pv 2) (pv 1) (nomark _))) (fun _ _ _ _ _ => pv 2))), ?_⟩
    refine ⟨_, rfl, a, dxg, _, rfl, g1, gf_no _ _ (by decide +kernel) (by decide +kernel), a, g, rfl, hg, ok.le, fun nl hnl => ?_⟩
    have s0 := same_upd (o := .lst (nodesV g)) hnl
    refine ⟨nl, rfl, ⟨_, SqL.of upd_same⟩, fun D hD => ?_⟩
    have nDn : D ≠ nl := fun z => by rw [z, upd_same] at hD; cases hD
    have hD0 : H D = none := (upd_ne nDn).symm.trans hD
    refine lc_list (K := K) (a := nl) (xs := nodesV g) (fun i H1 => (∀ c o, upd H nl (.lst (nodesV g)) c = some o → H1 c = some o) ∧ H1 D = some (.lst (natsV (((Gq05.nodes g).take i).filter fun x => x != v)))) ⟨same_upd hD, upd_same⟩ (fun i H1 _ q => SqL.of (q.1 _ _ upd_same)) ?_ ?_
    · rintro i z H1 hz ⟨s1, hD1⟩
      obtain ⟨y, hy, rfl⟩ := nat_at (l := Gq05.nodes g) hz
      have tk := take_snoc hy
      refine ⟨rfl, _, rfl, _, rfl, rfl, _, rfl, ?_⟩
      by_cases hyv : y = v
      · refine no (by simp [hyv]) ⟨s1, ?_⟩
        rw [tk, List.filter_append, List.filter_cons, if_neg (by simp [hyv]), List.filter_nil, List.append_nil]
        exact hD1
      · refine yes (by
          simp only [Bool.not_eq_true', decide_eq_false_iff_not]
          intro z
          injection z with z
          omega) ⟨_, rfl, _, hD1, ?_, fun c o q => ?_, ?_⟩
        · unfold natsV
          rw [List.length_map]
          have := List.length_filter_le (fun x => x != v) ((Gq05.nodes g).take i)
          rw [List.length_take, WB.nodes_len] at this
          have := ok.le
          rw [sizeLine_eq]
          omega
        · rw [upd_ne (ne_of_none q hD)]
          exact s1 c o q
        · rw [upd_same, tk, List.filter_append, List.filter_cons, if_pos (by simpa using hyv), List.filter_nil]
          unfold natsV
          rw [List.map_append]
          rfl
    · rintro H1 ⟨s1, hD1⟩
      rw [List.take_of_length_le (by unfold nodesV; rw [List.length_map]; exact Nat.le_refl _)] at hD1
      exact k H1 D (fun c o q => s1 _ _ (s0 _ _ q)) hD0 hD1
structure ButM (P : Program) (w : World) (K : PySem.W.Frag) (mg : Str → Option Value) (base : Heap) (C : Addr) : Prop where
  ex : ∃ f fd, Meth K C "nodes_but" f ∧ Binds K fd ["self", "x"] [] ∧ FnOk P w K mg base CX0 2 f fd ["self", "x"] (spBut C)
theorem others_mem {g : Gq05.Graph} {v x : Nat} : x ∈ othersN g v ↔ Nd g x ∧ x ≠ v := by
  unfold othersN
  rw [List.mem_filter, WB.mem_nodes]
  simp
theorem others_len {g : Gq05.Graph} (ok : Ok g) (v : Nat) : (othersN g v).length ≤ 12 := by
  have := List.length_filter_le (fun x => x != v) (Gq05.nodes g)
  rw [WB.nodes_len] at this
  have := ok.le
  unfold othersN
  omega
/-! ### is_step, steps -/
theorem step_reach {g : Gq05.Graph} (o : Ok g) {x y e l : Nat} (hx : Nd g x) (hy : Nd g y) (he : Nd g e) (hl : Gq05.long? g x y = some l) {c : Nat × Nat} (hc : farT g y e = some c) : ∃ a, farT g x e = some a := by
  obtain ⟨f, hf, f1, f2, f3⟩ := WB.long_some hl
  have h1 := (far_pos o hy he hc).2.2.1.1
  have h2 := WB.W_first o hf e c.1
  rw [f1, f2] at h2
  obtain ⟨b, hb, _⟩ := WB.IsD.ex _ (Nat.lt_of_lt_of_le h1 h2)
  exact ⟨_, WB.far_some o hx hb⟩
def spIsStep (C CS : Addr) : Sp := fun vs H Q _ => ∃ (a b : Addr) (g : Gq05.Graph) (x y e : Nat), vs = [.ref a, .ref b, .int (x : Int), .int (y : Int), .int (e : Int)] ∧ ShortAt CS H a g ∧ GraphAt C H b g ∧ Ok g ∧ Nd g x ∧ Nd g y ∧ Nd g e ∧
  ∀ H' : Hp, Same H H' → Q (.bl (stepB g x y e)) H'
theorem scIsStep : FnScope ["self", "graph", "x", "y", "end"] ["self", "graph", "x", "y", "end"] (defScope sIsStep) := ⟨rfl, rfl, rfl, by decide +kernel, rfl, by decide +kernel, by decide +kernel⟩
theorem ext_same {H H' : Hp} (h : Same H H') : LamX.ExtN H H' := fun b o e _ => h b o e
theorem ok_isstep {f : Addr} {fd : FuncData} (F : Fun K "is_step" "Shortest.is_step" sIsStep f fd) (X : Txt K mg C) (XS : TxtS K mg CS) : FnOk P w K mg base CX0 1 f fd ["self", "graph", "x", "y", "end"] (spIsStep C CS) := by
  refine F.ok scIsStep (fun vs H Q E h => ?_) (fun cdv A outer sh H vs Q E hr h => ?_)
  · obtain ⟨a, b, g, x, y, e, rfl, _⟩ := h
    rfl
  · obtain ⟨a, b, g, x, y, e, rfl, hS, hg, ok, hx, hy, he, k⟩ := h
    have hu := hu_of hr
    obtain ⟨dxg, d, g1, g2⟩ := id hg
    refine ⟨_, pss_cons (ps_if (PW.pt (pw_or (pt_cmp (pc_dnotin hu (pe_tup (pa_cons (pv 2) (pa_cons (pv 3) pa_nil))) (pe_fld (pv 1) rfl))) (pw_or1 (pt_cmp (pc_dnotin hu (pv 4) (pe_dget hu (pe_fld (pv 0) rfl) (pv 3) (fun _ _ => rfl))))))) (pss_one (ps_ret pe_bl)) pss_nil)
      (pss_one (ps_ret (pe_cmpR op_eq (pe_op op_add (pe_dget hu (pe_fld (pv 1) rfl) (pe_tup (pa_cons (pv 2) (pa_cons (pv 3) pa_nil))) (fun _ _ => rfl)) (pe_dget hu (pe_dget hu (pe_fld (pv 0) rfl) (pv 3) (fun _ _ => rfl)) (pv 4) (fun _ _ => rfl)))
        (pe_dget hu (pe_dget hu (pe_fld (pv 0) rfl) (pv 2) (fun _ _ => rfl)) (pv 4) (fun _ _ => rfl)) (nomark _)))), ?_⟩
    refine ⟨_, rfl, _, rfl, (by show 2 ≤ sizeLine; decide), fun t ht => ?_⟩
    have s1 := same_upd (o := .tup [V.int (x : Int), V.int (y : Int)]) ht
    refine ⟨_, rfl, b, C, dxg, _, _, rfl, s1 _ _ g1, X.cl, X.nE, gf_edges _ _, d, _, rfl, DGet.t (k := ek x y) (s1 _ _ g2) upd_same, _, rfl, ?_⟩
    rw [long_val]
    unfold stepB at k
    cases hl : Gq05.long? g x y with
    | none =>
      rw [hl] at k
      exact iteT (iteT (k _ s1))
    | some l =>
      rw [hl] at k
      refine iteF ?_
      obtain ⟨dx, dl, dt, h1, rows⟩ := short_len (hS.ext (ext_same s1)) ok
      obtain ⟨py, qy, y1, y2, y3, y4, y5⟩ := rows y hy
      refine ⟨_, rfl, _, rfl, a, CS, dx, _, _, rfl, h1, XS.cl, XS.nL, sf_len _ _, _, rfl, dl, _, rfl, y1, py, _, rfl, (y5 e he).1, _, rfl, ?_⟩
      cases hc : farT g y e with
      | none =>
        have k0 : Q (.bl false) (upd H t (.tup [V.int (x : Int), V.int (y : Int)])) := by
          rw [hc] at k
          cases hf : farT g x e <;> rw [hf] at k <;> exact k _ s1
        exact iteT k0
      | some c =>
        obtain ⟨z, hz⟩ := step_reach ok hx hy he hl hc
        rw [hc, hz] at k
        dsimp only at k
        refine iteF ?_
        refine ⟨_, rfl, b, C, dxg, _, _, rfl, s1 _ _ g1, X.cl, X.nE, gf_edges _ _, _, rfl, _, rfl, (by show 2 ≤ sizeLine; decide), fun t2 ht2 => ?_⟩
        have s2 := s1.trans (same_upd (o := .tup [V.int (x : Int), V.int (y : Int)]) ht2)
        have gl := DGet.t (k := ek x y) (s2 _ _ g2) (upd_same (H := upd H t (.tup [V.int (x : Int), V.int (y : Int)])) (a := t2) (o := .tup [V.int (x : Int), V.int (y : Int)]))
        rw [long_val, hl] at gl
        obtain ⟨dx', dl', dt', h1', rows'⟩ := short_len (hS.ext (ext_same s2)) ok
        obtain ⟨py', qy', y1', y2', y3', y4', y5'⟩ := rows' y hy
        obtain ⟨px', qx', x1', x2', x3', x4', x5'⟩ := rows' x hx
        have d1 := (y5' e he).1
        have d2 := (x5' e he).1
        rw [hc] at d1
        rw [hz] at d2
        refine ⟨d, _, rfl, gl, _, rfl, a, CS, dx', _, _, rfl, h1', XS.cl, XS.nL, sf_len _ _, _, rfl, dl', _, rfl, y1', _, rfl, py', _, rfl, d1, _, _, rfl, rfl,
          _, rfl, a, CS, dx', _, _, rfl, h1', XS.cl, XS.nL, sf_len _ _, _, rfl, dl', _, rfl, x1', _, rfl, px', _, rfl, d2, rfl, ?_⟩
        have ed : decide (V.int ((l : Int) + (c.1 : Int)) = V.int (z.1 : Int)) = decide (l + c.1 = z.1) := by
          rw [decide_eq_decide]
          constructor
          · intro q
            injection q with q
            omega
          · intro q
            rw [← q, Int.natCast_add]
        have k2 := k _ s2
        rw [← ed] at k2
        exact k2
structure StepM (P : Program) (w : World) (K : PySem.W.Frag) (mg : Str → Option Value) (base : Heap) (C CS : Addr) : Prop where
  ex : ∃ f fd, Meth K CS "is_step" f ∧ Binds K fd ["self", "graph", "x", "y", "end"] [] ∧ FnOk P w K mg base CX0 1 f fd ["self", "graph", "x", "y", "end"] (spIsStep C CS)
def stepsN (g : Gq05.Graph) (x e : Nat) : List Nat := (Gq05.nodes g).filter fun y => stepB g x y e
def spSteps (C CS : Addr) : Sp := fun vs H Q _ => ∃ (a b : Addr) (g : Gq05.Graph) (x e : Nat), vs = [.ref a, .ref b, .int (x : Int), .int (e : Int)] ∧ ShortAt CS H a g ∧ GraphAt C H b g ∧ Ok g ∧ Nd g x ∧ Nd g e ∧
  ∀ (H' : Hp) (q : Addr), Same H H' → H q = none → H' q = some (.lst (natsV (stepsN g x e))) → Q (.ref q) H'
theorem scSteps : FnScope ["self", "graph", "x", "end", "y"] ["self", "graph", "x", "end"] (defScope sSteps) := ⟨rfl, rfl, rfl, by decide +kernel, rfl, by decide +kernel, by decide +kernel⟩
theorem ok_steps {f : Addr} {fd : FuncData} (F : Fun K "steps" "Shortest.steps" sSteps f fd) (X : Txt K mg C) (XS : TxtS K mg CS) (MN : NodesM P w K mg base C) (MS : StepM P w K mg base C CS) : FnOk P w K mg base CX0 2 f fd ["self", "graph", "x", "end"] (spSteps C CS) := by
  obtain ⟨fn, fdn, mn, bn, GN⟩ := MN.ex
  obtain ⟨fs, fds, ms, bs, GS⟩ := MS.ex
  refine F.ok scSteps (fun vs H Q E h => ?_) (fun cdv A outer sh H vs Q E hr h => ?_)
  · obtain ⟨a, b, g, x, e, rfl, _⟩ := h
    rfl
  · obtain ⟨a, b, g, x, e, rfl, hS, hg, ok, hx, he, k⟩ := h
    obtain ⟨dxg, d, g1, g2⟩ := id hg
    obtain ⟨dx, dl, dt, h1, _⟩ := short_len hS ok
    refine ⟨_, pss_one (ps_ret (pe_lc (own := [("y", 4)]) (g := gName 4) rfl scSteps.nd (pi_list (pe_meth0 (pv 1) X.cl mn GN hr bn .nil pass0)) (blkOk_by (own := [("y", 4)]) (N := ["self", "graph", "x", "end", "y"]) (sc := defScope sSteps) (by decide +kernel))
      (fun _ _ _ _ _ => pg_name (i := 4) scSteps.nd rfl (Or.inl rfl)) (fun _ _ _ _ _ => pts_one (pt_val (pe_meth (pv 0) XS.cl ms GS hr bs .nil pass0 (pa_cons (pv 1) (pa_cons (pv 2) (pa_cons (pv 4) (pa_cons (pv 3) pa_nil)))))))
      (fun _ _ _ _ _ => pv 4))), ?_⟩
    refine ⟨_, rfl, b, dxg, _, rfl, g1, gf_no _ _ (by decide +kernel) (by decide +kernel), b, g, rfl, hg, ok.le, fun nl hnl => ?_⟩
    have s0 := same_upd (o := .lst (nodesV g)) hnl
    refine ⟨nl, rfl, ⟨_, SqL.of upd_same⟩, fun D hD => ?_⟩
    have nDn : D ≠ nl := fun z => by rw [z, upd_same] at hD; cases hD
    have hD0 : H D = none := (upd_ne nDn).symm.trans hD
    refine lc_list (K := K) (a := nl) (xs := nodesV g) (fun i H1 => (∀ c o, upd H nl (.lst (nodesV g)) c = some o → H1 c = some o) ∧ H1 D = some (.lst (natsV (((Gq05.nodes g).take i).filter fun y => stepB g x y e)))) ⟨same_upd hD, upd_same⟩ (fun i H1 _ q => SqL.of (q.1 _ _ upd_same)) ?_ ?_
    · rintro i z H1 hz ⟨s1, hD1⟩
      obtain ⟨y, hy, rfl⟩ : ∃ y, (Gq05.nodes g)[i]? = some y ∧ z = V.int (y : Int) := by
        unfold nodesV at hz
        rw [List.getElem?_map, Option.map_eq_some_iff] at hz
        obtain ⟨y, hy, rfl⟩ := hz
        exact ⟨y, hy, rfl⟩
      have hyn : Nd g y := WB.mem_nodes.mp (List.mem_of_getElem? hy)
      have sH : Same H H1 := fun c o q => s1 _ _ (s0 _ _ q)
      have tk : (Gq05.nodes g).take (i + 1) = (Gq05.nodes g).take i ++ [y] := by
        rw [List.take_add_one, hy]
        rfl
      refine ⟨rfl, ?_⟩
      refine ⟨_, rfl, a, dx, _, rfl, sH _ _ h1, sf_no _ _ (by decide +kernel) (by decide +kernel), _, rfl, _, rfl, _, rfl, _, rfl, a, b, g, x, y, e, rfl, hS.ext (ext_same sH), hg.same sH, ok, hx, hyn, he, fun H2 s2 => ⟨_, rfl, ?_⟩⟩
      have hD2 := s2 _ _ hD1
      cases hb : stepB g x y e with
      | true =>
        refine iteT ⟨_, rfl, _, hD2, ?_, fun c o q => ?_, ?_⟩
        · unfold natsV
          rw [List.length_map]
          have := List.length_filter_le (fun y => stepB g x y e) ((Gq05.nodes g).take i)
          rw [List.length_take, WB.nodes_len] at this
          have := ok.le
          rw [sizeLine_eq]
          omega
        · rw [upd_ne (ne_of_none q hD)]
          exact s2 _ _ (s1 c o q)
        · rw [upd_same, tk, List.filter_append, List.filter_cons, if_pos hb, List.filter_nil]
          unfold natsV
          rw [List.map_append]
          rfl
      | false =>
        refine iteF ⟨fun c o q => s2 _ _ (s1 c o q), ?_⟩
        rw [tk, List.filter_append, List.filter_cons, if_neg (by rw [hb]; simp), List.filter_nil, List.append_nil]
        exact hD2
    · rintro H1 ⟨s1, hD1⟩
      rw [List.take_of_length_le (by unfold nodesV; rw [List.length_map]; exact Nat.le_refl _)] at hD1
      exact k H1 D (fun c o q => s1 _ _ (s0 _ _ q)) hD0 hD1
end
end WF
end
section
set_option Elab.async false
set_option linter.all false
set_option maxRecDepth 100000
set_option maxHeartbeats 4000000
namespace WF
open PySem PySem.Spec PyProof.Rows L2
open WB (Ok ND ndGet ndPut IsD W Lens)
abbrev sFar : Stmt := top 20
abbrev sWay : Stmt := top 21
abbrev sNum : Stmt := top 22
/-! ### the mathematics of way -/
/-- the specification's choice among the next nodes -/
abbrev pickF : Option Nat × Nat → Nat × Nat → Option Nat × Nat := fun a y => match a.1 with
  | some z => (some z, a.2)
  | none => if a.2 < y.2 then (some y.1, a.2) else (none, a.2 - y.2)
theorem pick_done (z k : Nat) : ∀ l : List (Nat × Nat), l.foldl pickF (some z, k) = (some z, k)
  | [] => rfl
  | _ :: l => pick_done z k l
theorem pick_at : ∀ (l : List (Nat × Nat)) (k p : Nat) (y : Nat × Nat), l[p]? = some y → ((l.take p).map fun q => q.2).sum ≤ k → k - ((l.take p).map fun q => q.2).sum < y.2 → l.foldl pickF (none, k) = (some y.1, k - ((l.take p).map fun q => q.2).sum)
  | [], k, p, y, h, _, _ => by simp at h
  | q :: l, k, 0, y, h, _, h2 => by
    have e : q = y := Option.some.inj h
    subst e
    have h2 : k < q.2 := by simpa using h2
    rw [List.foldl_cons]
    show l.foldl pickF (if k < q.2 then (some q.1, k) else (none, k - q.2)) = _
    rw [if_pos h2, pick_done]
    rfl
  | q :: l, k, p + 1, y, h, h1, h2 => by
    rw [List.take_succ_cons, List.map_cons, List.sum_cons] at h1 h2 ⊢
    rw [List.foldl_cons]
    show l.foldl pickF (if k < q.2 then (some q.1, k) else (none, k - q.2)) = _
    rw [if_neg (by omega), pick_at l (k - q.2) p y h (by omega) (by rw [Nat.sub_sub]; exact h2), Nat.sub_sub]
section
variable {g : Gq05.Graph}
def nextF (g : Gq05.Graph) (s e y : Nat) : Option (Nat × Nat) := match Gq05.long? g s y, Gq05.far (Gq05.table g) s e, Gq05.far (Gq05.table g) y e with
  | some l, some a, some c => if l + c.1 = a.1 then some (y, c.2) else none
  | _, _, _ => none
theorem way_unf (g : Gq05.Graph) (f s e k : Nat) : Gq05.wayFrom g (Gq05.table g) (f + 1) s e k = if s = e then [e] else match (((Gq05.nodes g).filterMap (nextF g s e)).foldl pickF (none, k)).1 with
    | none => []
    | some y => s :: Gq05.wayFrom g (Gq05.table g) f y e (((Gq05.nodes g).filterMap (nextF g s e)).foldl pickF (none, k)).2 := by
  rw [Gq05.wayFrom]
  rfl
theorem nexts_eq (g : Gq05.Graph) (s e : Nat) : (Gq05.nodes g).filterMap (nextF g s e) = (stepsN g s e).map fun y => (y, waysT g y e) := by
  unfold stepsN nextF
  induction Gq05.nodes g with
  | nil => rfl
  | cons y l ih =>
    rw [List.filterMap_cons, List.filter_cons, ih]
    unfold stepB
    cases h1 : Gq05.long? g s y with
    | none => rfl
    | some l1 =>
      cases h2 : Gq05.far (Gq05.table g) s e with
      | none =>
        rw [show farT g s e = none from h2]
        rfl
      | some a =>
        rw [show farT g s e = some a from h2]
        cases h3 : Gq05.far (Gq05.table g) y e with
        | none =>
          rw [show farT g y e = none from h3]
          rfl
        | some c =>
          rw [show farT g y e = some c from h3]
          dsimp only
          by_cases h4 : l1 + c.1 = a.1
          · rw [if_pos h4, if_pos (by simpa using h4), List.map_cons]
            have : waysT g y e = c.2 := by rw [ways_far, show farT g y e = some c from h3]; rfl
            rw [this]
          · rw [if_neg h4, if_neg (by simpa using h4)]
/-- the ways by the next nodes are all ways -/
theorem steps_sum (o : Ok g) {s e : Nat} (hs : Nd g s) (he : Nd g e) (hne : s ≠ e) : ((stepsN g s e).map fun y => waysT g y e).sum = waysT g s e := by
  rcases WB.far_cases o hs he with ⟨h1, h2⟩ | ⟨b, h1, h2⟩
  · have h1 : farT g s e = none := h1
    have : stepsN g s e = [] := by
      unfold stepsN
      refine List.filter_eq_nil_iff.mpr fun y _ => ?_
      unfold stepB
      rw [h1]
      cases Gq05.long? g s y <;> simp
    rw [this, ways_far, h1]
    rfl
  · have h1 : farT g s e = some (b, W g.edges s e b) := h1
    rw [ways_far, h1]
    show _ = W g.edges s e b
    rw [WB.count_out o hne]
    unfold stepsN
    rw [← WB.sum_if]
    refine WB.sum_congr _ fun y hy => ?_
    have hy := WB.mem_nodes.mp hy
    unfold stepB
    rw [h1]
    cases hl : Gq05.long? g s y with
    | none => rfl
    | some l =>
      dsimp only
      obtain ⟨f, hf, f1, f2, f3⟩ := WB.long_some hl
      have low : ∀ c, 0 < W g.edges y e c → b ≤ c + l := fun c hc => by
        have h3 := WB.W_first o hf e c
        rw [f1, f2, f3] at h3
        exact h2.le (by omega)
      rcases WB.far_cases o hy he with ⟨h3, h4⟩ | ⟨c, h3, h4⟩
      · rw [show farT g y e = none from h3, if_neg (by simp)]
        split
        · rcases Nat.eq_zero_or_pos (W g.edges y e (b - l)) with q | q
          · exact q.symm
          · obtain ⟨c, hc, _⟩ := IsD.ex _ q
            exact absurd hc (h4 c)
        · rfl
      · have h3' : farT g y e = some (c, W g.edges y e c) := h3
        rw [h3']
        dsimp only
        have wy : waysT g y e = W g.edges y e c := by rw [ways_far, h3']; rfl
        by_cases h5 : l + c = b
        · rw [if_pos (by simpa using h5), if_pos (by omega), wy, show b - l = c by omega]
        · rw [if_neg (by simpa using h5)]
          split
          · rcases Nat.eq_zero_or_pos (W g.edges y e (b - l)) with q | q
            · exact q.symm
            · have h6 := h4.le q
              have h7 := low c h4.1
              omega
          · rfl
/-- how many nodes are nearer to e -/
def rankTo (g : Gq05.Graph) (e b : Nat) : Nat := ((Gq05.nodes g).filter fun z => (List.range b).any fun c => W g.edges z e c != 0).length
theorem toward_iff {e b z : Nat} : ((List.range b).any fun c => W g.edges z e c != 0) = true ↔ ∃ c, c < b ∧ 0 < W g.edges z e c := by
  rw [List.any_eq_true]
  constructor
  · rintro ⟨c, hc, h⟩
    have h : W g.edges z e c ≠ 0 := by simpa using h
    exact ⟨c, List.mem_range.mp hc, by omega⟩
  · rintro ⟨c, hc, h⟩
    have h : W g.edges z e c ≠ 0 := by omega
    exact ⟨c, List.mem_range.mpr hc, by simpa using h⟩
theorem rankTo_lt {e a b z : Nat} (hz : Nd g z) (h : IsD g.edges z e a) (hab : a < b) : rankTo g e a < rankTo g e b := by
  unfold rankTo
  refine WB.filter_lt (x := z) (fun x _ hx => ?_) (WB.mem_nodes.mpr hz) (toward_iff.mpr ⟨a, hab, h.1⟩) ?_
  · obtain ⟨c, hc, hw⟩ := toward_iff.mp hx
    exact toward_iff.mpr ⟨c, by omega, hw⟩
  · rw [Bool.eq_false_iff]
    intro q
    obtain ⟨c, hc, hw⟩ := toward_iff.mp q
    have := h.2 c hc
    omega
theorem rankTo_le (g : Gq05.Graph) (e b : Nat) : rankTo g e b ≤ g.many := by
  unfold rankTo
  refine Nat.le_trans (List.length_filter_le ..) ?_
  rw [WB.nodes_len]
  exact Nat.le_refl _
/-- one step of the specification's way -/
theorem way_step {f s e k p y : Nat} (hne : s ≠ e) (hy : (stepsN g s e)[p]? = some y) (h1 : (((stepsN g s e).take p).map fun y => waysT g y e).sum ≤ k) (h2 : k - (((stepsN g s e).take p).map fun y => waysT g y e).sum < waysT g y e) :
    Gq05.wayFrom g (Gq05.table g) (f + 1) s e k = s :: Gq05.wayFrom g (Gq05.table g) f y e (k - (((stepsN g s e).take p).map fun y => waysT g y e).sum) := by
  rw [way_unf, if_neg hne, nexts_eq]
  have es : (((stepsN g s e).map fun y => (y, waysT g y e)).take p).map (fun q => q.2) = ((stepsN g s e).take p).map fun y => waysT g y e := by
    rw [← List.map_take, List.map_map]
    rfl
  have := pick_at ((stepsN g s e).map fun y => (y, waysT g y e)) k p (y, waysT g y e) (by rw [List.getElem?_map, hy]; rfl) (by rw [es]; exact h1) (by rw [es]; exact h2)
  rw [es] at this
  rw [this]
theorem way_end {f e k : Nat} : Gq05.wayFrom g (Gq05.table g) (f + 1) e e k = [e] := by
  rw [Gq05.wayFrom, if_pos rfl]
/-- a next node is nearer -/
theorem step_near (o : Ok g) {s e y : Nat} (hs : Nd g s) (he : Nd g e) (hy : y ∈ stepsN g s e) : Nd g y ∧ ∃ a c, farT g s e = some a ∧ farT g y e = some c ∧ c.1 < a.1 := by
  unfold stepsN at hy
  obtain ⟨h1, h2⟩ := List.mem_filter.mp hy
  unfold stepB at h2
  split at h2
  · rename_i l a c e1 e2 e3
    obtain ⟨f, hf, _, _, f3⟩ := WB.long_some e1
    have := (o.ed f hf).2.2.2.1
    have h2 : l + c.1 = a.1 := by simpa using h2
    exact ⟨WB.mem_nodes.mp h1, a, c, e2, e3, by omega⟩
  · cases h2
end
/-! ### far, numbered_way, way -/
section
variable {P : Program} {w : World} {K : PySem.W.Frag} {mg : Str → Option Value} {base : Heap} {C CS : Addr} {T : List (Addr × Str)}
/-- a call that asks: it answers what the specification's step does -/
def spAsk (C : Addr) (T : List (Addr × Str)) (args : List V) (c : Gq05.Call) : Sp := fun vs H Q _ => ∃ (a : Addr) (g : Gq05.Graph), vs = .ref a :: args ∧ GraphAt C H a g ∧ Ok g ∧ LamX.Tabs T H ∧
  ∀ (H' : Hp) (p : Addr), LamX.ExtN H H' → LamX.Tabs T H' → H' p = some (.lst (outV (Gq05.step g c).2)) → NL H p → Q (.ref p) H'
theorem nl_ext {H H' : Hp} (k : LamX.ExtN H H') {p : Addr} (h : H' p = none) : NL H p := fun xs e => by
  rw [k _ _ e (fun _ z => by cases z)] at h
  cases h
theorem ext_upd {H : Hp} {p : Addr} {o : HO} (h : H p = none) : LamX.ExtN H (upd H p o) := ext_same (same_upd h)
structure MakeS (P : Program) (w : World) (K : PySem.W.Frag) (mg : Str → Option Value) (base : Heap) (C CS : Addr) (T : List (Addr × Str)) : Prop where
  ex : ∃ f fd, Mk K CS f ∧ Binds K fd ["self", "graph"] [] ∧ FnOk P w K mg base CX0 5 f fd ["self", "graph"] (spSInit C CS T)
/-- Shortest(graph) -/
theorem made_short {H : Hp} {a x dx : Addr} {g : Gq05.Graph} (hg : GraphAt C H a g) (ok : Ok g) (hT : LamX.Tabs T H) (hx : H x = none) (hdx : H dx = none) (hne : dx ≠ x) {Qp : VK} {E : XK} (k : ∀ (H' : Hp), LamX.ExtN H H' → LamX.Tabs T H' → ShortAt CS H' x g → Qp .non H') :
    spSInit C CS T [.ref x, .ref a] (upd (upd H dx (.own x)) x (.ins CS dx [])) Qp E := by
  have s1 : Same H (upd (upd H dx (.own x)) x (.ins CS dx [])) := fun b o e => by
    rw [upd_ne (ne_of_none e hx), upd_ne (ne_of_none e hdx)]
    exact e
  obtain ⟨dxg, d, g1, g2⟩ := id hg
  exact ⟨x, dx, a, g, rfl, upd_same, hg.same s1, ok, hT.ext s1, ne_of_none g1 hx, fun H' hS kp T' => k H' (fun b o e n => kp b o (s1 _ _ e) (ne_of_none e hx) n) T' hS⟩
theorem scFar : FnScope ["graph", "x", "y", "shortest"] ["graph", "x", "y"] (defScope sFar) := ⟨rfl, rfl, rfl, by decide +kernel, rfl, by decide +kernel, by decide +kernel⟩
def spFar (C : Addr) (T : List (Addr × Str)) : Sp := fun vs H Q E => ∃ (x y : Nat), spAsk C T [.int (x : Int), .int (y : Int)] (.far x y) vs H Q E
theorem nd_of {g : Gq05.Graph} {x : Nat} (h : Gq05.isNode g x = true) : Nd g x := by
  unfold Gq05.isNode at h
  rw [Bool.and_eq_true, decide_eq_true_eq, decide_eq_true_eq] at h
  exact h
theorem ok_far {f : Addr} {fd : FuncData} (F : Fun K "far" "far" sFar f fd) (X : Txt K mg C) (XS : TxtS K mg CS) (MH : HasM P w K mg base C) (MS : MakeS P w K mg base C CS T) (MT : TotalM P w K mg base CS) : FnOk P w K mg base CX0 7 f fd ["graph", "x", "y"] (spFar C T) := by
  obtain ⟨fh, fdh, mh, bh, GH⟩ := MH.ex
  obtain ⟨fi, fdi, mki, bi, GI⟩ := MS.ex
  obtain ⟨ft, fdt, mt, bt, GT⟩ := MT.ex
  refine F.ok scFar (fun vs H Q E h => ?_) (fun cdv A outer sh H vs Q E hr h => ?_)
  · obtain ⟨x, y, a, g, rfl, _⟩ := h
    rfl
  · obtain ⟨x, y, a, g, rfl, hg, ok, hT, k⟩ := h
    have hu := hu_of hr
    have hr1 : Room 1 _ := hr.mono (by decide)
    obtain ⟨t1, m1⟩ := X.told
    obtain ⟨t2, m2⟩ := X.there
    obtain ⟨dxg, d, g1, g2⟩ := id hg
    have n0 := gf_no g.many d (m := "has_node") (by decide +kernel) (by decide +kernel)
    refine ⟨_, pss_cons (ps_if (PW.pt (pw_or (pt_not (pt_val (pe_meth (pv 0) X.cl mh GH hr1 bh .nil pass0 (pa_cons (pv 1) pa_nil)))) (pw_or1 (pt_not (pt_val (pe_meth (pv 0) X.cl mh GH hr1 bh .nil pass0 (pa_cons (pv 2) pa_nil))))))) (pss_one (ps_ret (pe_lst (pa_cons (pe_glob rfl m1 ri) pa_nil)))) pss_nil)
      (pss_cons (ps_set (i := 3) scFar.nd rfl (Or.inl rfl) (pe_make mki GI hr (by rfl) XS.mgC bi .nil pass0 (pa_cons (pv 0) pa_nil)))
      (pss_cons (ps_if (pt_cmpR op_eq (pe_meth (pv 3) XS.cl mt GT hr1 bt .nil pass0 (pa_cons (pv 1) (pa_cons (pv 2) pa_nil))) pe_int (nomark _)) (pss_one (ps_ret (pe_lst (pa_cons (pe_glob rfl m2 ri) pa_nil)))) pss_nil)
      (pss_one (ps_ret (pe_lst (pa_cons (pe_dget hu (pe_dget hu (pe_fld (pv 3) rfl) (pv 1) (fun _ _ => rfl)) (pv 2) (fun _ _ => rfl)) (pa_cons (pe_meth (pv 3) XS.cl mt GT hr1 bt .nil pass0 (pa_cons (pv 1) (pa_cons (pv 2) pa_nil))) pa_nil))))))), ?_⟩
    have ks : (Gq05.step g (.far x y)).2 = if Gq05.isNode g x = false ∨ Gq05.isNode g y = false then [-1] else match farT g x y with
      | none => [-3]
      | some a => Gq05.ints [a.1, a.2] := rfl
    rw [ks] at k
    have no1 : Gq05.isNode g x = false ∨ Gq05.isNode g y = false → ∀ p, H p = none → Q (.ref p) (upd H p (.lst [.int (-1)])) := fun hn p hp => by
      rw [if_pos hn] at k
      exact k _ p (ext_upd hp) (hT.ext (same_upd hp)) upd_same (nl_none hp)
    refine ⟨_, rfl, a, dxg, _, rfl, g1, n0, _, rfl, a, g, x, rfl, hg, _, rfl, ?_⟩
    rw [isNode_iff]
    cases hx : Gq05.isNode g x with
    | false => exact iteT (iteT ⟨(by show 1 ≤ sizeLine; decide), no1 (.inl hx)⟩)
    | true =>
      refine iteF ⟨_, rfl, a, dxg, _, rfl, g1, n0, _, rfl, a, g, y, rfl, hg, _, rfl, ?_⟩
      rw [isNode_iff]
      cases hy : Gq05.isNode g y with
      | false => exact iteT ⟨(by show 1 ≤ sizeLine; decide), no1 (.inr hy)⟩
      | true =>
        refine iteF ?_
        have hxn := nd_of hx
        have hyn := nd_of hy
        rw [if_neg (by rw [hx, hy]; simp)] at k
        refine ⟨_, rfl, fun b dxb hb hdxb hneb => made_short hg ok hT hb hdxb hneb fun H1 e1 T1 hS => ⟨rfl, ?_⟩⟩
        obtain ⟨dx, dl, dt, h1, rows⟩ := short_len hS ok
        have n1 := sf_no dl dt (m := "total") (by decide +kernel) (by decide +kernel)
        refine ⟨_, rfl, b, dx, _, rfl, h1, n1, _, rfl, _, rfl, b, g, x, y, rfl, hS, ok, hxn, hyn, rfl, _, rfl, ?_⟩
        cases hf : farT g x y with
        | none =>
          rw [hf] at k
          have wz : waysT g x y = 0 := (ways_zero ok hxn hyn).mpr hf
          refine yes (by rw [decide_eq_true_eq, wz]; rfl) ⟨(by show 1 ≤ sizeLine; decide), fun p hp => ?_⟩
          exact k _ p (e1.trans (ext_upd hp)) (T1.ext (same_upd hp)) upd_same (nl_ext e1 hp)
        | some z =>
          rw [hf] at k
          have wz : waysT g x y = z.2 := by rw [ways_far, hf]; rfl
          have zp := (far_pos ok hxn hyn hf).1
          refine no (by
            rw [decide_eq_true_eq, wz]
            intro q
            injection q with q
            omega) ?_
          obtain ⟨px, qx, x1, _, _, _, x5⟩ := rows x hxn
          have d1 := (x5 y hyn).1
          rw [hf] at d1
          refine ⟨_, rfl, b, CS, dx, _, _, rfl, h1, XS.cl, XS.nL, sf_len _ _, _, rfl, dl, _, rfl, x1, _, rfl, px, _, rfl, d1, _, rfl, b, dx, _, rfl, h1, n1, _, rfl, _, rfl, b, g, x, y, rfl, hS, ok, hxn, hyn, (by show 2 ≤ sizeLine; decide), fun p hp => ?_⟩
          refine k _ p (e1.trans (ext_upd hp)) (T1.ext (same_upd hp)) ?_ (nl_ext e1 hp)
          rw [upd_same, wz]
          rfl
end
end WF
end
section
set_option Elab.async false
set_option linter.all false
set_option maxRecDepth 100000
set_option maxHeartbeats 4000000
namespace WF
open PySem PySem.Spec PyProof.Rows L2
open WB (Ok ND ndGet ndPut IsD W Lens)
section
variable {P : Program} {w : World} {K : PySem.W.Frag} {mg : Str → Option Value} {base : Heap} {C CS : Addr} {T : List (Addr × Str)}
structure StepsM (P : Program) (w : World) (K : PySem.W.Frag) (mg : Str → Option Value) (base : Heap) (C CS : Addr) : Prop where
  ex : ∃ f fd, Meth K CS "steps" f ∧ Binds K fd ["self", "graph", "x", "end"] [] ∧ FnOk P w K mg base CX0 2 f fd ["self", "graph", "x", "end"] (spSteps C CS)
def wayN (g : Gq05.Graph) (x y k : Nat) : List Nat := Gq05.wayFrom g (Gq05.table g) (g.many + 1) x y k
def spNum (C CS : Addr) : Sp := fun vs H Q _ => ∃ (a b : Addr) (g : Gq05.Graph) (x y k : Nat), vs = [.ref a, .ref b, .int (x : Int), .int (y : Int), .int (k : Int)] ∧ GraphAt C H a g ∧ ShortAt CS H b g ∧ Ok g ∧ Nd g x ∧ Nd g y ∧ k < waysT g x y ∧
  ∀ (H' : Hp) (q : Addr), Same H H' → H q = none → H' q = some (.lst (natsV (wayN g x y k))) → (wayN g x y k).length ≤ 14 → Q (.ref q) H'
theorem scNum : FnScope ["graph", "shortest", "x", "y", "k", "row", "ahead", "steps", "place"] ["graph", "shortest", "x", "y", "k"] (defScope sNum) := ⟨rfl, rfl, rfl, by decide +kernel, rfl, by decide +kernel, by decide +kernel⟩
theorem natsV_app (l m : List Nat) : natsV (l ++ m) = natsV l ++ natsV m := by
  unfold natsV
  rw [List.map_append]
theorem natsV_len (l : List Nat) : (natsV l).length = l.length := by
  unfold natsV
  rw [List.length_map]
theorem natsV_at {l : List Nat} {i n : Nat} (h : l[i]? = some n) : atI (natsV l) (i : Int) = some (V.int (n : Int)) := atI_nat (by unfold natsV; rw [List.getElem?_map, h]; rfl)
theorem natsV_last (l : List Nat) (n : Nat) : atI (natsV (l ++ [n])) (-1) = some (V.int (n : Int)) := by
  rw [natsV_app]
  exact atI_last (natsV l) _
theorem ok_num {f : Addr} {fd : FuncData} (F : Fun K "numbered_way" "numbered_way" sNum f fd) (X : Txt K mg C) (XS : TxtS K mg CS) (MS : StepsM P w K mg base C CS) (MT : TotalM P w K mg base CS) : FnOk P w K mg base CX0 3 f fd ["graph", "shortest", "x", "y", "k"] (spNum C CS) := by
  obtain ⟨fs, fds, ms, bs, GS⟩ := MS.ex
  obtain ⟨ft, fdt, mt, bt, GT⟩ := MT.ex
  refine F.ok scNum (fun vs H Q E h => ?_) (fun cdv A outer sh H vs Q E hr h => ?_)
  · obtain ⟨a, b, g, x, y, k, rfl, _⟩ := h
    rfl
  · obtain ⟨a, b, g, x, y, k, rfl, hg, hS, ok, hx, hy, hk, fin⟩ := h
    have hr1 : Room 1 _ := hr.mono (by decide)
    refine ⟨_, pss_cons (ps_set (i := 5) scNum.nd rfl (Or.inl rfl) (pe_lst (pa_cons (pv 2) pa_nil))) (pss_cons (ps_set (i := 6) scNum.nd rfl (Or.inl rfl) (pv 4))
      (pss_cons (ps_while PassesOwn.never (pt_cmpR op_ne (pe_ix ix_list (pv 5) (pe_un un_neg pe_int) (fun _ _ => rfl)) (pv 3) (nomark _))
        (pss_cons (ps_set (i := 7) scNum.nd rfl (Or.inl rfl) (pe_meth (pv 1) XS.cl ms GS hr bs .nil pass0 (pa_cons (pv 0) (pa_cons (pe_ix ix_list (pv 5) (pe_un un_neg pe_int) (fun _ _ => rfl)) (pa_cons (pv 3) pa_nil)))))
        (pss_cons (ps_set (i := 8) scNum.nd rfl (Or.inl rfl) pe_int)
        (pss_cons (ps_while PassesOwn.never (pt_cmpR op_ge (pv 6) (pe_meth (pv 1) XS.cl mt GT hr1 bt .nil pass0 (pa_cons (pe_ix ix_list (pv 7) (pv 8) (fun _ _ => rfl)) (pa_cons (pv 3) pa_nil))) (nomark _))
          (pss_cons (ps_aug (i := 6) scNum.nd rfl (.inl rfl) (pe_meth (pv 1) XS.cl mt GT hr1 bt .nil pass0 (pa_cons (pe_ix ix_list (pv 7) (pv 8) (fun _ _ => rfl)) (pa_cons (pv 3) pa_nil))) ip_sub)
          (pss_one (ps_aug (i := 8) scNum.nd rfl (.inl rfl) pe_int ip_add))))
        (pss_one (ps_expr (pe_bm PySem.F.plainAttrs_list PySem.F.slot_list_append PySem.F.type_list_append mt_append (pv 5) (pa_cons (pe_ix ix_list (pv 7) (pv 8) (fun _ _ => rfl)) pa_nil)))))))
      ) (pss_one (ps_ret (pv 5))))), ?_⟩
    -- row = [x]; ahead = k
    refine ⟨_, rfl, (by show 1 ≤ sizeLine; decide), fun r hr0 => ⟨_, rfl, ?_⟩⟩
    obtain ⟨dx, dl, dt, h1, _⟩ := short_len hS ok
    have n1 := sf_no dl dt (m := "total") (by decide +kernel) (by decide +kernel)
    have n2 := sf_no dl dt (m := "steps") (by decide +kernel) (by decide +kernel)
    have some_far : ∀ {z kk : Nat}, Nd g z → kk < waysT g z y → ∃ c, farT g z y = some c := fun {z kk} hz hkk => by
      cases hf : farT g z y with
      | none => rw [(ways_zero ok hz hy).mpr hf] at hkk; omega
      | some c => exact ⟨c, rfl⟩
    obtain ⟨c0, hc0⟩ := some_far hx hk
    refine ⟨fun m σ H' => ∃ (fl : Nat) (rw_ : List Nat) (cur kk : Nat) (c : Nat × Nat) (v7 v8 : Option V), σ = [some (.ref a), some (.ref b), some (.int (x : Int)), some (.int (y : Int)), some (.int (k : Int)), some (.ref r), some (.int (kk : Int)), v7, v8] ∧ Same H H' ∧
      H' r = some (.lst (natsV (rw_ ++ [cur]))) ∧ Nd g cur ∧ kk < waysT g cur y ∧ farT g cur y = some c ∧ m = c.1 ∧ rankTo g y c.1 < fl ∧ rw_.length + fl = g.many + 1 ∧ wayN g x y k = rw_ ++ Gq05.wayFrom g (Gq05.table g) fl cur y kk,
      ⟨c0.1, g.many + 1, [], x, k, c0, none, none, rfl, same_upd hr0, upd_same, hx, hk, hc0, rfl, Nat.lt_succ_of_le (rankTo_le ..), by simp, rfl⟩, ?_⟩
    rintro m σ H1 ⟨fl, rw_, cur, kk, c, v7, v8, rfl, s1, hr1', hcur, hkk, hc, rfl, hrk, hlen, hway⟩
    have lastR := natsV_last rw_ cur
    refine ⟨_, rfl, 1, rfl, r, _, _, _, rfl, rfl, SqL.of hr1', lastR, _, rfl, rfl, _, rfl, ?_⟩
    obtain ⟨fl', rfl⟩ : ∃ fl', fl = fl' + 1 := ⟨fl - 1, by omega⟩
    by_cases hcy : cur = y
    · refine no (by simp [hcy]) ?_
      refine ⟨_, rfl, ?_⟩
      rw [hcy, way_end] at hway
      refine fin H1 r s1 hr0 ?_ ?_
      · rw [hway, ← hcy]
        exact hr1'
      · rw [hway, List.length_append]
        have := ok.le
        simp
        omega
    · refine yes (by
        simp only [Bool.not_eq_true', decide_eq_false_iff_not]
        intro z
        injection z with z
        omega) ?_
      refine ⟨_, fun _ _ q => q, ?_⟩
      -- steps = shortest.steps(graph, row[-1], y); place = 0
      refine ⟨_, rfl, b, dx, _, rfl, s1 _ _ h1, n2, _, rfl, _, rfl, 1, rfl, r, _, _, _, rfl, rfl, SqL.of hr1', lastR, _, rfl, b, a, g, cur, y, rfl, hS.ext (ext_same s1), hg.same s1, ok, hcur, hy, fun H2 sl s2 hsl hl2 => ?_⟩
      have s12 : Same H H2 := s1.trans s2
      have hr2' := s2 _ _ hr1'
      have tot : ((stepsN g cur y).map fun z => waysT g z y).sum = waysT g cur y := steps_sum ok hcur hy hcy
      -- the turn of the inner loop asks: a place within the steps
      have sumlt : ∀ p aa, (((stepsN g cur y).take p).map fun z => waysT g z y).sum + aa = kk → p < (stepsN g cur y).length := fun p aa h => by
        rcases Nat.lt_or_ge p (stepsN g cur y).length with q | q
        · exact q
        · rw [List.take_of_length_le q, tot] at h
          omega
      refine ⟨fun m σ H' => ∃ (p aa : Nat), σ = [some (.ref a), some (.ref b), some (.int (x : Int)), some (.int (y : Int)), some (.int (k : Int)), some (.ref r), some (.int (aa : Int)), some (.ref sl), some (.int (p : Int))] ∧ H' = H2 ∧ (((stepsN g cur y).take p).map fun z => waysT g z y).sum + aa = kk ∧ m = (stepsN g cur y).length - p,
        ⟨_, 0, kk, rfl, rfl, by simp, rfl⟩, ?_⟩
      rintro m2 σ2 H3 ⟨p, aa, rfl, rfl, hsum, rfl⟩
      have hp := sumlt p aa hsum
      obtain ⟨z, hz⟩ : ∃ z, (stepsN g cur y)[p]? = some z := ⟨_, List.getElem?_eq_getElem hp⟩
      have hzm := List.mem_of_getElem? hz
      obtain ⟨hzn, a0, cz, ha0, hcz, hlt⟩ := step_near ok hcur hy hzm
      have tk : (((stepsN g cur y).take (p + 1)).map fun z => waysT g z y).sum = (((stepsN g cur y).take p).map fun z => waysT g z y).sum + waysT g z y := by
        rw [List.take_add_one, hz, List.map_append, List.sum_append]
        simp
      have ixz := natsV_at hz
      refine ⟨_, rfl, _, rfl, b, dx, _, rfl, s12 _ _ h1, n1, _, rfl, _, rfl, sl, _, _, _, rfl, rfl, SqL.of hl2, ixz, _, rfl, b, g, z, y, rfl, hS.ext (ext_same s12), ok, hzn, hy, _, _, rfl, rfl, _, rfl, ?_⟩
      by_cases hge : waysT g z y ≤ aa
      · refine yes (by rw [decide_eq_true_eq]; omega) ?_
        refine ⟨_, fun _ _ q => q, ?_⟩
        refine ⟨_, rfl, _, rfl, b, dx, _, rfl, s12 _ _ h1, n1, _, rfl, _, rfl, sl, _, _, _, rfl, rfl, SqL.of hl2, ixz, _, rfl, b, g, z, y, rfl, hS.ext (ext_same s12), ok, hzn, hy, _, _, rfl, rfl, ?_⟩
        refine ⟨_, rfl, _, _, rfl, rfl, ?_⟩
        refine ⟨(stepsN g cur y).length - (p + 1), by omega, p + 1, aa - waysT g z y, ?_, rfl, by omega, rfl⟩
        show [_, _, _, _, _, _, some (V.int ((aa : Int) - (waysT g z y : Int))), _, some (V.int ((p : Int) + 1))] = _
        rw [show (aa : Int) - (waysT g z y : Int) = ((aa - waysT g z y : Nat) : Int) by omega, show (p : Int) + 1 = ((p + 1 : Nat) : Int) by omega]
      · refine no (by rw [decide_eq_true_eq]; omega) ?_
        -- row.append(steps[place])
        refine ⟨_, rfl, .inl ⟨rfl, _, SqL.of hr2'⟩, _, rfl, _, rfl, sl, _, _, _, rfl, rfl, SqL.of hl2, ixz, r, _, _, rfl, rfl, hr2', ?_, ?_⟩
        · rw [natsV_len, List.length_append, sizeLine_eq]
          have := ok.le
          simp
          omega
        · have hcc : a0 = c := by rw [ha0] at hc; exact Option.some.inj hc
          subst hcc
          have rk := rankTo_lt (g := g) (e := y) hzn (far_pos ok hzn hy hcz).2.2.1 hlt
          refine ⟨cz.1, hlt, fl', rw_ ++ [cur], z, aa, cz, _, _, rfl, fun c o q => ?_, ?_, hzn, by omega, hcz, rfl, by omega, ?_, ?_⟩
          · rw [upd_ne (ne_of_none q hr0)]
            exact s12 c o q
          · rw [upd_same, natsV_app (rw_ ++ [cur])]
            rfl
          · rw [List.length_append]
            simp
            omega
          · rw [hway, way_step hcy hz (by omega) (by omega), show kk - (((stepsN g cur y).take p).map fun z => waysT g z y).sum = aa by omega, List.append_assoc]
            rfl
structure NumF (P : Program) (w : World) (K : PySem.W.Frag) (mg : Str → Option Value) (base : Heap) (C CS : Addr) : Prop where
  ex : ∃ f fd, mg "numbered_way" = some (.ref f) ∧ PySem.W.keepIn K (.ref f) = true ∧ Binds K fd ["graph", "shortest", "x", "y", "k"] [] ∧ FnOk P w K mg base CX0 3 f fd ["graph", "shortest", "x", "y", "k"] (spNum C CS)
def spWay (C : Addr) (T : List (Addr × Str)) : Sp := fun vs H Q E => ∃ (x y k : Nat), spAsk C T [.int (x : Int), .int (y : Int), .int (k : Int)] (.way x y k) vs H Q E
theorem scWay : FnScope ["graph", "x", "y", "k", "shortest", "row"] ["graph", "x", "y", "k"] (defScope sWay) := ⟨rfl, rfl, rfl, by decide +kernel, rfl, by decide +kernel, by decide +kernel⟩
theorem told_V (l : List Nat) : outV (Gq05.told l) = V.int (l.length : Int) :: natsV l := by
  unfold outV Gq05.told Gq05.ints natsV
  rw [List.map_map, List.map_cons]
  rfl
theorem ok_way {f : Addr} {fd : FuncData} (F : Fun K "way" "way" sWay f fd) (X : Txt K mg C) (XS : TxtS K mg CS) (MH : HasM P w K mg base C) (MS : MakeS P w K mg base C CS T) (MT : TotalM P w K mg base CS) (MN : NumF P w K mg base C CS) : FnOk P w K mg base CX0 7 f fd ["graph", "x", "y", "k"] (spWay C T) := by
  obtain ⟨fh, fdh, mh, bh, GH⟩ := MH.ex
  obtain ⟨fi, fdi, mki, bi, GI⟩ := MS.ex
  obtain ⟨ft, fdt, mt, bt, GT⟩ := MT.ex
  obtain ⟨fn, fdn, mn, kn, bn, GN⟩ := MN.ex
  refine F.ok scWay (fun vs H Q E h => ?_) (fun cdv A outer sh H vs Q E hr h => ?_)
  · obtain ⟨x, y, k, a, g, rfl, _⟩ := h
    rfl
  · obtain ⟨x, y, n, a, g, rfl, hg, ok, hT, k⟩ := h
    have hr1 : Room 1 _ := hr.mono (by decide)
    have hr3 : Room 3 _ := hr.mono (by decide)
    obtain ⟨t1, m1⟩ := X.told
    obtain ⟨t2, m2⟩ := X.there
    obtain ⟨dxg, d, g1, g2⟩ := id hg
    have n0 := gf_no g.many d (m := "has_node") (by decide +kernel) (by decide +kernel)
    refine ⟨_, pss_cons (ps_if (PW.pt (pw_or (pt_not (pt_val (pe_meth (pv 0) X.cl mh GH hr1 bh .nil pass0 (pa_cons (pv 1) pa_nil)))) (pw_or1 (pt_not (pt_val (pe_meth (pv 0) X.cl mh GH hr1 bh .nil pass0 (pa_cons (pv 2) pa_nil))))))) (pss_one (ps_ret (pe_lst (pa_cons (pe_glob rfl m1 ri) pa_nil)))) pss_nil)
      (pss_cons (ps_set (i := 4) scWay.nd rfl (Or.inl rfl) (pe_make mki GI hr (by rfl) XS.mgC bi .nil pass0 (pa_cons (pv 0) pa_nil)))
      (pss_cons (ps_if (pt_cmpR op_ge (pv 3) (pe_meth (pv 4) XS.cl mt GT hr1 bt .nil pass0 (pa_cons (pv 1) (pa_cons (pv 2) pa_nil))) (nomark _)) (pss_one (ps_ret (pe_lst (pa_cons (pe_glob rfl m2 ri) pa_nil)))) pss_nil)
      (pss_cons (ps_set (i := 5) scWay.nd rfl (Or.inl rfl) (pe_call GN hr3 rfl mn kn bn .nil pass0 (pa_cons (pv 0) (pa_cons (pv 4) (pa_cons (pv 1) (pa_cons (pv 2) (pa_cons (pv 3) pa_nil)))))))
      (pss_one (ps_ret (pe_op op_cat (pe_lst (pa_cons (pe_callB call_len_seq (by rfl) X.len PySem.boot_len (pa_cons (pv 5) pa_nil)) pa_nil)) (pv 5))))))), ?_⟩
    have ks : (Gq05.step g (.way x y n)).2 = if Gq05.isNode g x = false ∨ Gq05.isNode g y = false then [-1] else if waysT g x y ≤ n then [-3] else Gq05.told (wayN g x y n) := rfl
    rw [ks] at k
    have no1 : Gq05.isNode g x = false ∨ Gq05.isNode g y = false → ∀ p, H p = none → Q (.ref p) (upd H p (.lst [.int (-1)])) := fun hn p hp => by
      rw [if_pos hn] at k
      exact k _ p (ext_upd hp) (hT.ext (same_upd hp)) upd_same (nl_none hp)
    refine ⟨_, rfl, a, dxg, _, rfl, g1, n0, _, rfl, a, g, x, rfl, hg, _, rfl, ?_⟩
    rw [isNode_iff]
    cases hx : Gq05.isNode g x with
    | false => exact iteT (iteT ⟨(by show 1 ≤ sizeLine; decide), no1 (.inl hx)⟩)
    | true =>
      refine iteF ⟨_, rfl, a, dxg, _, rfl, g1, n0, _, rfl, a, g, y, rfl, hg, _, rfl, ?_⟩
      rw [isNode_iff]
      cases hy : Gq05.isNode g y with
      | false => exact iteT ⟨(by show 1 ≤ sizeLine; decide), no1 (.inr hy)⟩
      | true =>
        refine iteF ?_
        have hxn := nd_of hx
        have hyn := nd_of hy
        rw [if_neg (by rw [hx, hy]; simp)] at k
        refine ⟨_, rfl, fun b dxb hb hdxb hneb => made_short hg ok hT hb hdxb hneb fun H1 e1 T1 hS => ⟨rfl, ?_⟩⟩
        obtain ⟨dx, dl, dt, h1, rows⟩ := short_len hS ok
        have n1 := sf_no dl dt (m := "total") (by decide +kernel) (by decide +kernel)
        refine ⟨_, rfl, _, rfl, b, dx, _, rfl, h1, n1, _, rfl, _, rfl, b, g, x, y, rfl, hS, ok, hxn, hyn, _, _, rfl, rfl, _, rfl, ?_⟩
        by_cases hn : waysT g x y ≤ n
        · rw [if_pos hn] at k
          refine yes (by rw [decide_eq_true_eq]; omega) ⟨(by show 1 ≤ sizeLine; decide), fun p hp => ?_⟩
          exact k _ p (e1.trans (ext_upd hp)) (T1.ext (same_upd hp)) upd_same (nl_ext e1 hp)
        · rw [if_neg hn] at k
          refine no (by rw [decide_eq_true_eq]; omega) ?_
          refine ⟨_, rfl, _, rfl, _, rfl, _, rfl, _, rfl, a, b, g, x, y, n, rfl, hg.ext e1, hS, ok, hxn, hyn, by omega, fun H2 q s2 hq hl2 hz => ?_⟩
          refine ⟨_, rfl, q, _, rfl, .inl (SqL.of hl2), (by show 1 ≤ sizeLine; decide), fun p hp => ⟨_, rfl, p, q, _, _, rfl, rfl, upd_same, same_upd hp _ _ hl2, ?_, fun p2 hp2 => ?_⟩⟩
          · rw [natsV_len, sizeLine_eq]
            show 1 + _ ≤ _
            omega
          · have s3 := s2.trans ((same_upd hp).trans (same_upd (o := .lst ([V.int ((natsV (wayN g x y n)).length : Int)] ++ natsV (wayN g x y n))) hp2))
            refine k _ p2 (e1.trans (ext_same s3)) (T1.ext s3) ?_ (nl_ext (e1.trans (ext_same (s2.trans (same_upd hp)))) hp2)
            rw [upd_same, told_V, natsV_len]
            rfl
end
end WF
end
section
set_option Elab.async false
set_option linter.all false
set_option maxRecDepth 100000
set_option maxHeartbeats 4000000
namespace WF
open PySem PySem.Spec PyProof.Rows L2
open WB (Ok ND ndGet ndPut IsD W Lens)
abbrev sBetween : Stmt := top 35
abbrev sLies : Stmt := top 36
abbrev sPart : Stmt := top 37
/-! ### fractions -/
/-- the pair tells the fraction r in lowest terms -/
def Tells (p : Nat × Nat) (r : Rat) : Prop := (p.1 : Int) = r.num ∧ p.2 = r.den
theorem tells_norm (a b : Nat) (hb : b ≠ 0) : Tells (low a b) (Rat.normalize (a : Int) b hb) := by
  rw [Rat.normalize_eq]
  refine ⟨?_, ?_⟩
  · show ((a / Nat.gcd a b : Nat) : Int) = (a : Int) / ((Int.natAbs (a : Int)).gcd b : Nat)
    rw [Int.natAbs_natCast, Int.natCast_ediv]
  · show b / Nat.gcd a b = b / (Int.natAbs (a : Int)).gcd b
    rw [Int.natAbs_natCast]
theorem tells_zero : Tells (0, 1) 0 := ⟨rfl, rfl⟩
theorem tells_plus {p q : Nat × Nat} {r t : Rat} (hp : Tells p r) (hq : Tells q t) : Tells (plus p q) (r + t) := by
  have h2 : p.2 * q.2 ≠ 0 := by
    rw [hp.2, hq.2]
    exact Nat.mul_ne_zero r.den_nz t.den_nz
  have e : r + t = Rat.normalize ((p.1 * q.2 + q.1 * p.2 : Nat) : Int) (p.2 * q.2) h2 := by
    rw [Rat.add_def]
    congr 1
    · rw [Int.natCast_add, Int.natCast_mul, Int.natCast_mul, hp.1, hq.1, hp.2, hq.2]
    · rw [hp.2, hq.2]
  rw [e]
  exact tells_norm _ _ h2
theorem tells_div {a b : Nat} (hb : b ≠ 0) : Tells (low a b) ((a : Rat) / (b : Rat)) := by
  have e : (a : Rat) / (b : Rat) = Rat.normalize (a : Int) b hb := by
    have := Rat.mkRat_eq_div (a : Int) b
    rw [Rat.intCast_natCast] at this
    rw [← this]
    unfold mkRat
    rw [dif_neg hb]
  rw [e]
  exact tells_norm _ _ hb
theorem tells_fraction {p : Nat × Nat} {r : Rat} (h : Tells p r) : Gq05.fraction r = [(p.1 : Int), (p.2 : Int)] := by
  unfold Gq05.fraction
  rw [h.1, h.2]
theorem tells_pos {p : Nat × Nat} {r : Rat} (h : Tells p r) : 0 < p.2 := by
  rw [h.2]
  exact Nat.pos_of_ne_zero r.den_nz
/-! sums of fractions -/
theorem sumR_snoc (l : List Rat) (x : Rat) : Gq05.sum (l ++ [x]) = Gq05.sum l + x := by
  unfold Gq05.sum
  induction l with
  | nil =>
    show x + 0 = 0 + x
    rw [Rat.add_zero, Rat.zero_add]
  | cons a l ih =>
    rw [List.cons_append, List.foldr_cons, List.foldr_cons, ih, Rat.add_assoc]
theorem sumR_cons (a : Rat) (l : List Rat) : Gq05.sum (a :: l) = a + Gq05.sum l := rfl
theorem sumR_app (l m : List Rat) : Gq05.sum (l ++ m) = Gq05.sum l + Gq05.sum m := by
  induction l with
  | nil =>
    show Gq05.sum m = 0 + Gq05.sum m
    rw [Rat.zero_add]
  | cons a l ih => rw [List.cons_append, sumR_cons, sumR_cons, ih, Rat.add_assoc]
theorem sumR_flat {α β : Type} (f : α → List β) (F : β → Rat) : ∀ l : List α, Gq05.sum ((l.flatMap f).map F) = Gq05.sum (l.map fun s => Gq05.sum ((f s).map F))
  | [] => rfl
  | a :: l => by
    rw [List.flatMap_cons, List.map_append, sumR_app, List.map_cons, sumR_cons, sumR_flat f F l]
theorem sumR_filter {α : Type} (p : α → Bool) (F : α → Rat) : ∀ l : List α, (∀ x ∈ l, p x = false → F x = 0) → Gq05.sum (l.map F) = Gq05.sum ((l.filter p).map F)
  | [], _ => rfl
  | a :: l, h => by
    rw [List.map_cons, sumR_cons, List.filter_cons, sumR_filter p F l fun x hx => h x (List.mem_cons_of_mem _ hx)]
    by_cases hp : p a = true
    · rw [if_pos hp, List.map_cons, sumR_cons]
    · rw [if_neg hp, h a List.mem_cons_self (by simpa using hp), Rat.zero_add]
theorem sumR_congr {α : Type} {F G : α → Rat} {l : List α} (h : ∀ x ∈ l, F x = G x) : Gq05.sum (l.map F) = Gq05.sum (l.map G) := by
  rw [List.map_congr_left h]
theorem sumR_zero {α : Type} {F : α → Rat} {l : List α} (h : ∀ x ∈ l, F x = 0) : Gq05.sum (l.map F) = 0 := by
  rw [sumR_filter (fun _ => false) F l fun x hx _ => h x hx]
  rw [List.filter_eq_nil_iff.mpr fun x _ => by simp]
  rfl
/-- the pairs of others -/
theorem between_others (g : Gq05.Graph) (v : Nat) (F : Nat → Nat → Rat) (hF : ∀ s e, s = v ∨ e = v → F s e = 0) :
    Gq05.sum ((Gq05.pairs g).map fun p => F p.1 p.2) = Gq05.sum ((othersN g v).map fun s => Gq05.sum (((othersN g v).filter fun e => e != s).map fun e => F s e)) := by
  unfold Gq05.pairs
  rw [sumR_flat]
  unfold othersN
  rw [← sumR_filter (fun x => x != v)]
  · refine sumR_congr fun s _ => ?_
    rw [List.map_map, List.filter_filter]
    show Gq05.sum (((Gq05.nodes g).filter fun e => e != s).map fun e => F s e) = _
    rw [sumR_filter (fun x => x != v) _ ((Gq05.nodes g).filter fun e => e != s)]
    · rw [List.filter_filter]
      congr 2
      refine List.filter_congr fun x _ => ?_
      rw [Bool.and_comm]
    · intro x _ hx
      exact hF s x (.inr (by simpa using hx))
  · intro s _ hs
    exact sumR_zero fun e _ => hF s e (.inl (by simpa using hs))
/-! ### what part reckons -/
def partN (g : Gq05.Graph) (s v e : Nat) : Nat × Nat := if waysT g s e = 0 then (0, 1) else low (thr g s v e) (waysT g s e)
theorem part_tells {g : Gq05.Graph} {s v e : Nat} (h : ¬ (v = s ∨ v = e)) : Tells (partN g s v e) (Gq05.share (Gq05.table g) s e v) := by
  unfold partN Gq05.share
  by_cases hw : waysT g s e = 0
  · rw [if_pos hw, if_pos (show Gq05.ways (Gq05.table g) s e = 0 from hw)]
    exact tells_zero
  · rw [if_neg hw, if_neg (show ¬ Gq05.ways (Gq05.table g) s e = 0 from hw)]
    have : Gq05.through (Gq05.table g) s e v = thr g s v e := by
      unfold Gq05.through thr
      rw [if_neg h]
      rfl
    rw [this]
    exact tells_div hw
theorem share_zero {g : Gq05.Graph} {s v e : Nat} (h : v = s ∨ v = e) : Gq05.share (Gq05.table g) s e v = 0 := by
  unfold Gq05.share
  split
  · rfl
  · unfold Gq05.through
    rw [if_pos h]
    show (0 : Rat) / _ = 0
    rw [Rat.div_def, Rat.zero_mul]
theorem part_small {g : Gq05.Graph} (o : Ok g) {s v e : Nat} (hs : Nd g s) (hv : Nd g v) (he : Nd g e) : (partN g s v e).1 < 2 ^ 80 ∧ (partN g s v e).2 < 2 ^ 40 ∧ 0 < (partN g s v e).2 := by
  unfold partN
  split
  · exact ⟨by decide, by decide, by decide⟩
  · rename_i hw
    have h1 := low_le (thr g s v e) (waysT g s e)
    exact ⟨Nat.lt_of_le_of_lt h1.1 (thr_small o hs hv he), Nat.lt_of_le_of_lt h1.2 (ways_small o hs he), low_pos (by omega)⟩
/-- how great the sum is after so many -/
def Sized (n : Nat) (p : Nat × Nat) : Prop := p.1 < 2 ^ (100 + 41 * n) ∧ p.2 < 2 ^ (1 + 40 * n)
theorem sized_mono {n m : Nat} {p : Nat × Nat} (h : Sized n p) (hm : n ≤ m) : Sized m p :=
  ⟨Nat.lt_of_lt_of_le h.1 (Nat.pow_le_pow_right (by decide) (by omega)), Nat.lt_of_lt_of_le h.2 (Nat.pow_le_pow_right (by decide) (by omega))⟩
theorem sized_plus {n : Nat} {p q : Nat × Nat} (h : Sized n p) (h1 : q.1 < 2 ^ 80) (h2 : q.2 < 2 ^ 40) : Sized (n + 1) (plus p q) := by
  have l := low_le (p.1 * q.2 + q.1 * p.2) (p.2 * q.2)
  refine ⟨Nat.lt_of_le_of_lt l.1 ?_, Nat.lt_of_le_of_lt l.2 ?_⟩
  · have a : p.1 * q.2 < 2 ^ (100 + 41 * n) * 2 ^ 40 := Nat.mul_lt_mul'' h.1 h2
    have b : q.1 * p.2 < 2 ^ 80 * 2 ^ (1 + 40 * n) := Nat.mul_lt_mul'' h1 h.2
    rw [← Nat.pow_add] at a b
    have c : 2 ^ (80 + (1 + 40 * n)) ≤ 2 ^ (100 + 41 * n + 40) := Nat.pow_le_pow_right (by decide) (by omega)
    have d : 2 ^ (100 + 41 * (n + 1)) = 2 ^ (100 + 41 * n + 40) * 2 := by
      rw [← Nat.pow_succ]
      congr 1
    omega
  · have a : p.2 * q.2 < 2 ^ (1 + 40 * n) * 2 ^ 40 := Nat.mul_lt_mul'' h.2 h2
    rw [← Nat.pow_add] at a
    exact Nat.lt_of_lt_of_le a (Nat.pow_le_pow_right (by decide) (by omega))
section
variable {P : Program} {w : World} {K : PySem.W.Frag} {mg : Str → Option Value} {base : Heap} {C CS : Addr} {T : List (Addr × Str)}
/-- some of so many, as a fraction -/
def partOf (a b : Nat) : Nat × Nat := if b = 0 then (0, 1) else low a b
def spPart : Sp := fun vs H Q _ => ∃ (a b : Nat), vs = [.int (a : Int), .int (b : Int)] ∧ b < 2 ^ 9000 ∧ ∀ p, H p = none → Q (.ref p) (upd H p (.tup (frV (partOf a b))))
theorem scPart : FnScope ["some", "total"] ["some", "total"] (defScope sPart) := ⟨rfl, rfl, rfl, by decide +kernel, rfl, by decide +kernel, by decide +kernel⟩
theorem ok_part {f : Addr} {fd : FuncData} (F : Fun K "part" "part" sPart f fd) (MF : FracF P w K mg base) : FnOk P w K mg base CX0 3 f fd ["some", "total"] spPart := by
  obtain ⟨ff, fdf, mf, kf, bf, GF⟩ := MF.ex
  refine F.ok scPart (fun vs H Q E h => ?_) (fun cdv A outer sh H vs Q E hr h => ?_)
  · obtain ⟨a, b, rfl, _⟩ := h
    rfl
  · obtain ⟨a, b, rfl, hb, k⟩ := h
    refine ⟨_, pss_cons (ps_if (pt_cmpR op_eq (pv 1) pe_int (nomark _)) (pss_one (ps_ret (pe_tup (pa_cons pe_int (pa_cons pe_int pa_nil))))) pss_nil)
      (pss_one (ps_ret (pe_call GF hr rfl mf kf bf .nil pass0 (pa_cons (pv 0) (pa_cons (pv 1) pa_nil))))), ?_⟩
    refine ⟨_, rfl, rfl, _, rfl, ?_⟩
    unfold partOf at k
    by_cases hw : b = 0
    · rw [if_pos hw] at k
      refine yes (by rw [decide_eq_true_eq, hw]; rfl) ⟨(by show 2 ≤ sizeLine; decide), fun p hp => ?_⟩
      exact k p hp
    · rw [if_neg hw] at k
      refine no (by
        rw [decide_eq_true_eq]
        intro z
        injection z with z
        omega) ?_
      exact ⟨_, rfl, _, rfl, a, b, rfl, by omega, hb, k⟩
structure PartF (P : Program) (w : World) (K : PySem.W.Frag) (mg : Str → Option Value) (base : Heap) : Prop where
  ex : ∃ f fd, mg "part" = some (.ref f) ∧ PySem.W.keepIn K (.ref f) = true ∧ Binds K fd ["some", "total"] [] ∧ FnOk P w K mg base CX0 3 f fd ["some", "total"] spPart
structure TogF (P : Program) (w : World) (K : PySem.W.Frag) (mg : Str → Option Value) (base : Heap) : Prop where
  ex : ∃ f fd, mg "together" = some (.ref f) ∧ PySem.W.keepIn K (.ref f) = true ∧ Binds K fd ["one", "other"] [] ∧ FnOk P w K mg base CX0 3 f fd ["one", "other"] spTog
def spLies (C CS : Addr) : Sp := fun vs H Q _ => ∃ (a b : Addr) (g : Gq05.Graph) (v : Nat), vs = [.ref a, .ref b, .int (v : Int)] ∧ GraphAt C H a g ∧ ShortAt CS H b g ∧ Ok g ∧ Nd g v ∧
  ∀ (H' : Hp) (q : Addr) (p : Nat × Nat), Same H H' → H' q = some (.tup (frV p)) → Tells p (Gq05.between g (Gq05.table g) v) → Sized 144 p → Q (.ref q) H'
theorem scLies : FnScope ["graph", "shortest", "v", "others", "whole", "start", "end"] ["graph", "shortest", "v"] (defScope sLies) := ⟨rfl, rfl, rfl, by decide +kernel, rfl, by decide +kernel, by decide +kernel⟩
theorem ok_lies {f : Addr} {fd : FuncData} (F : Fun K "lies_between" "lies_between" sLies f fd) (X : Txt K mg C) (XS : TxtS K mg CS) (MU : ButM P w K mg base C) (MT : TotalM P w K mg base CS) (MB : TotByM P w K mg base CS) (MP : PartF P w K mg base) (MG : TogF P w K mg base) : FnOk P w K mg base CX0 4 f fd ["graph", "shortest", "v"] (spLies C CS) := by
  obtain ⟨fn, fdn, mn, bn, GN⟩ := MU.ex
  obtain ⟨ft, fdt, mt, bt, GT⟩ := MT.ex
  obtain ⟨fb, fdb, mb, bb, GB⟩ := MB.ex
  obtain ⟨fp, fdp, mp, kp, bp, GP⟩ := MP.ex
  obtain ⟨fg, fdg, mg', kg, bg, GG⟩ := MG.ex
  refine F.ok scLies (fun vs H Q E h => ?_) (fun cdv A outer sh H vs Q E hr h => ?_)
  · obtain ⟨a, b, g, v, rfl, _⟩ := h
    rfl
  · obtain ⟨a, b, g, v, rfl, hg, hS, ok, hv, k⟩ := h
    have hr1 : Room 1 _ := hr.mono (by decide)
    have hr2 : Room 2 _ := hr.mono (by decide)
    obtain ⟨dxg, d, g1, g2⟩ := id hg
    refine ⟨_, pss_cons (ps_set (i := 3) scLies.nd rfl (Or.inl rfl) (pe_meth (pv 0) X.cl mn GN hr2 bn .nil pass0 (pa_cons (pv 2) pa_nil)))
      (pss_cons (ps_set (i := 4) scLies.nd rfl (Or.inl rfl) (pe_tup (pa_cons pe_int (pa_cons pe_int pa_nil))))
      (pss_cons (ps_for PassesOwn.never rfl (pi_list (pv 3)) (pg_name (i := 5) scLies.nd rfl (Or.inl rfl))
        (pss_one (ps_for PassesOwn.never rfl (pi_list (pv 3)) (pg_name (i := 6) scLies.nd rfl (Or.inl rfl))
          (pss_one (ps_if (pt_cmpR op_ne (pv 5) (pv 6) (nomark _)) (pss_one (ps_set (i := 4) scLies.nd rfl (Or.inl rfl) (pe_call GG hr rfl mg' kg bg .nil pass0 (pa_cons (pv 4) (pa_cons (pe_call GP hr rfl mp kp bp .nil pass0
            (pa_cons (pe_meth (pv 1) XS.cl mb GB hr bb .nil pass0 (pa_cons (pv 5) (pa_cons (pv 2) (pa_cons (pv 6) pa_nil)))) (pa_cons (pe_meth (pv 1) XS.cl mt GT hr1 bt .nil pass0 (pa_cons (pv 5) (pa_cons (pv 6) pa_nil))) pa_nil))) pa_nil))))) pss_nil)))))
      (pss_one (ps_ret (pv 4))))), ?_⟩
    -- others = graph.nodes_but(v)
    refine ⟨_, rfl, a, dxg, _, rfl, g1, gf_no _ _ (by decide +kernel) (by decide +kernel), _, rfl, a, g, v, rfl, hg, ok, fun H1 D sH hD0 hD1 => ?_⟩
    -- whole = (0, 1)
    refine ⟨(by show 2 ≤ sizeLine; decide), fun w0 hw0 => ?_⟩
    have sW := sH.trans (same_upd (o := .tup [V.int 0, V.int 1]) hw0)
    have hDw := same_upd (o := .tup [V.int 0, V.int 1]) hw0 _ _ hD1
    have hww : upd H1 w0 (.tup [V.int 0, V.int 1]) w0 = some (.tup (frV (0, 1))) := upd_same
    generalize upd H1 w0 (.tup [V.int 0, V.int 1]) = H2 at sW hDw hww ⊢
    have olen := others_len ok v
    have tall : (othersN g v).take (natsV (othersN g v)).length = othersN g v := List.take_of_length_le (by rw [natsV_len]; exact Nat.le_refl _)
    refine ⟨_, rfl, D, rfl, ⟨_, SqL.of hDw⟩, for_list (K := K) (a := D) (xs := natsV (othersN g v)) (fun i σ H' => ∃ (wq : Addr) (p : Nat × Nat) (v5 v6 : Option V), σ = [some (.ref a), some (.ref b), some (.int (v : Int)), some (.ref D), some (.ref wq), v5, v6] ∧ Same H2 H' ∧ H' wq = some (.tup (frV p)) ∧
      Tells p (Gq05.sum (((othersN g v).take i).map fun s => Gq05.sum (((othersN g v).filter fun e => e != s).map fun e => Gq05.share (Gq05.table g) s e v))) ∧ Sized (12 * i) p)
      ⟨w0, (0, 1), none, none, rfl, fun _ _ e => e, hww, tells_zero, by decide, by decide⟩ (fun i σ H' _ ⟨_, _, _, _, _, s3, _⟩ => SqL.of (s3 _ _ hDw)) ?_ ?_⟩
    · rintro i z σ H3 hz ⟨wq, p, v5, v6, rfl, s3, hwq, ht, hsz⟩
      obtain ⟨st, hst, rfl⟩ := nat_at hz
      have hil := (List.getElem?_eq_some_iff.mp hst).1
      obtain ⟨nst, st_v⟩ := others_mem.mp (List.mem_of_getElem? hst)
      refine ⟨_, rfl, D, rfl, ⟨_, SqL.of (s3 _ _ hDw)⟩, for_list (K := K) (a := D) (xs := natsV (othersN g v)) (fun j σ H' => ∃ (wq : Addr) (p : Nat × Nat) (v6 : Option V), σ = [some (.ref a), some (.ref b), some (.int (v : Int)), some (.ref D), some (.ref wq), some (.int (st : Int)), v6] ∧ Same H2 H' ∧ H' wq = some (.tup (frV p)) ∧
        Tells p (Gq05.sum (((othersN g v).take i).map fun s => Gq05.sum (((othersN g v).filter fun e => e != s).map fun e => Gq05.share (Gq05.table g) s e v)) + Gq05.sum ((((othersN g v).take j).filter fun e => e != st).map fun e => Gq05.share (Gq05.table g) st e v)) ∧ Sized (12 * i + j) p)
        ⟨wq, p, _, rfl, s3, hwq, ?_, hsz⟩ (fun j σ H' _ ⟨_, _, _, _, s4, _⟩ => SqL.of (s4 _ _ hDw)) ?_ ?_⟩
      · show Tells p (_ + (0 : Rat))
        rw [Rat.add_zero]
        exact ht
      · rintro j z σ H4 hz ⟨wq, p, v6, rfl, s4, hwq, ht, hsz⟩
        obtain ⟨en, hen, rfl⟩ := nat_at hz
        have hjl := (List.getElem?_eq_some_iff.mp hen).1
        obtain ⟨nen, en_v⟩ := others_mem.mp (List.mem_of_getElem? hen)
        have tk := take_snoc hen
        refine ⟨_, rfl, _, rfl, rfl, _, rfl, ?_⟩
        by_cases hse : st = en
        · refine no (by simp [hse]) ⟨wq, p, _, rfl, s4, hwq, ?_, sized_mono hsz (by omega)⟩
          rw [tk, List.filter_append, List.filter_cons, if_neg (by simp [hse]), List.filter_nil, List.append_nil]
          exact ht
        · refine yes (by
            simp only [Bool.not_eq_true', decide_eq_false_iff_not]
            intro z
            injection z with z
            omega) ?_
          -- whole = together(whole, part(shortest.total_by(start, v, end), shortest.total(start, end)))
          have s4H := sW.trans s4
          have hS4 := hS.ext (ext_same s4H)
          obtain ⟨dx, dl, dt, h1, _⟩ := short_len hS4 ok
          have n1 := sf_no dl dt (m := "total") (by decide +kernel) (by decide +kernel)
          have n2 := sf_no dl dt (m := "total_by") (by decide +kernel) (by decide +kernel)
          have hbw : waysT g st en < 2 ^ 9000 := Nat.lt_of_lt_of_le (ways_small ok nst nen) (Nat.pow_le_pow_right (by decide) (by decide))
          obtain ⟨z1, z2, z3⟩ := part_small ok nst hv nen
          refine ⟨_, rfl, _, rfl, b, dx, _, rfl, h1, n2, _, rfl, _, rfl, _, rfl, b, g, st, v, en, rfl, hS4, ok, nst, hv, nen, _, rfl, b, dx, _, rfl, h1, n1, _, rfl, _, rfl, b, g, st, en, rfl, hS4, ok, nst, nen, thr g st v en, waysT g st en, rfl, hbw, fun q hq => ?_⟩
          have s5 := same_upd (o := .tup (frV (partN g st v en))) hq
          refine ⟨wq, q, p, partN g st v en, 100 + 41 * (12 * i + j), 1 + 40 * (12 * i + j), 80, 40, rfl, s5 _ _ hwq, upd_same, tells_pos ht, z3, hsz, ⟨z1, z2⟩, ⟨by omega, by omega, by omega, by omega⟩, by omega, by omega, by omega, fun r hr => ?_⟩
          have s6 := same_upd (o := .tup (frV (plus p (partN g st v en)))) hr
          refine ⟨r, plus p (partN g st v en), _, rfl, s4.trans (s5.trans s6), upd_same, ?_, sized_plus hsz z1 z2⟩
          rw [tk, List.filter_append, List.filter_cons, if_pos (by simpa using fun q : en = st => hse q.symm), List.filter_nil, List.map_append, List.map_cons, List.map_nil, sumR_snoc, ← Rat.add_assoc]
          exact tells_plus ht (part_tells (by omega))
      · rintro σ H4 ⟨wq, p, v6, rfl, s4, hwq, ht, hsz⟩
        refine ⟨wq, p, _, _, rfl, s4, hwq, ?_, sized_mono hsz ?_⟩
        · rw [tall] at ht
          rw [List.take_add_one, hst]
          show Tells p (Gq05.sum (List.map _ (_ ++ [st])))
          rw [List.map_append, List.map_cons, List.map_nil, sumR_snoc]
          exact ht
        · rw [natsV_len]
          omega
    · rintro σ H3 ⟨wq, p, v5, v6, rfl, s3, hwq, ht, hsz⟩
      refine ⟨_, rfl, ?_⟩
      refine k H3 wq p (sW.trans s3) hwq ?_ (sized_mono hsz (by rw [natsV_len]; omega))
      rw [tall] at ht
      show Tells p (Gq05.sum ((Gq05.pairs g).map fun q => Gq05.share (Gq05.table g) q.1 q.2 v))
      rw [between_others g v (fun s e => Gq05.share (Gq05.table g) s e v) fun s e h => share_zero (by omega)]
      exact ht
structure LiesF (P : Program) (w : World) (K : PySem.W.Frag) (mg : Str → Option Value) (base : Heap) (C CS : Addr) : Prop where
  ex : ∃ f fd, mg "lies_between" = some (.ref f) ∧ PySem.W.keepIn K (.ref f) = true ∧ Binds K fd ["graph", "shortest", "v"] [] ∧ FnOk P w K mg base CX0 4 f fd ["graph", "shortest", "v"] (spLies C CS)
def spBetween (C : Addr) (T : List (Addr × Str)) : Sp := fun vs H Q E => ∃ (v : Nat), spAsk C T [.int (v : Int)] (.between v) vs H Q E
theorem scBetween : FnScope ["graph", "v"] ["graph", "v"] (defScope sBetween) := ⟨rfl, rfl, rfl, by decide +kernel, rfl, by decide +kernel, by decide +kernel⟩
theorem ok_between {f : Addr} {fd : FuncData} (F : Fun K "between" "between" sBetween f fd) (X : Txt K mg C) (XS : TxtS K mg CS) (MH : HasM P w K mg base C) (MS : MakeS P w K mg base C CS T) (ML : LiesF P w K mg base C CS) : FnOk P w K mg base CX0 7 f fd ["graph", "v"] (spBetween C T) := by
  obtain ⟨fh, fdh, mh, bh, GH⟩ := MH.ex
  obtain ⟨fi, fdi, mki, bi, GI⟩ := MS.ex
  obtain ⟨fl, fdl, ml, kl, bl, GL⟩ := ML.ex
  refine F.ok scBetween (fun vs H Q E h => ?_) (fun cdv A outer sh H vs Q E hr h => ?_)
  · obtain ⟨v, a, g, rfl, _⟩ := h
    rfl
  · obtain ⟨v, a, g, rfl, hg, ok, hT, k⟩ := h
    have hr1 : Room 1 _ := hr.mono (by decide)
    have hr4 : Room 4 _ := hr.mono (by decide)
    obtain ⟨t1, m1⟩ := X.told
    obtain ⟨dxg, d, g1, g2⟩ := id hg
    have n0 := gf_no g.many d (m := "has_node") (by decide +kernel) (by decide +kernel)
    refine ⟨_, pss_cons (ps_if (pt_not (pt_val (pe_meth (pv 0) X.cl mh GH hr1 bh .nil pass0 (pa_cons (pv 1) pa_nil)))) (pss_one (ps_ret (pe_lst (pa_cons (pe_glob rfl m1 ri) pa_nil)))) pss_nil)
      (pss_one (ps_ret (pe_callTy call_list_of (by rfl) X.list (by decide +kernel) (pa_cons (pe_call GL hr4 rfl ml kl bl .nil pass0 (pa_cons (pv 0) (pa_cons (pe_make mki GI hr (by rfl) XS.mgC bi .nil pass0 (pa_cons (pv 0) pa_nil)) (pa_cons (pv 1) pa_nil)))) pa_nil)))), ?_⟩
    have ks : (Gq05.step g (.between v)).2 = if Gq05.isNode g v = false then [-1] else Gq05.fraction (Gq05.between g (Gq05.table g) v) := rfl
    rw [ks] at k
    refine ⟨_, rfl, a, dxg, _, rfl, g1, n0, _, rfl, a, g, v, rfl, hg, _, rfl, ?_⟩
    rw [isNode_iff]
    cases hv : Gq05.isNode g v with
    | false =>
      rw [if_pos hv] at k
      exact iteT ⟨(by show 1 ≤ sizeLine; decide), fun p hp => k _ p (ext_upd hp) (hT.ext (same_upd hp)) upd_same (nl_none hp)⟩
    | true =>
      rw [if_neg (by rw [hv]; simp)] at k
      refine iteF ⟨_, rfl, _, rfl, fun b dxb hb hdxb hneb => made_short hg ok hT hb hdxb hneb fun H1 e1 T1 hS => ⟨rfl, ?_⟩⟩
      refine ⟨_, rfl, a, b, g, v, rfl, hg.ext e1, hS, ok, nd_of hv, fun H2 q p s2 hq ht _ => ?_⟩
      refine ⟨q, _, rfl, .inr (SqT.of hq), fun l hl => ?_⟩
      refine k _ l (e1.trans ((ext_same s2).trans (ext_upd hl))) ((T1.ext s2).ext (same_upd hl)) ?_ (nl_ext (e1.trans (ext_same s2)) hl)
      rw [upd_same, tells_fraction ht]
      rfl
end
end WF
end
section
set_option Elab.async false
set_option linter.all false
/-! the specification's side of share, ranking, near, needed, hurt, middle -/
namespace WF
open WB (Ok)
/-! ### the order of fractions -/
theorem lt_le {a b c : Rat} (h : a < b) (k : b ≤ c) : a < c := by
  rw [← Rat.not_le]
  intro q
  exact absurd h (Rat.not_lt.mpr (Rat.le_trans k q))
theorem le_lt {a b c : Rat} (h : a ≤ b) (k : b < c) : a < c := by
  rw [← Rat.not_le]
  intro q
  exact absurd k (Rat.not_lt.mpr (Rat.le_trans q h))
theorem tells_lt {p q : Nat × Nat} {r t : Rat} (hp : Tells p r) (hq : Tells q t) : r < t ↔ p.1 * q.2 < q.1 * p.2 := by
  rw [Rat.lt_iff, ← hp.1, ← hp.2, ← hq.1, ← hq.2]
  rw [← Int.natCast_mul, ← Int.natCast_mul]
  omega
theorem tells_eq {p q : Nat × Nat} {r t : Rat} (hp : Tells p r) (hq : Tells q t) : r = t ↔ p = q := by
  constructor
  · intro h
    subst h
    refine Prod.ext ?_ (hp.2.trans hq.2.symm)
    have := hp.1.trans hq.1.symm
    omega
  · intro h
    subst h
    have e1 := hp.1.symm.trans hq.1
    have e2 := hp.2.symm.trans hq.2
    exact Rat.ext e1 e2
/-! ### the ranking -/
/-- the greater first, of as great ones the lower node -/
def Before (a b : Nat × Rat) : Prop := b.2 < a.2 ∨ (a.2 = b.2 ∧ a.1 < b.1)
theorem before_anti {a b : Nat × Rat} (h : Before a b) (k : Before b a) : a = b := by
  exfalso
  rcases h with h | ⟨h1, h2⟩ <;> rcases k with k | ⟨k1, k2⟩
  · exact Rat.lt_irrefl (le_lt (Rat.le_of_lt h) k)
  · rw [k1] at h
    exact Rat.lt_irrefl h
  · rw [h1] at k
    exact Rat.lt_irrefl k
  · omega
theorem put_perm (x : Nat × Rat) : ∀ l : List (Nat × Rat), (Gq05.put x l).Perm (x :: l)
  | [] => .refl _
  | y :: l => by
    rw [Gq05.put]
    split
    · exact .refl _
    · exact ((put_perm x l).cons y).trans (.swap x y l)
theorem put_sorted (x : Nat × Rat) : ∀ l : List (Nat × Rat), l.Pairwise Before → (∀ y ∈ l, y.1 < x.1) → (Gq05.put x l).Pairwise Before
  | [], _, _ => by
    show List.Pairwise Before [x]
    simp
  | y :: l, h, hx => by
    rw [List.pairwise_cons] at h
    rw [Gq05.put]
    by_cases c : y.2 < x.2
    · rw [if_pos c, List.pairwise_cons, List.pairwise_cons]
      refine ⟨fun z hz => .inl ?_, h⟩
      rcases List.mem_cons.mp hz with q | q
      · rw [q]
        exact c
      · rcases h.1 z q with r | r
        · exact le_lt (Rat.le_of_lt r) c
        · rw [← r.1]
          exact c
    · rw [if_neg c, List.pairwise_cons]
      refine ⟨fun z hz => ?_, put_sorted x l h.2 fun z hz => hx z (List.mem_cons_of_mem _ hz)⟩
      rcases List.mem_cons.mp ((put_perm x l).mem_iff.mp hz) with q | q
      · subst q
        by_cases e : y.2 = z.2
        · exact .inr ⟨e, hx y List.mem_cons_self⟩
        · exact .inl (Rat.lt_iff_le_and_ne.mpr ⟨Rat.not_lt.mp c, fun q => e q.symm⟩)
      · exact h.1 z q
theorem puts : ∀ (m l : List (Nat × Rat)), l.Pairwise Before → (∀ y ∈ l, ∀ x ∈ m, y.1 < x.1) → m.Pairwise (fun a b => a.1 < b.1) → (m.foldl (fun l x => Gq05.put x l) l).Pairwise Before ∧ (m.foldl (fun l x => Gq05.put x l) l).Perm (m ++ l)
  | [], l, h, _, _ => ⟨h, .refl _⟩
  | x :: m, l, h, hx, hm => by
    rw [List.pairwise_cons] at hm
    rw [List.foldl_cons]
    obtain ⟨a, b⟩ := puts m (Gq05.put x l) (put_sorted x l h fun y hy => hx y hy x List.mem_cons_self) (fun y hy z hz => by
      rcases List.mem_cons.mp ((put_perm x l).mem_iff.mp hy) with q | q
      · rw [q]
        exact hm.1 z hz
      · exact hx y q z (List.mem_cons_of_mem _ hz)) hm.2
    exact ⟨a, b.trans (((put_perm x l).append_left m).trans List.perm_middle)⟩
/-- each node and by how much it lies between -/
def allB (g : Gq05.Graph) : List (Nat × Rat) := (Gq05.nodes g).map fun v => (v, Gq05.between g (Gq05.table g) v)
theorem nodes_lt (g : Gq05.Graph) : (Gq05.nodes g).Pairwise (· < ·) := by
  unfold Gq05.nodes
  rw [List.pairwise_map]
  exact List.Pairwise.imp (fun h => by omega) List.pairwise_lt_range
theorem ranked_is (g : Gq05.Graph) : (Gq05.ranked g).Pairwise Before ∧ (Gq05.ranked g).Perm (allB g) := by
  have h := puts (allB g) [] List.Pairwise.nil (fun y hy => by cases hy) (by
    unfold allB
    rw [List.pairwise_map]
    exact nodes_lt g)
  rw [List.append_nil] at h
  exact h
/-- the ranking is the one order -/
theorem ranked_eq {g : Gq05.Graph} {l : List (Nat × Rat)} (h : l.Pairwise Before) (p : l.Perm (allB g)) : l = Gq05.ranked g :=
  List.Perm.eq_of_pairwise (fun _ _ _ _ a b => before_anti a b) h (ranked_is g).1 (p.trans (ranked_is g).2.symm)
/-! ### an edge's share -/
/-- the ways that go the edge from x to y -/
abbrev thrE (g : Gq05.Graph) (s e x y : Nat) : Nat := Gq05.throughEdge g (Gq05.table g) s e x y
theorem thrE_small {g : Gq05.Graph} (o : Ok g) {s e x y : Nat} (hs : Nd g s) (he : Nd g e) (hx : Nd g x) (hy : Nd g y) : thrE g s e x y < 2 ^ 80 := by
  show Gq05.throughEdge g (Gq05.table g) s e x y < 2 ^ 80
  unfold Gq05.throughEdge
  split
  · rename_i l a b c h1 h2 h3 h4
    split
    · have p := (far_pos o hs hx (x := b) h3).2.1
      have q := (far_pos o hy he (x := c) h4).2.1
      calc b.2 * c.2 < 2 ^ 40 * 2 ^ 40 := Nat.mul_lt_mul'' p q
        _ = 2 ^ 80 := by decide
    · decide
  · decide
/-- a sum over all pairs, start by start -/
theorem pairs_sum (g : Gq05.Graph) (F : Nat → Nat → Rat) : Gq05.sum ((Gq05.pairs g).map fun p => F p.1 p.2) = Gq05.sum ((Gq05.nodes g).map fun s => Gq05.sum (((Gq05.nodes g).filter fun e => e != s).map fun e => F s e)) := by
  unfold Gq05.pairs
  rw [sumR_flat]
  refine sumR_congr fun s _ => ?_
  rw [List.map_map]
  rfl
def partE (g : Gq05.Graph) (s e x y : Nat) : Nat × Nat := if waysT g s e = 0 then (0, 1) else low (thrE g s e x y) (waysT g s e)
def shareE (g : Gq05.Graph) (x y s e : Nat) : Rat := if Gq05.ways (Gq05.table g) s e = 0 then 0 else (Gq05.throughEdge g (Gq05.table g) s e x y : Rat) / (Gq05.ways (Gq05.table g) s e : Rat)
theorem share_sum (g : Gq05.Graph) (x y : Nat) : Gq05.betweenEdge g (Gq05.table g) x y = Gq05.sum ((Gq05.nodes g).map fun s => Gq05.sum (((Gq05.nodes g).filter fun e => e != s).map fun e => shareE g x y s e)) :=
  pairs_sum g (shareE g x y)
theorem partE_tells (g : Gq05.Graph) (s e x y : Nat) : Tells (partE g s e x y) (shareE g x y s e) := by
  unfold partE shareE
  by_cases hw : waysT g s e = 0
  · rw [if_pos hw, if_pos (show Gq05.ways (Gq05.table g) s e = 0 from hw)]
    exact tells_zero
  · rw [if_neg hw, if_neg (show ¬ Gq05.ways (Gq05.table g) s e = 0 from hw)]
    exact tells_div hw
theorem partE_small {g : Gq05.Graph} (o : Ok g) {s e x y : Nat} (hs : Nd g s) (he : Nd g e) (hx : Nd g x) (hy : Nd g y) : (partE g s e x y).1 < 2 ^ 80 ∧ (partE g s e x y).2 < 2 ^ 40 ∧ 0 < (partE g s e x y).2 := by
  unfold partE
  split
  · exact ⟨by decide, by decide, by decide⟩
  · have h1 := low_le (thrE g s e x y) (waysT g s e)
    exact ⟨Nat.lt_of_le_of_lt h1.1 (thrE_small o hs he hx hy), Nat.lt_of_le_of_lt h1.2 (ways_small o hs he), low_pos (by omega)⟩
/-! ### near -/
/-- how long the shortest ways from s to the others are -/
def othersLens (g : Gq05.Graph) (s : Nat) : List Nat := ((Gq05.nodes g).filter fun y => y != s).filterMap fun y => (farT g s y).map fun x => x.1
theorem near_fold (g : Gq05.Graph) (s : Nat) : ∀ (l : List Nat) (a : Nat × Nat × Nat), l.foldl (fun a y => if y = s then a else match Gq05.far (Gq05.table g) s y with
      | some x => (a.1 + 1, a.2.1 + x.1, max a.2.2 x.1)
      | none => a) a = (a.1 + ((l.filter fun y => y != s).filterMap fun y => (farT g s y).map fun x => x.1).length, a.2.1 + ((l.filter fun y => y != s).filterMap fun y => (farT g s y).map fun x => x.1).sum, ((l.filter fun y => y != s).filterMap fun y => (farT g s y).map fun x => x.1).foldl max a.2.2)
  | [], a => rfl
  | y :: l, a => by
    rw [List.foldl_cons, near_fold g s l]
    by_cases hy : y = s
    · rw [if_pos hy, List.filter_cons, if_neg (by simp [hy])]
    · rw [if_neg hy, List.filter_cons, if_pos (by simpa using hy), List.filterMap_cons]
      cases hf : Gq05.far (Gq05.table g) s y with
      | none =>
        rw [show farT g s y = none from hf]
        rfl
      | some x =>
        rw [show farT g s y = some x from hf]
        show _ = (a.1 + (x.1 :: _).length, a.2.1 + (x.1 :: _).sum, (x.1 :: _).foldl max a.2.2)
        rw [List.length_cons, List.sum_cons, List.foldl_cons]
        refine Prod.ext ?_ (Prod.ext ?_ rfl)
        · show a.1 + 1 + _ = _
          omega
        · exact Nat.add_assoc ..
theorem near_is (g : Gq05.Graph) (s : Nat) : Gq05.near g (Gq05.table g) s = ((othersLens g s).length, (othersLens g s).sum, (othersLens g s).foldl max 0) := by
  have h := near_fold g s (Gq05.nodes g) (0, 0, 0)
  rw [Nat.zero_add, Nat.zero_add] at h
  exact h
/-! ### hurt -/
theorem ok_cutOff {g : Gq05.Graph} (o : Ok g) (v : Nat) : Ok (Gq05.cutOff g v) := by
  refine ⟨o.le, fun e he => o.ed e (List.mem_filter.mp he).1, ?_⟩
  exact List.Nodup.sublist (List.Sublist.map _ List.filter_sublist) o.nd
theorem nodes_cutOff (g : Gq05.Graph) (v : Nat) : Gq05.nodes (Gq05.cutOff g v) = Gq05.nodes g := rfl
end WF
end
section
set_option Elab.async false
set_option linter.all false
/-! without a node's edges -/
namespace WF
open WB (Ok W IsD con)
section
variable {g : Gq05.Graph} {v : Nat}
abbrev offE (g : Gq05.Graph) (v : Nat) : List Gq05.Edge := (Gq05.cutOff g v).edges
theorem off_sum (g : Gq05.Graph) (v : Nat) (F : Gq05.Edge → Nat) : ((offE g v).map F).sum = (g.edges.map fun e => if (e.src != v && e.dst != v) = true then F e else 0).sum := by
  show ((g.edges.filter fun e => e.src != v && e.dst != v).map F).sum = _
  rw [WB.sum_if]
theorem sum_le {α : Type} {f k : α → Nat} : ∀ (l : List α), (∀ x ∈ l, f x ≤ k x) → (l.map f).sum ≤ (l.map k).sum
  | [], _ => Nat.le_refl _
  | a :: l, h => by
    rw [List.map_cons, List.map_cons, List.sum_cons, List.sum_cons]
    have := h a List.mem_cons_self
    have := sum_le l fun x hx => h x (List.mem_cons_of_mem _ hx)
    omega
/-- fewer edges, fewer walks -/
theorem off_le (g : Gq05.Graph) (v s : Nat) : ∀ (L y : Nat), W (offE g v) s y L ≤ W g.edges s y L := by
  intro L
  induction L using Nat.strongRecOn with
  | ind L ih =>
    intro y
    rw [WB.W_eq (offE g v), WB.W_eq g.edges, off_sum]
    refine Nat.add_le_add_left (sum_le _ fun e _ => ?_) _
    split
    · unfold con
      split
      · exact ih _ (by omega) _
      · exact Nat.le_refl _
    · exact Nat.zero_le _
theorem mul_sum {α : Type} (A : Nat) (f : α → Nat) : ∀ l : List α, A * (l.map f).sum = (l.map fun x => A * f x).sum
  | [] => Nat.mul_zero _
  | a :: l => by rw [List.map_cons, List.sum_cons, Nat.mul_add, mul_sum A f l, List.map_cons, List.sum_cons]
/-- the shortest walks are those without v and those by v -/
theorem off_split (o : Ok g) {s a : Nat} (ha : ∀ x, IsD g.edges s v x → x = a) : ∀ (b y : Nat), y ≠ v → IsD g.edges s y b →
    W g.edges s y b = W (offE g v) s y b + (if a ≤ b then W g.edges s v a * W g.edges v y (b - a) else 0) := by
  intro b
  induction b using Nat.strongRecOn with
  | ind b ih =>
    intro y hy hD
    have e3 : (if a ≤ b then W g.edges s v a * W g.edges v y (b - a) else 0) = (g.edges.map fun e => if a ≤ b then W g.edges s v a * con g.edges v y (b - a) e else 0).sum := by
      split
      · rw [WB.W_eq g.edges v y (b - a), if_neg (fun q => hy q.1), Nat.zero_add, mul_sum]
      · rw [WB.sum_zero]
    rw [e3, WB.W_eq (offE g v), WB.W_eq g.edges s y b, off_sum, Nat.add_assoc, ← WB.sum_add]
    congr 1
    refine WB.sum_congr _ fun f hf => ?_
    have hl := (o.ed f hf).2.2.2.1
    by_cases hd : f.dst = y
    · by_cases hb : f.long ≤ b
      · have c1 : con g.edges s y b f = W g.edges s f.src (b - f.long) := if_pos ⟨hd, by omega, hb⟩
        have c2 : con (offE g v) s y b f = W (offE g v) s f.src (b - f.long) := if_pos ⟨hd, by omega, hb⟩
        have c3 : con g.edges v y (b - a) f = if f.long ≤ b - a then W g.edges v f.src (b - a - f.long) else 0 := by
          unfold con
          by_cases q : f.long ≤ b - a
          · rw [if_pos ⟨hd, by omega, q⟩, if_pos q]
          · rw [if_neg fun z => q z.2.2, if_neg q]
        rw [c1, c2, c3]
        rcases Nat.eq_zero_or_pos (W g.edges s f.src (b - f.long)) with hz | hz
        · have z2 : W (offE g v) s f.src (b - f.long) = 0 := by
            have := off_le g v s (b - f.long) f.src
            omega
          rw [hz, z2]
          have z3 : (if a ≤ b then W g.edges s v a * (if f.long ≤ b - a then W g.edges v f.src (b - a - f.long) else 0) else 0) = 0 := by
            by_cases q1 : a ≤ b
            · rw [if_pos q1]
              by_cases q2 : f.long ≤ b - a
              · rw [if_pos q2]
                rcases Nat.eq_zero_or_pos (W g.edges s v a) with w1 | w1
                · rw [w1, Nat.zero_mul]
                · rcases Nat.eq_zero_or_pos (W g.edges v f.src (b - a - f.long)) with w2 | w2
                  · rw [w2, Nat.mul_zero]
                  · have := W_join o _ _ _ _ _ w1 w2
                    rw [show a + (b - a - f.long) = b - f.long by omega, hz] at this
                    omega
              · rw [if_neg q2, Nat.mul_zero]
            · rw [if_neg q1]
          rw [z3]
          split <;> rfl
        · have hDf : IsD g.edges s f.src (b - f.long) := (hD.con o hf (by rw [c1]; exact hz)).2.2.1
          by_cases hv : f.src = v
          · rw [hv] at hDf hz ⊢
            have hab := ha _ hDf
            rw [if_neg (by simp), Nat.zero_add, if_pos (by omega), if_pos (by omega), show b - a - f.long = 0 by omega, WB.W_start, Nat.mul_one, hab]
          · rw [if_pos (by
              have : f.dst ≠ v := by rw [hd]; exact hy
              simp [hv, this]), ih (b - f.long) (by omega) f.src hv hDf]
            congr 1
            by_cases q1 : a ≤ b
            · rw [if_pos q1]
              by_cases q2 : f.long ≤ b - a
              · rw [if_pos q2, if_pos (by omega), show b - f.long - a = b - a - f.long by omega]
              · rw [if_neg q2, if_neg (by omega), Nat.mul_zero]
            · rw [if_neg q1, if_neg (by omega)]
      · have c1 : con g.edges s y b f = 0 := if_neg fun q => hb q.2.2
        have c2 : con (offE g v) s y b f = 0 := if_neg fun q => hb q.2.2
        have c3 : con g.edges v y (b - a) f = 0 := if_neg fun q => hb (by omega)
        rw [c1, c2, c3, Nat.mul_zero]
        split <;> split <;> rfl
    · have c1 : con g.edges s y b f = 0 := if_neg fun q => hd q.1
      have c2 : con (offE g v) s y b f = 0 := if_neg fun q => hd q.1
      have c3 : con g.edges v y (b - a) f = 0 := if_neg fun q => hd q.1
      rw [c1, c2, c3, Nat.mul_zero]
      split <;> split <;> rfl
/-- what stays of the shortest ways, counted -/
theorem off_count (o : Ok g) {s e b : Nat} (hs : Nd g s) (hv : Nd g v) (he : Nd g e) (hev : e ≠ v) (hD : IsD g.edges s e b) : W g.edges s e b = W (offE g v) s e b + thr g s v e := by
  have hfe : farT g s e = some (b, W g.edges s e b) := WB.far_some o hs hD
  unfold thr
  rw [hfe]
  rcases WB.far_cases o hs hv with ⟨h1, h2⟩ | ⟨a, h1, h2⟩
  · rw [show farT g s v = none from h1]
    have h := off_split o (a := 0) (fun x hx => absurd hx (h2 x)) b e hev hD
    have z : W g.edges s v 0 = 0 := by
      rcases Nat.eq_zero_or_pos (W g.edges s v 0) with q | q
      · exact q
      · obtain ⟨c, hc, _⟩ := IsD.ex _ q
        exact absurd hc (h2 c)
    rw [if_pos (Nat.zero_le _), z, Nat.zero_mul] at h
    exact h
  · rw [show farT g s v = some (a, W g.edges s v a) from h1]
    have h := off_split o (a := a) (fun x hx => hx.uniq h2) b e hev hD
    rw [h]
    congr 1
    rcases WB.far_cases o hv he with ⟨k1, k2⟩ | ⟨c, k1, k2⟩
    · rw [show farT g v e = none from k1]
      dsimp only
      split
      · rcases Nat.eq_zero_or_pos (W g.edges v e (b - a)) with q | q
        · rw [q, Nat.mul_zero]
        · obtain ⟨c, hc, _⟩ := IsD.ex _ q
          exact absurd hc (k2 c)
      · rfl
    · rw [show farT g v e = some (c, W g.edges v e c) from k1]
      dsimp only
      have tri : b ≤ a + c := hD.le (W_join o _ _ _ _ _ h2.1 k2.1)
      by_cases q1 : a + c = b
      · rw [if_pos q1, if_pos (by omega), show b - a = c by omega]
      · rw [if_neg q1]
        split
        · rw [k2.2 (b - a) (by omega), Nat.mul_zero]
        · rfl
/-- who is hurt -/
theorem hurt_iff (o : Ok g) {s e : Nat} (hs : Nd g s) (hv : Nd g v) (he : Nd g e) (hev : e ≠ v) : ((farT g s e).map (fun x => x.1) != (farT (Gq05.cutOff g v) s e).map (fun x => x.1)) = byAll g s v e := by
  have o' := ok_cutOff o v
  have hs' : Nd (Gq05.cutOff g v) s := hs
  have he' : Nd (Gq05.cutOff g v) e := he
  unfold byAll
  rcases WB.far_cases o hs he with ⟨h1, h2⟩ | ⟨b, h1, h2⟩
  · have h1 : farT g s e = none := h1
    have h3 : farT (Gq05.cutOff g v) s e = none := WB.far_none o' hs' he' fun c hc => by
      have := off_le g v s c e
      obtain ⟨d, hd, _⟩ := IsD.ex c (show 0 < W g.edges s e c from Nat.lt_of_lt_of_le hc.1 this)
      exact h2 d hd
    rw [h1, h3, show waysT g s e = 0 by rw [ways_far, h1]; rfl]
    rfl
  · have h1 : farT g s e = some (b, W g.edges s e b) := h1
    have hc := off_count o hs hv he hev h2
    have hw : waysT g s e = W g.edges s e b := by rw [ways_far, h1]; rfl
    rw [hw, decide_eq_true h2.1, Bool.true_and, h1]
    have low : ∀ L, L < b → W (offE g v) s e L = 0 := fun L hL => by
      have := off_le g v s L e
      rw [h2.2 L hL] at this
      omega
    by_cases q : thr g s v e = W g.edges s e b
    · rw [decide_eq_true q, bne_iff_ne]
      have z : W (offE g v) s e b = 0 := by omega
      rcases WB.far_cases o' hs' he' with ⟨k1, k2⟩ | ⟨c, k1, k2⟩
      · rw [show farT (Gq05.cutOff g v) s e = none from k1]
        intro y
        cases y
      · rw [show farT (Gq05.cutOff g v) s e = some (c, W (offE g v) s e c) from k1]
        intro y
        have y : b = c := Option.some.inj y
        have := k2.1
        rw [← y] at this
        have this : 0 < W (offE g v) s e b := this
        omega
    · rw [decide_eq_false q]
      have z : 0 < W (offE g v) s e b := by omega
      have k1 : farT (Gq05.cutOff g v) s e = some (b, W (offE g v) s e b) := WB.far_some o' hs' ⟨z, low⟩
      rw [k1, bne_eq_false_iff_eq]
      rfl
theorem byAll_self (o : Ok g) {s : Nat} (hs : Nd g s) (hv : Nd g v) (hsv : s ≠ v) : byAll g s v s = false := by
  have h0 : farT g s s = some (0, W g.edges s s 0) := WB.far_some o hs (IsD.self _ _)
  have w1 : waysT g s s = 1 := by
    rw [ways_far, h0]
    exact WB.W_start _ _
  have t0 : thr g s v s = 0 := by
    unfold thr
    rw [h0]
    split
    · rename_i a b c e1 e2 e3
      cases e1
      rw [if_neg]
      intro q
      have hb := (far_pos o hs hv e2).2.2.1
      rw [show b.1 = 0 by omega] at hb
      exact hsv hb.zero.symm
    · rfl
  unfold byAll
  rw [t0, w1]
  rfl
theorem flat_filter {α β : Type} (p : α → Bool) (f : α → List β) : ∀ l : List α, (l.filter p).flatMap f = l.flatMap fun x => if p x = true then f x else []
  | [] => rfl
  | a :: l => by
    rw [List.flatMap_cons, List.filter_cons]
    split
    · rw [List.flatMap_cons, flat_filter p f l]
    · rw [flat_filter p f l, List.nil_append]
theorem flat_congr {α β : Type} {f k : α → List β} : ∀ l : List α, (∀ x ∈ l, f x = k x) → l.flatMap f = l.flatMap k
  | [], _ => rfl
  | a :: l, h => by rw [List.flatMap_cons, List.flatMap_cons, h a List.mem_cons_self, flat_congr l fun x hx => h x (List.mem_cons_of_mem _ hx)]
/-- the pairs that are hurt, start by start -/
theorem hurt_is (o : Ok g) (hv : Nd g v) : Gq05.hurt g (Gq05.table g) v = (othersN g v).flatMap fun s => ((othersN g v).filter fun e => byAll g s v e).map fun e => (s, e) := by
  unfold Gq05.hurt Gq05.pairs
  dsimp only
  rw [List.filter_flatMap, show othersN g v = (Gq05.nodes g).filter fun x => x != v from rfl, flat_filter]
  refine flat_congr _ fun s hs => ?_
  have hs := WB.mem_nodes.mp hs
  by_cases hsv : s = v
  · subst hsv
    rw [if_neg (by simp), List.filter_eq_nil_iff]
    intro p hp
    obtain ⟨e, _, rfl⟩ := List.mem_map.mp hp
    simp
  · rw [if_pos (by simpa using hsv), List.filter_map, List.filter_filter, List.filter_filter]
    congr 1
    refine List.filter_congr fun e he => ?_
    have he := WB.mem_nodes.mp he
    show ((s != v && (e != v && ((farT g s e).map (fun x => x.1) != (farT (Gq05.cutOff g v) s e).map (fun x => x.1)))) && e != s) = (byAll g s v e && e != v)
    rw [show (s != v) = true by simpa using hsv, Bool.true_and]
    by_cases hev : e = v
    · subst hev
      simp
    · rw [show (e != v) = true by simpa using hev, Bool.true_and, Bool.and_true, hurt_iff o hs hv he hev]
      by_cases hes : e = s
      · subst hes
        rw [byAll_self o hs hv hsv]
        rfl
      · rw [show (e != s) = true by simpa using hes, Bool.and_true]
/-- who is needed -/
theorem needed_is {s e : Nat} : Gq05.needed g (Gq05.table g) s e = (othersN g s).filter fun v => v != e && byAll g s v e := by
  unfold Gq05.needed othersN
  rw [List.filter_filter]
  refine List.filter_congr fun v _ => ?_
  by_cases h1 : v = s
  · subst h1
    simp
  · by_cases h2 : v = e
    · subst h2
      simp
    · rw [show (v != s) = true by simpa using h1, show (v != e) = true by simpa using h2, Bool.true_and, Bool.true_and, Bool.true_and, Bool.and_true]
      unfold byAll
      have : Gq05.through (Gq05.table g) s e v = thr g s v e := by
        unfold Gq05.through thr
        rw [if_neg (by omega)]
        rfl
      rw [this]
      congr 1
/-! ### near, middle -/
/-- what the program gathers of a dict of lengths -/
def lensOf (L : WB.ND) (s : Nat) : List Nat := (L.filter fun p => p.1 != s).map fun p => p.2
theorem nd_of_keys {L : WB.ND} (h : (L.map fun p => p.1).Nodup) : L.Nodup := WB.nd_of_map h
theorem lens_mem {L : WB.ND} {s : Nat} (h : (L.map fun p => p.1).Nodup) {y a : Nat} : (y, a) ∈ L ↔ WB.ndGet L y = some a := by
  unfold WB.ndGet
  constructor
  · intro q
    induction L with
    | nil => cases q
    | cons p l ih =>
      rw [List.map_cons, List.nodup_cons] at h
      rw [List.find?_cons]
      rcases List.mem_cons.mp q with z | z
      · rw [← z]
        simp
      · have : p.1 ≠ y := fun r => h.1 (by rw [r]; exact List.mem_map.mpr ⟨_, z, rfl⟩)
        rw [decide_eq_false this]
        exact ih h.2 z
  · intro q
    obtain ⟨p, h1, h2⟩ := Option.map_eq_some_iff.mp q
    have h3 := List.find?_some h1
    have h4 := List.mem_of_find?_eq_some h1
    have h3 : p.1 = y := by simpa using h3
    rw [← h3, ← h2]
    exact h4
/-- the same lengths, in some order -/
theorem lens_perm (o : Ok g) {s : Nat} (hs : Nd g s) {L : WB.ND} (h : WB.Lens g.edges s L) : (lensOf L s).Perm (othersLens g s) := by
  have e : othersLens g s = (((Gq05.nodes g).filter fun y => y != s).filterMap fun y => (farT g s y).map fun x => (y, x.1)).map fun p => p.2 := by
    unfold othersLens
    rw [List.map_filterMap]
    refine congrArg (fun f => List.filterMap f _) (funext fun y => ?_)
    cases farT g s y <;> rfl
  rw [e]
  unfold lensOf
  refine List.Perm.map _ ?_
  refine (List.perm_ext_iff_of_nodup ?_ ?_).mpr fun p => ?_
  · exact (nd_of_keys h.nd).filter _
  · refine WB.nd_of_map (f := fun p => p.1) ?_
    rw [List.map_filterMap]
    have : (((Gq05.nodes g).filter fun y => y != s).filterMap fun y => ((farT g s y).map fun x => (y, x.1)).map fun p => p.1) = ((Gq05.nodes g).filter fun y => y != s).filter fun y => (farT g s y).isSome := by
      induction (Gq05.nodes g).filter fun y => y != s with
      | nil => rfl
      | cons y l ih =>
        rw [List.filterMap_cons, List.filter_cons, ih]
        cases farT g s y <;> rfl
    rw [this]
    exact (WB.nodes_nd.filter _).filter _
  · obtain ⟨y, a⟩ := p
    rw [List.mem_filter, List.mem_filterMap, lens_mem (s := s) h.nd]
    constructor
    · rintro ⟨h1, h2⟩
      have hD := (h.iff y a).mp h1
      have hy := WB.W_node o hs hD.1
      refine ⟨y, List.mem_filter.mpr ⟨WB.mem_nodes.mpr hy, h2⟩, ?_⟩
      rw [show farT g s y = some (a, W g.edges s y a) from WB.far_some o hs hD]
      rfl
    · rintro ⟨z, hz, h1⟩
      obtain ⟨hz1, hz2⟩ := List.mem_filter.mp hz
      obtain ⟨x, h2, h3⟩ := Option.map_eq_some_iff.mp h1
      injection h3 with h4 h5
      subst h4
      subst h5
      exact ⟨(h.iff _ _).mpr (far_pos o hs (WB.mem_nodes.mp hz1) h2).2.2.1, hz2⟩
theorem max_fold : ∀ (l : List Nat) (a : Nat), (∀ x ∈ l, x ≤ l.foldl max a) ∧ a ≤ l.foldl max a ∧ (l.foldl max a = a ∨ l.foldl max a ∈ l)
  | [], a => ⟨fun _ h => by (cases h), Nat.le_refl _, .inl rfl⟩
  | x :: l, a => by
    rw [List.foldl_cons]
    obtain ⟨h1, h2, h3⟩ := max_fold l (max a x)
    refine ⟨fun y hy => ?_, by omega, ?_⟩
    · rcases List.mem_cons.mp hy with q | q
      · rw [q]
        omega
      · exact h1 y q
    · rcases h3 with q | q
      · rw [q]
        rcases Nat.le_total a x with z | z
        · rw [Nat.max_eq_right z]
          exact .inr List.mem_cons_self
        · rw [Nat.max_eq_left z]
          exact .inl rfl
      · exact .inr (List.mem_cons_of_mem _ q)
/-- the greatest, 0 if there's none, however it was found -/
theorem max_is {l k : List Nat} (p : l.Perm k) {m : Int} (h0 : l.map (fun (n : Nat) => (n : Int)) = [] → m = 0) (h1 : l.map (fun (n : Nat) => (n : Int)) ≠ [] → m ∈ l.map (fun (n : Nat) => (n : Int)) ∧ ∀ y ∈ l.map (fun (n : Nat) => (n : Int)), y ≤ m) : m = ((k.foldl max 0 : Nat) : Int) := by
  obtain ⟨a1, a2, a3⟩ := max_fold k 0
  by_cases hl : l = []
  · subst hl
    rw [h0 rfl, p.symm.eq_nil]
    rfl
  · obtain ⟨b1, b2⟩ := h1 (by simpa using hl)
    obtain ⟨n, hn, rfl⟩ := List.mem_map.mp b1
    have c1 := a1 n (p.mem_iff.mp hn)
    rcases a3 with q | q
    · rw [q] at c1
      rw [q]
      show (n : Int) = ((0 : Nat) : Int)
      omega
    · have c2 := b2 _ (List.mem_map.mpr ⟨_, p.mem_iff.mpr q, rfl⟩)
      omega
end
end WF
end
section
set_option Elab.async false
set_option linter.all false
set_option maxRecDepth 100000
set_option maxHeartbeats 4000000
namespace WF
open PySem PySem.Spec PyProof.Rows L2
open WB (Ok ND ndGet ndPut IsD W Lens)
abbrev sNear : Stmt := top 23
abbrev sOth : Stmt := top 24
abbrev sMid : Stmt := top 25
section
variable {P : Program} {w : World} {K : PySem.W.Frag} {mg : Str → Option Value} {base : Heap} {C CS : Addr} {T : List (Addr × Str)}
/-! ### lengths_to_others -/
def spOth (C : Addr) : Sp := fun vs H Q _ => ∃ (a : Addr) (g : Gq05.Graph) (x : Nat), vs = [.ref a, .int (x : Int)] ∧ GraphAt C H a g ∧ Ok g ∧ Nd g x ∧
  ∀ (H' : Hp) (q : Addr) (l : List Nat), Same H H' → H q = none → H' q = some (.lst (natsV l)) → l.Perm (othersLens g x) → Q (.ref q) H'
theorem scOth : FnScope ["graph", "x", "lengths", "y"] ["graph", "x"] (defScope sOth) := ⟨rfl, rfl, rfl, by decide +kernel, rfl, by decide +kernel, by decide +kernel⟩
theorem lensOf_take (L : ND) (x i : Nat) : lensOf (L.take i) x = ((L.take i).filter fun p => p.1 != x).map fun p => p.2 := rfl
theorem lensOf_len (L : ND) (x : Nat) : (lensOf L x).length ≤ L.length := by
  unfold lensOf
  rw [List.length_map]
  exact List.length_filter_le ..
theorem ok_oth {f : Addr} {fd : FuncData} (F : Fun K "lengths_to_others" "lengths_to_others" sOth f fd) (X : Txt K mg C) (ML : LensF P w K mg base C) : FnOk P w K mg base CX0 3 f fd ["graph", "x"] (spOth C) := by
  obtain ⟨fl, fdl, ml, kl, bl, GL⟩ := ML.ex
  refine F.ok scOth (fun vs H Q E h => ?_) (fun cdv A outer sh H vs Q E hr h => ?_)
  · obtain ⟨a, g, x, rfl, _⟩ := h
    rfl
  · obtain ⟨a, g, x, rfl, hg, ok, hx, k⟩ := h
    have hu := hu_of hr
    refine ⟨_, pss_cons (ps_set (i := 2) scOth.nd rfl (Or.inr rfl) (pe_call GL hr rfl ml kl bl .nil pass0 (pa_cons (pv 0) (pa_cons (pv 1) pa_nil))))
      (pss_one (ps_ret (pe_lock (pe_lc (own := [("y", 3)]) (g := gName 3) rfl scOth.nd (pi_keys (pv 2)) (blkOk_by (own := [("y", 3)]) (N := ["graph", "x", "lengths", "y"]) (sc := defScope sOth) (by decide +kernel))
        (fun _ _ _ _ _ => pg_name (i := 3) scOth.nd rfl (Or.inl rfl)) (fun _ _ _ _ _ => pts_one (pt_cmpR op_ne (pv 3) (pv 1) (nomark _))) (fun _ _ _ _ _ => pe_dget hu (pv 2) (pv 3) (fun _ _ => rfl)))))), ?_⟩
    refine ⟨_, rfl, _, rfl, a, g, x, rfl, hg, ok, hx, fun H1 p s1 hp0 hp => ?_⟩
    have lok := WB.lens_ok ok hx
    generalize WB.rounds g.edges x (g.many - 1) = L at hp lok
    have hL13 : L.length ≤ 13 := by
      have h3 := sub_len (n := 13) lok.nd fun y hy => by
        obtain ⟨b, hb⟩ := Option.isSome_iff_exists.mp (WB.nd_mem.mp hy)
        have := (WB.W_node ok hx ((lok.iff y b).mp hb).1).2
        have := ok.le
        omega
      rw [List.length_map] at h3
      exact h3
    refine ⟨p, _, hp, trivial, fun od => ?_⟩
    refine ⟨_, rfl, p, od, rfl, .inl ⟨_, upd_same, fun D hD => ?_⟩⟩
    have nDp : D ≠ p := fun z => by rw [z, upd_same] at hD; cases hD
    have hD1 : H1 D = none := (upd_ne nDp).symm.trans hD
    have hD0 : H D = none := by
      cases q : H D with
      | none => rfl
      | some o => rw [s1 _ _ q] at hD1; cases hD1
    refine lc_it walk_keys (fun i H2 => (∀ b o, H1 b = some o → b ≠ p → H2 b = some o) ∧ H2 p = some (.frz od (.dK (ndV L))) ∧ H2 D = some (.lst (natsV (lensOf (L.take i) x)))) ?_ (fun i H2 _ q => q.2.1) ?_ ?_
    · refine ⟨fun c o q hc => ?_, (upd_ne (Ne.symm nDp)).trans upd_same, upd_same⟩
      rw [upd_ne (ne_of_none q hD1), upd_ne hc]
      exact q
    · rintro i z H2 HY hi ⟨s2, hp2, hD2⟩ ⟨rfl, kk, vv, hkv, rfl⟩
      obtain ⟨y, c, hy, hee⟩ : ∃ y c, L[i]? = some (y, c) ∧ (ik y, V.int (c : Int)) = (kk, vv) := by
        unfold ndV at hkv
        rw [List.getElem?_map, Option.map_eq_some_iff] at hkv
        obtain ⟨z, hz1, hz2⟩ := hkv
        exact ⟨z.1, z.2, hz1, hz2⟩
      injection hee with e1 e2
      subst e1
      subst e2
      have gy : ndGet L y = some c := ndGet_at lok.nd hy
      have tk : L.take (i + 1) = L.take i ++ [(y, c)] := by
        rw [List.take_add_one, hy]
        rfl
      refine ⟨rfl, ?_⟩
      refine ⟨_, rfl, _, rfl, rfl, _, rfl, ?_⟩
      by_cases hyx : y = x
      · refine no (by
          show ¬ (!decide (V.int (y : Int) = V.int (x : Int))) = true
          simp [hyx]) ⟨s2, hp2, ?_⟩
        unfold lensOf
        rw [tk, List.filter_append, List.filter_cons, if_neg (by simp [hyx]), List.filter_nil, List.append_nil]
        exact hD2
      · refine yes (by
          simp only [Bool.not_eq_true', decide_eq_false_iff_not]
          intro z
          injection z with z
          omega) ?_
        refine ⟨_, rfl, _, rfl, p, _, rfl, .inl ⟨_, ik y, .inr ⟨od, hp2⟩, rfl, by rw [ndV_val, gy]; rfl⟩, _, hD2, ?_, fun b o q hb => ?_, ?_, ?_⟩
        · unfold natsV
          rw [List.length_map]
          have := lensOf_len (L.take i) x
          rw [List.length_take] at this
          rw [sizeLine_eq]
          omega
        · rw [upd_ne (ne_of_none q hD1)]
          exact s2 b o q hb
        · rw [upd_ne (Ne.symm nDp)]
          exact hp2
        · rw [upd_same]
          unfold lensOf
          rw [tk, List.filter_append, List.filter_cons, if_pos (by simpa using hyx), List.filter_nil, List.map_append]
          unfold natsV
          rw [List.map_append]
          rfl
    · rintro H2 ⟨s2, hp2, hD2⟩
      refine ⟨hp2, ?_⟩
      rw [ndV_len, List.take_length] at hD2
      refine k _ D (lensOf L x) (fun c o q => ?_) hD0 ((upd_ne nDp).trans hD2) (lens_perm ok hx lok)
      have q1 := s1 _ _ q
      by_cases hc : c = p
      · rw [hc, hp0] at q
        cases q
      · rw [upd_ne hc]
        exact s2 c o q1 hc
structure OthF (P : Program) (w : World) (K : PySem.W.Frag) (mg : Str → Option Value) (base : Heap) (C : Addr) : Prop where
  ex : ∃ f fd, mg "lengths_to_others" = some (.ref f) ∧ PySem.W.keepIn K (.ref f) = true ∧ Binds K fd ["graph", "x"] [] ∧ FnOk P w K mg base CX0 3 f fd ["graph", "x"] (spOth C)
/-! ### near -/
theorem natsV_ints (l : List Nat) : natsV l = (l.map fun (n : Nat) => (n : Int)).map V.int := by
  unfold natsV
  rw [List.map_map]
  rfl
def spNear (C : Addr) (T : List (Addr × Str)) : Sp := fun vs H Q E => ∃ (x : Nat), spAsk C T [.int (x : Int)] (.near x) vs H Q E
theorem scNear : FnScope ["graph", "x", "lengths"] ["graph", "x"] (defScope sNear) := ⟨rfl, rfl, rfl, by decide +kernel, rfl, by decide +kernel, by decide +kernel⟩
theorem ok_near {f : Addr} {fd : FuncData} (F : Fun K "near" "near" sNear f fd) (X : Txt K mg C) (hsum : mg "sum" = none) (hmax : mg "max" = none) (MH : HasM P w K mg base C) (MO : OthF P w K mg base C) : FnOk P w K mg base CX0 4 f fd ["graph", "x"] (spNear C T) := by
  obtain ⟨fh, fdh, mh, bh, GH⟩ := MH.ex
  obtain ⟨fo, fdo, mo, ko, bo, GO⟩ := MO.ex
  refine F.ok scNear (fun vs H Q E h => ?_) (fun cdv A outer sh H vs Q E hr h => ?_)
  · obtain ⟨x, a, g, rfl, _⟩ := h
    rfl
  · obtain ⟨x, a, g, rfl, hg, ok, hT, k⟩ := h
    have hu := hu_of hr
    have hr1 : Room 1 _ := hr.mono (by decide)
    obtain ⟨t1, m1⟩ := X.told
    obtain ⟨dxg, d, g1, g2⟩ := id hg
    have n0 := gf_no g.many d (m := "has_node") (by decide +kernel) (by decide +kernel)
    refine ⟨_, pss_cons (ps_if (pt_not (pt_val (pe_meth (pv 0) X.cl mh GH hr1 bh .nil pass0 (pa_cons (pv 1) pa_nil)))) (pss_one (ps_ret (pe_lst (pa_cons (pe_glob rfl m1 ri) pa_nil)))) pss_nil)
      (pss_cons (ps_set (i := 2) scNear.nd rfl (Or.inl rfl) (pe_call GO hr rfl mo ko bo .nil pass0 (pa_cons (pv 0) (pa_cons (pv 1) pa_nil))))
      (pss_one (ps_ret (pe_lst (pa_cons (pe_callB call_len_seq (by rfl) X.len PySem.boot_len (pa_cons (pv 2) pa_nil)) (pa_cons (pe_callB (cr_sum rfl) (by rfl) hsum (by decide +kernel) (pa_cons (pv 2) pa_nil))
        (pa_cons (pe_callBK (WR.cr_maxD rfl hu) (by rfl) hmax (by decide +kernel) (pa_cons (pv 2) pa_nil) (pk_cons pe_int pk_nil)) pa_nil))))))), ?_⟩
    have ks : (Gq05.step g (.near x)).2 = if Gq05.isNode g x = false then [-1] else Gq05.ints [(Gq05.near g (Gq05.table g) x).1, (Gq05.near g (Gq05.table g) x).2.1, (Gq05.near g (Gq05.table g) x).2.2] := rfl
    rw [ks] at k
    refine ⟨_, rfl, a, dxg, _, rfl, g1, n0, _, rfl, a, g, x, rfl, hg, _, rfl, ?_⟩
    rw [isNode_iff]
    cases hx : Gq05.isNode g x with
    | false =>
      rw [if_pos hx] at k
      exact iteT ⟨(by show 1 ≤ sizeLine; decide), fun p hp => k _ p (ext_upd hp) (hT.ext (same_upd hp)) upd_same (nl_none hp)⟩
    | true =>
      rw [if_neg (by rw [hx]; simp)] at k
      refine iteF ⟨_, rfl, _, rfl, a, g, x, rfl, hg, ok, nd_of hx, fun H1 q l s1 hq0 hq hl => ?_⟩
      have hqi := hq
      rw [natsV_ints] at hqi
      refine ⟨_, rfl, q, _, rfl, .inl (SqL.of hq), _, rfl, q, _, rfl, SqL.of hqi, _, rfl, q, _, 0, rfl, rfl, SqL.of hqi, fun m h0 h1 => ?_⟩
      have hm := max_is hl h0 h1
      refine ⟨(by show 3 ≤ sizeLine; decide), fun p hp => ?_⟩
      refine k _ p (ext_same (s1.trans (same_upd hp))) (hT.ext (s1.trans (same_upd hp))) ?_ (nl_same s1 hp)
      rw [upd_same, near_is, hm, int_sum, natsV_len, hl.length_eq, hl.sum_nat]
      rfl
end
end WF
end
section
set_option Elab.async false
set_option linter.all false
set_option maxRecDepth 100000
set_option maxHeartbeats 4000000
namespace WF
open PySem PySem.Spec PyProof.Rows L2
open WB (Ok ND ndGet ndPut IsD W Lens)
/-! ### middle -/
/-- the nodes of l from which there's a way to all others, and how long the longest is -/
def midN (g : Gq05.Graph) (l : List Nat) : ND := (l.filter fun s => (Gq05.near g (Gq05.table g) s).1 + 1 == g.many).map fun s => (s, (Gq05.near g (Gq05.table g) s).2.2)
theorem mid_keys (g : Gq05.Graph) (l : List Nat) : (midN g l).map (fun p => p.1) = l.filter fun s => (Gq05.near g (Gq05.table g) s).1 + 1 == g.many := by
  unfold midN
  rw [List.map_map]
  exact List.map_id _
theorem mid_len (g : Gq05.Graph) (l : List Nat) : (midN g l).length ≤ l.length := by
  unfold midN
  rw [List.length_map]
  exact List.length_filter_le ..
theorem mid_app (g : Gq05.Graph) (l : List Nat) (x : Nat) : midN g (l ++ [x]) = if (Gq05.near g (Gq05.table g) x).1 + 1 = g.many then midN g l ++ [(x, (Gq05.near g (Gq05.table g) x).2.2)] else midN g l := by
  unfold midN
  rw [List.filter_append, List.filter_cons, List.filter_nil, List.map_append]
  by_cases h : (Gq05.near g (Gq05.table g) x).1 + 1 = g.many
  · rw [if_pos h, if_pos (by simpa using h)]
    rfl
  · rw [if_neg h, if_neg (by simpa using h), List.map_nil, List.append_nil]
theorem nd_put_new {d : ND} {k v : Nat} (h : k ∉ d.map fun p => p.1) : ndPut d k v = d ++ [(k, v)] := by
  unfold ndPut
  rw [if_neg]
  rw [WB.nd_any]
  intro q
  exact h (WB.nd_mem.mpr q)
/-- those at the least -/
def leastN (d : ND) (m : Int) : List Nat := (d.filter fun p => decide ((p.2 : Int) = m)).map fun p => p.1
theorem least_is {d : ND} {m : Int} (h : (d.map fun p => (p.2 : Int)) ≠ [] → m ∈ (d.map fun p => (p.2 : Int)) ∧ ∀ y ∈ (d.map fun p => (p.2 : Int)), m ≤ y) : leastN d m = (d.filter fun x => d.all fun y => decide (x.2 ≤ y.2)).map fun x => x.1 := by
  unfold leastN
  congr 1
  refine List.filter_congr fun p hp => ?_
  have ne : (d.map fun p => (p.2 : Int)) ≠ [] := fun z => by
    have := List.map_eq_nil_iff.mp z
    rw [this] at hp
    cases hp
  obtain ⟨h1, h2⟩ := h ne
  obtain ⟨q, hq, hqm⟩ := List.mem_map.mp h1
  rw [Bool.eq_iff_iff, decide_eq_true_eq, List.all_eq_true]
  constructor
  · intro e y hy
    have := h2 _ (List.mem_map.mpr ⟨y, hy, rfl⟩)
    rw [decide_eq_true_eq]
    omega
  · intro e
    have e1 := e q hq
    rw [decide_eq_true_eq] at e1
    have e2 := h2 _ (List.mem_map.mpr ⟨p, hp, rfl⟩)
    omega
theorem middles_is (g : Gq05.Graph) : Gq05.middles g = ((midN g (Gq05.nodes g)).filter fun x => (midN g (Gq05.nodes g)).all fun y => decide (x.2 ≤ y.2)).map fun x => x.1 := rfl
section
variable {P : Program} {w : World} {K : PySem.W.Frag} {mg : Str → Option Value} {base : Heap} {C CS : Addr} {T : List (Addr × Str)}
def spMid (C : Addr) (T : List (Addr × Str)) : Sp := fun vs H Q E => spAsk C T [] .middle vs H Q E
theorem scMid : FnScope ["graph", "longest", "x", "lengths", "least", "found"] ["graph"] (defScope sMid) := ⟨rfl, rfl, rfl, by decide +kernel, rfl, by decide +kernel, by decide +kernel⟩
theorem ok_mid {f : Addr} {fd : FuncData} (F : Fun K "middle" "middle" sMid f fd) (X : Txt K mg C) (hmax : mg "max" = none) (hmin : mg "min" = none) (MN : NodesM P w K mg base C) (MO : OthF P w K mg base C) : FnOk P w K mg base CX0 4 f fd ["graph"] (spMid C T) := by
  obtain ⟨fn, fdn, mn, bn, GN⟩ := MN.ex
  obtain ⟨fo, fdo, mo, ko, bo, GO⟩ := MO.ex
  refine F.ok scMid (fun vs H Q E h => ?_) (fun cdv A outer sh H vs Q E hr h => ?_)
  · obtain ⟨a, g, rfl, _⟩ := h
    rfl
  · obtain ⟨a, g, rfl, hg, ok, hT, k⟩ := h
    have hu := hu_of hr
    have hr1 : Room 1 _ := hr.mono (by decide)
    obtain ⟨dxg, d, g1, g2⟩ := id hg
    refine ⟨_, pss_cons (ps_set (i := 1) scMid.nd rfl (Or.inr rfl) pe_dnewK)
      (pss_cons (ps_for PassesOwn.never rfl (pi_list (pe_meth0 (pv 0) X.cl mn GN hr1 bn .nil pass0)) (pg_name (i := 2) scMid.nd rfl (Or.inl rfl))
        (pss_cons (ps_set (i := 3) scMid.nd rfl (Or.inl rfl) (pe_call GO hr rfl mo ko bo .nil pass0 (pa_cons (pv 0) (pa_cons (pv 2) pa_nil))))
        (pss_one (ps_if (pt_cmpR op_eq (pe_callB call_len_seq (by rfl) X.len PySem.boot_len (pa_cons (pv 3) pa_nil)) (pe_op op_sub (pe_fld (pv 0) rfl) pe_int) (nomark _))
          (pss_one (ps_dput hu (pv 1) (pv 2) (pe_callBK (WR.cr_maxD rfl hu) (by rfl) hmax (by decide +kernel) (pa_cons (pv 3) pa_nil) (pk_cons pe_int pk_nil)) rfl)) pss_nil))))
      (pss_cons (ps_set (i := 4) scMid.nd rfl (Or.inr rfl) (pe_callBK (WR.cr_minD rfl hu) (by rfl) hmin (by decide +kernel) (pa_cons (pe_lock (pe_lc (own := [("x", 2)]) (g := gName 2) (tt := tYes) rfl scMid.nd (pi_keys (pv 1)) (blkOk_by (own := [("x", 2)]) (N := ["graph", "longest", "x", "lengths", "least", "found"]) (sc := defScope sMid) (by decide +kernel))
          (fun _ _ _ _ _ => pg_name (i := 2) scMid.nd rfl (Or.inl rfl)) (fun _ _ _ _ _ => pts_nil) (fun _ _ _ _ _ => pe_dget hu (pv 1) (pv 2) (fun _ _ => rfl)))) pa_nil) (pk_cons pe_int pk_nil)))
      (pss_cons (ps_lock (ps_setLc (i := 5) (own := [("x", 2)]) (g := gName 2) rfl scMid.nd rfl rfl (sw_true rfl rfl rfl (by decide +kernel)) (pi_keys (pv 1)) (blkOk_by (own := [("x", 2)]) (N := ["graph", "longest", "x", "lengths", "least", "found"]) (sc := defScope sMid) (by decide +kernel))
          (fun _ _ _ _ _ => pg_name (i := 2) scMid.nd rfl (Or.inl rfl)) (fun _ _ _ _ _ => pts_one (pt_cmpR op_eq (pe_dget hu (pv 1) (pv 2) (fun _ _ => rfl)) (pv 4) (nomark _))) (fun _ _ _ _ _ => pv 2)))
      (pss_one (ps_ret (pe_op op_cat (pe_lst (pa_cons (pe_callB call_len_seq (by rfl) X.len PySem.boot_len (pa_cons (pv 5) pa_nil)) pa_nil)) (pv 5))))))), ?_⟩
    have ks : (Gq05.step g .middle).2 = Gq05.told (Gq05.middles g) := rfl
    rw [ks] at k
    -- longest = {}
    intro ld hld
    have s0 := same_upd (o := .dK []) hld
    -- for x in graph.nodes()
    refine ⟨_, rfl, a, dxg, _, rfl, s0 _ _ g1, gf_no _ _ (by decide +kernel) (by decide +kernel), a, g, rfl, hg.same s0, ok.le, fun nl hnl => ?_⟩
    have sN := same_upd (o := .lst (nodesV g)) hnl
    have nll : nl ≠ ld := fun z => by rw [z, upd_same] at hnl; cases hnl
    have hle := ok.le
    refine ⟨nl, rfl, ⟨_, SqL.of upd_same⟩, for_list (K := K) (a := nl) (xs := nodesV g) (fun i σ H' => ∃ v2 v3 : Option V, σ = [some (.ref a), some (.ref ld), v2, v3, none, none] ∧ Same H H' ∧ H' nl = some (.lst (nodesV g)) ∧ H' ld = some (.dK (ndV (midN g ((Gq05.nodes g).take i)))))
      ⟨none, none, rfl, s0.trans sN, upd_same, sN _ _ upd_same⟩ (fun i σ H' _ ⟨_, _, _, _, q, _⟩ => SqL.of q) ?_ ?_⟩
    · rintro i z σ H1 hz ⟨v2, v3, rfl, s1, hn1, hl1⟩
      obtain ⟨x, hx, rfl⟩ := nat_at (l := Gq05.nodes g) hz
      have hxn : Nd g x := WB.mem_nodes.mp (List.mem_of_getElem? hx)
      have tk := take_snoc hx
      -- lengths = lengths_to_others(graph, x)
      refine ⟨_, rfl, _, rfl, a, g, x, rfl, hg.same s1, ok, hxn, fun H2 q l s2 hq0 hq hl => ?_⟩
      have hqi := hq
      rw [natsV_ints] at hqi
      have nlen : (Gq05.near g (Gq05.table g) x).1 = l.length := by rw [near_is, hl.length_eq]
      refine ⟨_, rfl, q, _, rfl, .inl (SqL.of hq), _, rfl, a, C, dxg, _, _, rfl, (s1.trans s2) _ _ g1, X.cl, X.nT, gf_total _ _, _, _, rfl, rfl, rfl, _, rfl, ?_⟩
      by_cases hc : l.length + 1 = g.many
      · refine yes (by
          rw [decide_eq_true_eq, natsV_len]
          congr 1
          omega) ?_
        -- longest[x] = max(lengths, default=0)
        refine ⟨_, rfl, q, _, 0, rfl, rfl, SqL.of hqi, fun m h0 h1 => ?_⟩
        have hm := max_is hl h0 h1
        have lk : x ∉ (midN g ((Gq05.nodes g).take i)).map fun p => p.1 := fun z => by
          rw [mid_keys] at z
          have z := (List.mem_filter.mp z).1
          obtain ⟨j, hj⟩ := List.mem_iff_getElem?.mp z
          have hji : j < i := by
            have := (List.getElem?_eq_some_iff.mp hj).1
            rw [List.length_take] at this
            omega
          rw [List.getElem?_take_of_lt hji] at hj
          have hi := (List.getElem?_eq_some_iff.mp hx).1
          have := (List.getElem?_inj hi (WB.nodes_nd (g := g))).mp (hx.trans hj.symm)
          omega
        have lz : (ndV (midN g ((Gq05.nodes g).take i))).length < sizeLine := by
          rw [ndV_len]
          have := mid_len g ((Gq05.nodes g).take i)
          rw [List.length_take, WB.nodes_len] at this
          rw [sizeLine_eq]
          omega
        refine ⟨_, rfl, _, rfl, ld, _, rfl, DPut.k (k := ik x) (s2 _ _ hl1) lz, ?_⟩
        have lH : H ld = none := hld
        refine ⟨_, _, rfl, fun b o e => ?_, ?_, ?_⟩
        · rw [upd_ne (ne_of_none e lH)]
          exact s2 _ _ (s1 _ _ e)
        · rw [upd_ne nll]
          exact s2 _ _ hn1
        · rw [upd_same, tk, mid_app, if_pos (by omega), hm, ndV_put, nd_put_new lk, near_is]
      · refine no (by
          rw [decide_eq_true_eq, natsV_len]
          intro z
          injection z with z
          omega) ?_
        refine ⟨_, _, rfl, s1.trans s2, s2 _ _ hn1, ?_⟩
        rw [tk, mid_app, if_neg (by omega)]
        exact s2 _ _ hl1
    · rintro σ H1 ⟨v2, v3, rfl, s1, hn1, hl1⟩
      rw [List.take_of_length_le (by unfold nodesV; rw [List.length_map]; exact Nat.le_refl _)] at hl1
      have dnd : ((midN g (Gq05.nodes g)).map fun p => p.1).Nodup := by
        rw [mid_keys]
        exact WB.nodes_nd.filter _
      have dlen : (midN g (Gq05.nodes g)).length ≤ 12 := by
        have := mid_len g (Gq05.nodes g)
        rw [WB.nodes_len] at this
        omega
      rw [middles_is] at k
      generalize midN g (Gq05.nodes g) = M at hl1 dnd dlen k
      have at_ : ∀ {i : Nat} {kk : Key} {vv : V}, (ndV M)[i]? = some (kk, vv) → ∃ y c, M[i]? = some (y, c) ∧ kk = ik y ∧ vv = V.int (c : Int) := fun {i kk vv} hkv => by
        unfold ndV at hkv
        rw [List.getElem?_map, Option.map_eq_some_iff] at hkv
        obtain ⟨z, hz1, hz2⟩ := hkv
        injection hz2 with e1 e2
        exact ⟨z.1, z.2, hz1, e1.symm, e2.symm⟩
      have lH : H ld = none := hld
      -- least = min([longest[x] for x in longest], default=0)
      refine ⟨ld, _, hl1, trivial, fun od => ?_⟩
      refine ⟨_, rfl, ld, od, rfl, .inl ⟨_, upd_same, fun D hD => ?_⟩⟩
      have nDl : D ≠ ld := fun z => by rw [z, upd_same] at hD; cases hD
      have hD1 : H1 D = none := (upd_ne nDl).symm.trans hD
      refine lc_it walk_keys (fun i H2 => (∀ b o, H1 b = some o → b ≠ ld → H2 b = some o) ∧ H2 ld = some (.frz od (.dK (ndV M))) ∧ H2 D = some (.lst (natsV ((M.take i).map fun p => p.2)))) ?_ (fun i H2 _ q => q.2.1) ?_ ?_
      · refine ⟨fun c o q hc => ?_, (upd_ne (Ne.symm nDl)).trans upd_same, upd_same⟩
        rw [upd_ne (ne_of_none q hD1), upd_ne hc]
        exact q
      · rintro i z H2 HY hi ⟨s2, hp2, hD2⟩ ⟨rfl, kk, vv, hkv, rfl⟩
        obtain ⟨y, c, hy, rfl, rfl⟩ := at_ hkv
        refine ⟨rfl, ?_⟩
        change tDGet (tVar 1) (tVar 2) _ HY _
        refine ⟨_, rfl, _, rfl, ld, _, rfl, .inl ⟨_, ik y, .inr ⟨od, hp2⟩, rfl, by rw [ndV_val, ndGet_at dnd hy]; rfl⟩, _, hD2, ?_, fun b o q hb => ?_, ?_, ?_⟩
        · rw [natsV_len, List.length_map, List.length_take, sizeLine_eq]
          omega
        · rw [upd_ne (ne_of_none q hD1)]
          exact s2 b o q hb
        · rw [upd_ne (Ne.symm nDl)]
          exact hp2
        · rw [upd_same, List.take_add_one, hy, List.map_append]
          unfold natsV
          rw [List.map_append]
          rfl
      · rintro H2 ⟨s2, hp2, hD2⟩
        refine ⟨hp2, ?_⟩
        rw [ndV_len, List.take_length, natsV_ints, List.map_map (l := M)] at hD2
        have sA : ∀ b o, H1 b = some o → upd H2 ld (.dK (ndV M)) b = some o := fun b o q => by
          by_cases hb : b = ld
          · rw [hb, upd_same]
            rw [hb, hl1] at q
            exact q
          · rw [upd_ne hb]
            exact s2 b o q hb
        have hDA : upd H2 ld (.dK (ndV M)) D = some (.lst ((M.map ((fun (n : Nat) => (n : Int)) ∘ fun p => p.2)).map V.int)) := (upd_ne nDl).trans hD2
        have hlA : upd H2 ld (.dK (ndV M)) ld = some (.dK (ndV M)) := upd_same
        generalize upd H2 ld (.dK (ndV M)) = H3 at sA hDA hlA
        refine ⟨D, _, 0, rfl, rfl, SqL.of hDA, fun m h0 h1 => ?_⟩
        have hlst := least_is (d := M) (m := m) h1
        -- found = [x for x in longest if longest[x] == least]
        refine ⟨ld, _, hlA, trivial, fun od2 => ?_⟩
        refine ⟨_, rfl, ld, od2, rfl, .inl ⟨_, upd_same, fun D2 hD2' => ?_⟩⟩
        have nEl : D2 ≠ ld := fun z => by rw [z, upd_same] at hD2'; cases hD2'
        have hE1 : H3 D2 = none := (upd_ne nEl).symm.trans hD2'
        refine lc_it walk_keys (fun i H4 => (∀ b o, H3 b = some o → b ≠ ld → H4 b = some o) ∧ H4 ld = some (.frz od2 (.dK (ndV M))) ∧ H4 D2 = some (.lst (natsV (leastN (M.take i) m)))) ?_ (fun i H4 _ q => q.2.1) ?_ ?_
        · refine ⟨fun c o q hc => ?_, (upd_ne (Ne.symm nEl)).trans upd_same, upd_same⟩
          rw [upd_ne (ne_of_none q hE1), upd_ne hc]
          exact q
        · rintro i z H4 HY hi ⟨s4, hp4, hD4⟩ ⟨rfl, kk, vv, hkv, rfl⟩
          obtain ⟨y, c, hy, rfl, rfl⟩ := at_ hkv
          have tk : M.take (i + 1) = M.take i ++ [(y, c)] := by
            rw [List.take_add_one, hy]
            rfl
          refine ⟨rfl, ?_⟩
          refine ⟨_, rfl, _, rfl, ld, _, rfl, .inl ⟨_, ik y, .inr ⟨od2, hp4⟩, rfl, by rw [ndV_val, ndGet_at dnd hy]; rfl⟩, _, rfl, rfl, _, rfl, ?_⟩
          by_cases hc : (c : Int) = m
          · refine yes (by rw [decide_eq_true_eq, ← hc]) ?_
            refine ⟨_, rfl, _, hD4, ?_, fun b o q hb => ?_, ?_, ?_⟩
            · unfold leastN
              rw [natsV_len, List.length_map]
              have := List.length_filter_le (fun p : Nat × Nat => decide ((p.2 : Int) = m)) (M.take i)
              rw [List.length_take] at this
              rw [sizeLine_eq]
              omega
            · rw [upd_ne (ne_of_none q hE1)]
              exact s4 b o q hb
            · rw [upd_ne (Ne.symm nEl)]
              exact hp4
            · rw [upd_same, tk]
              unfold leastN
              rw [List.filter_append, List.filter_cons, if_pos (by simpa using hc), List.filter_nil, List.map_append]
              unfold natsV
              rw [List.map_append]
              rfl
          · refine no (by
              rw [decide_eq_true_eq]
              intro z
              injection z with z
              exact hc z) ⟨s4, hp4, ?_⟩
            unfold leastN
            rw [tk, List.filter_append, List.filter_cons, if_neg (by simpa using hc), List.filter_nil, List.append_nil]
            exact hD4
        · rintro H4 ⟨s4, hp4, hD4⟩
          refine ⟨hp4, ?_⟩
          rw [ndV_len, List.take_length, hlst] at hD4
          have sB : Same H (upd H4 ld (.dK (ndV M))) := fun b o q => by
            rw [upd_ne (ne_of_none q lH)]
            exact s4 b o (sA _ _ (s1 _ _ q)) (ne_of_none q lH)
          have hDB : upd H4 ld (.dK (ndV M)) D2 = _ := (upd_ne nEl).trans hD4
          generalize upd H4 ld (.dK (ndV M)) = H5 at sB hDB
          have flen : ((M.filter fun x => M.all fun y => decide (x.2 ≤ y.2)).map fun x => x.1).length ≤ 12 := by
            rw [List.length_map]
            have := List.length_filter_le (fun x : Nat × Nat => M.all fun y => decide (x.2 ≤ y.2)) M
            omega
          -- return [len(found)] + found
          refine ⟨_, rfl, D2, _, rfl, .inl (SqL.of hDB), (by show 1 ≤ sizeLine; decide), fun p hp => ⟨_, rfl, p, D2, _, _, rfl, rfl, upd_same, same_upd hp _ _ hDB, ?_, fun p2 hp2 => ?_⟩⟩
          · rw [natsV_len, sizeLine_eq]
            show 1 + _ ≤ _
            omega
          · refine k _ p2 (ext_same (sB.trans ((same_upd hp).trans (same_upd hp2)))) (hT.ext (sB.trans ((same_upd hp).trans (same_upd hp2)))) ?_ (nl_same (sB.trans (same_upd hp)) hp2)
            rw [upd_same, told_V, natsV_len]
            rfl
end
end WF
end
section
set_option Elab.async false
set_option linter.all false
set_option maxRecDepth 100000
set_option maxHeartbeats 4000000
namespace WF
open PySem PySem.Spec PyProof.Rows L2
open WB (Ok ND ndGet ndPut IsD W Lens)
abbrev sNeed : Stmt := top 26
abbrev sHurt : Stmt := top 27
abbrev sHPairs : Stmt := top 28
section
variable {P : Program} {w : World} {K : PySem.W.Frag} {mg : Str → Option Value} {base : Heap} {C CS : Addr} {T : List (Addr × Str)}
/-! ### needed -/
def spNeed (C : Addr) (T : List (Addr × Str)) : Sp := fun vs H Q E => ∃ (x y : Nat), spAsk C T [.int (x : Int), .int (y : Int)] (.needed x y) vs H Q E
theorem scNeed : FnScope ["graph", "x", "y", "shortest", "found", "v"] ["graph", "x", "y"] (defScope sNeed) := ⟨rfl, rfl, rfl, by decide +kernel, rfl, by decide +kernel, by decide +kernel⟩
theorem ok_need {f : Addr} {fd : FuncData} (F : Fun K "needed" "needed" sNeed f fd) (X : Txt K mg C) (XS : TxtS K mg CS) (MH : HasM P w K mg base C) (MS : MakeS P w K mg base C CS T) (MT : TotalM P w K mg base CS) (MU : ButM P w K mg base C) (MA : AllByM P w K mg base CS) : FnOk P w K mg base CX0 7 f fd ["graph", "x", "y"] (spNeed C T) := by
  obtain ⟨fh, fdh, mh, bh, GH⟩ := MH.ex
  obtain ⟨fi, fdi, mki, bi, GI⟩ := MS.ex
  obtain ⟨ft, fdt, mt, bt, GT⟩ := MT.ex
  obtain ⟨fu, fdu, mu, bu, GU⟩ := MU.ex
  obtain ⟨fa, fda, ma, ba, GA⟩ := MA.ex
  refine F.ok scNeed (fun vs H Q E h => ?_) (fun cdv A outer sh H vs Q E hr h => ?_)
  · obtain ⟨x, y, a, g, rfl, _⟩ := h
    rfl
  · obtain ⟨x, y, a, g, rfl, hg, ok, hT, k⟩ := h
    have hu := hu_of hr
    have hr1 : Room 1 _ := hr.mono (by decide)
    have hr2 : Room 2 _ := hr.mono (by decide)
    have hr4 : Room 4 _ := hr.mono (by decide)
    obtain ⟨t1, m1⟩ := X.told
    obtain ⟨t2, m2⟩ := X.there
    obtain ⟨dxg, d, g1, g2⟩ := id hg
    have n0 := gf_no g.many d (m := "has_node") (by decide +kernel) (by decide +kernel)
    have nb := gf_no g.many d (m := "nodes_but") (by decide +kernel) (by decide +kernel)
    refine ⟨_, pss_cons (ps_if (PW.pt (pw_or (pt_not (pt_val (pe_meth (pv 0) X.cl mh GH hr1 bh .nil pass0 (pa_cons (pv 1) pa_nil)))) (pw_or1 (pt_not (pt_val (pe_meth (pv 0) X.cl mh GH hr1 bh .nil pass0 (pa_cons (pv 2) pa_nil))))))) (pss_one (ps_ret (pe_lst (pa_cons (pe_glob rfl m1 ri) pa_nil)))) pss_nil)
      (pss_cons (ps_set (i := 3) scNeed.nd rfl (Or.inr rfl) (pe_make mki GI hr (by rfl) XS.mgC bi .nil pass0 (pa_cons (pv 0) pa_nil)))
      (pss_cons (ps_if (PW.pt (pw_or (pt_cmpR op_eq (pv 1) (pv 2) (nomark _)) (pw_or1 (pt_cmpR op_eq (pe_meth (pv 3) XS.cl mt GT hr1 bt .nil pass0 (pa_cons (pv 1) (pa_cons (pv 2) pa_nil))) pe_int (nomark _))))) (pss_one (ps_ret (pe_lst (pa_cons (pe_glob rfl m2 ri) pa_nil)))) pss_nil)
      (pss_cons (ps_setLc (i := 4) (own := [("v", 5)]) (g := gName 5) rfl scNeed.nd rfl rfl (sw_true rfl rfl rfl (by decide +kernel)) (pi_list (pe_meth (pv 0) X.cl mu GU hr2 bu .nil pass0 (pa_cons (pv 1) pa_nil))) (blkOk_by (own := [("v", 5)]) (N := ["graph", "x", "y", "shortest", "found", "v"]) (sc := defScope sNeed) (by decide +kernel))
          (fun _ _ _ _ _ => pg_name (i := 5) scNeed.nd rfl (Or.inl rfl)) (fun _ _ _ _ _ => pts_one (PW.pt (pw_and (pt_cmpR op_ne (pv 5) (pv 2) (nomark _)) (pw_and1 (pt_val (pe_meth (pv 3) XS.cl ma GA hr4 ba .nil pass0 (pa_cons (pv 1) (pa_cons (pv 5) (pa_cons (pv 2) pa_nil))))))))) (fun _ _ _ _ _ => pv 5))
      (pss_one (ps_ret (pe_op op_cat (pe_lst (pa_cons (pe_callB call_len_seq (by rfl) X.len PySem.boot_len (pa_cons (pv 4) pa_nil)) pa_nil)) (pv 4))))))), ?_⟩
    have ks : (Gq05.step g (.needed x y)).2 = if Gq05.isNode g x = false ∨ Gq05.isNode g y = false then [-1] else if x = y ∨ waysT g x y = 0 then [-3] else Gq05.told (Gq05.needed g (Gq05.table g) x y) := rfl
    rw [ks] at k
    have no1 : Gq05.isNode g x = false ∨ Gq05.isNode g y = false → ∀ p, H p = none → Q (.ref p) (upd H p (.lst [.int (-1)])) := fun hn p hp => by
      rw [if_pos hn] at k
      exact k _ p (ext_upd hp) (hT.ext (same_upd hp)) upd_same (nl_none hp)
    refine ⟨_, rfl, a, dxg, _, rfl, g1, n0, _, rfl, a, g, x, rfl, hg, _, rfl, ?_⟩
    rw [isNode_iff]
    cases hx : Gq05.isNode g x with
    | false => exact iteT (iteT ⟨(by show 1 ≤ sizeLine; decide), no1 (.inl hx)⟩)
    | true =>
      refine iteF ⟨_, rfl, a, dxg, _, rfl, g1, n0, _, rfl, a, g, y, rfl, hg, _, rfl, ?_⟩
      rw [isNode_iff]
      cases hy : Gq05.isNode g y with
      | false => exact iteT ⟨(by show 1 ≤ sizeLine; decide), no1 (.inr hy)⟩
      | true =>
        refine iteF ?_
        have hxn := nd_of hx
        have hyn := nd_of hy
        rw [if_neg (by rw [hx, hy]; simp)] at k
        refine ⟨_, rfl, fun b dxb hb hdxb hneb => made_short hg ok hT hb hdxb hneb fun H1 e1 T1 hS => ⟨rfl, ?_⟩⟩
        obtain ⟨dx, dl, dt, h1, rows⟩ := short_len hS ok
        have n1 := sf_no dl dt (m := "total") (by decide +kernel) (by decide +kernel)
        have n2 := sf_no dl dt (m := "all_by") (by decide +kernel) (by decide +kernel)
        have no3 : x = y ∨ waysT g x y = 0 → ∀ p, H1 p = none → Q (.ref p) (upd H1 p (.lst [.int (-3)])) := fun hn p hp => by
          rw [if_pos hn] at k
          exact k _ p (e1.trans (ext_upd hp)) (T1.ext (same_upd hp)) upd_same (nl_ext e1 hp)
        refine ⟨_, rfl, _, rfl, rfl, _, rfl, ?_⟩
        by_cases hxy : x = y
        · refine yes (by rw [decide_eq_true_eq, hxy]) (iteT ⟨(by show 1 ≤ sizeLine; decide), no3 (.inl hxy)⟩)
        · refine no (by
            rw [decide_eq_true_eq]
            intro z
            injection z with z
            omega) ?_
          refine ⟨_, rfl, b, dx, _, rfl, h1, n1, _, rfl, _, rfl, b, g, x, y, rfl, hS, ok, hxn, hyn, rfl, _, rfl, ?_⟩
          by_cases hw : waysT g x y = 0
          · refine yes (by rw [decide_eq_true_eq, hw]; rfl) ⟨(by show 1 ≤ sizeLine; decide), no3 (.inr hw)⟩
          · refine no (by
              rw [decide_eq_true_eq]
              intro z
              injection z with z
              omega) ?_
            rw [if_neg (by omega), needed_is] at k
            -- found = [v for v in graph.nodes_but(x) if v != y and shortest.all_by(x, v, y)]
            have g1' := e1 _ _ g1 (fun _ z => by cases z)
            refine ⟨_, rfl, a, dxg, _, rfl, g1', nb, _, rfl, a, g, x, rfl, hg.ext e1, ok, fun H2 q s2 hq0 hq => ?_⟩
            refine ⟨q, rfl, ⟨_, SqL.of hq⟩, fun D hD => ?_⟩
            refine lc_list (K := K) (a := q) (xs := natsV (othersN g x)) (fun i H3 => (∀ c o, H2 c = some o → H3 c = some o) ∧ H3 D = some (.lst (natsV (((othersN g x).take i).filter fun v => v != y && byAll g x v y)))) ⟨same_upd hD, upd_same⟩ (fun i H3 _ z => SqL.of (z.1 _ _ hq)) ?_ ?_
            · rintro i z H3 hz ⟨s3, hD3⟩
              obtain ⟨v, hv, rfl⟩ := nat_at hz
              obtain ⟨hvn, hvx⟩ := others_mem.mp (List.mem_of_getElem? hv)
              have tk := take_snoc hv
              have skip : (v != y && byAll g x v y) = false → (∀ c o, H2 c = some o → H3 c = some o) ∧ H3 D = some (.lst (natsV (((othersN g x).take (i + 1)).filter fun v => v != y && byAll g x v y))) := fun z => by
                refine ⟨s3, ?_⟩
                rw [tk, List.filter_append, List.filter_cons, if_neg (by rw [z]; simp), List.filter_nil, List.append_nil]
                exact hD3
              refine ⟨rfl, ?_⟩
              refine ⟨_, rfl, _, rfl, rfl, _, rfl, ?_⟩
              by_cases hvy : v = y
              · refine no (by simp [hvy]) (iteF (skip ?_))
                simp [hvy]
              · refine yes (by
                  simp only [Bool.not_eq_true', decide_eq_false_iff_not]
                  intro z
                  injection z with z
                  omega) ?_
                have hS3 := hS.ext (ext_same (s2.trans s3))
                refine ⟨_, rfl, b, dx, _, rfl, s3 _ _ (s2 _ _ h1), n2, _, rfl, _, rfl, _, rfl, b, g, x, v, y, rfl, hS3, ok, hxn, hvn, hyn, _, rfl, ?_⟩
                cases hb' : byAll g x v y with
                | false => exact iteF (skip (by rw [hb', Bool.and_false]))
                | true =>
                  refine iteT ⟨_, rfl, _, hD3, ?_, fun c o z => ?_, ?_⟩
                  · rw [natsV_len]
                    have := List.length_filter_le (fun v => v != y && byAll g x v y) ((othersN g x).take i)
                    rw [List.length_take] at this
                    have := others_len ok x
                    rw [sizeLine_eq]
                    omega
                  · rw [upd_ne (ne_of_none z hD)]
                    exact s3 c o z
                  · rw [upd_same, tk, List.filter_append, List.filter_cons, if_pos (by rw [hb', Bool.and_true]; simpa using hvy), List.filter_nil, natsV_app]
                    rfl
            · rintro H3 ⟨s3, hD3⟩
              rw [List.take_of_length_le (by rw [natsV_len]; exact Nat.le_refl _)] at hD3
              have s13 : Same H1 H3 := s2.trans s3
              have flen : ((othersN g x).filter fun v => v != y && byAll g x v y).length ≤ 12 := Nat.le_trans (List.length_filter_le ..) (others_len ok x)
              -- return [len(found)] + found
              refine ⟨_, rfl, D, _, rfl, .inl (SqL.of hD3), (by show 1 ≤ sizeLine; decide), fun p hp => ⟨_, rfl, p, D, _, _, rfl, rfl, upd_same, same_upd hp _ _ hD3, ?_, fun p2 hp2 => ?_⟩⟩
              · rw [natsV_len, sizeLine_eq]
                show 1 + _ ≤ _
                omega
              · refine k _ p2 (e1.trans (ext_same (s13.trans ((same_upd hp).trans (same_upd hp2))))) (T1.ext (s13.trans ((same_upd hp).trans (same_upd hp2)))) ?_ (nl_ext (e1.trans (ext_same (s13.trans (same_upd hp)))) hp2)
                rw [upd_same, told_V, natsV_len]
                rfl
/-! ### hurt_pairs -/
abbrev pr2V (p : Nat × Nat) : List V := [.int (p.1 : Int), .int (p.2 : Int)]
/-- pairs of nodes, as tuples that stand in H -/
def PairsAt (H : Hp) (ts : List Addr) (ps : List (Nat × Nat)) : Prop := Paired (fun t p => H t = some (.tup (pr2V p))) ts ps
theorem PairsAt.keep {H H' : Hp} {ts : List Addr} {ps : List (Nat × Nat)} (h : PairsAt H ts ps) (k : ∀ b xs, H b = some (.tup xs) → H' b = some (.tup xs)) : PairsAt H' ts ps := WS.paired_imp (fun t p e => k t _ e) h
theorem paired_app {α β : Type} {R : α → β → Prop} : ∀ {l : List α} {m : List β} {l' : List α} {m' : List β}, Paired R l m → Paired R l' m' → Paired R (l ++ l') (m ++ m')
  | _, _, _, _, .nil, h => h
  | _, _, _, _, .cons h1 h2, h => .cons h1 (paired_app h2 h)
theorem paired_at {α β : Type} {R : α → β → Prop} : ∀ {l : List α} {m : List β}, Paired R l m → ∀ {i : Nat} {a : α}, l[i]? = some a → ∃ b, m[i]? = some b ∧ R a b
  | _, _, .nil, i, a, h => by simp at h
  | _, _, .cons h1 _, 0, a, h => ⟨_, rfl, Option.some.inj h ▸ h1⟩
  | _, _, .cons _ h2, i + 1, a, h => paired_at h2 (i := i) h
def spHP (C : Addr) (T : List (Addr × Str)) : Sp := fun vs H Q _ => ∃ (a : Addr) (g : Gq05.Graph) (v : Nat), vs = [.ref a, .int (v : Int)] ∧ GraphAt C H a g ∧ Ok g ∧ Nd g v ∧ LamX.Tabs T H ∧
  ∀ (H' : Hp) (q : Addr) (ts : List Addr), LamX.ExtN H H' → LamX.Tabs T H' → H' q = some (.lst (ts.map V.ref)) → PairsAt H' ts (Gq05.hurt g (Gq05.table g) v) → Q (.ref q) H'
theorem scHP : FnScope ["graph", "v", "shortest", "others", "pairs", "start", "end"] ["graph", "v"] (defScope sHPairs) := ⟨rfl, rfl, rfl, by decide +kernel, rfl, by decide +kernel, by decide +kernel⟩
theorem ok_hp {f : Addr} {fd : FuncData} (F : Fun K "hurt_pairs" "hurt_pairs" sHPairs f fd) (X : Txt K mg C) (XS : TxtS K mg CS) (MS : MakeS P w K mg base C CS T) (MU : ButM P w K mg base C) (MA : AllByM P w K mg base CS) : FnOk P w K mg base CX0 7 f fd ["graph", "v"] (spHP C T) := by
  obtain ⟨fi, fdi, mki, bi, GI⟩ := MS.ex
  obtain ⟨fu, fdu, mu, bu, GU⟩ := MU.ex
  obtain ⟨fa, fda, ma, ba, GA⟩ := MA.ex
  refine F.ok scHP (fun vs H Q E h => ?_) (fun cdv A outer sh H vs Q E hr h => ?_)
  · obtain ⟨a, g, v, rfl, _⟩ := h
    rfl
  · obtain ⟨a, g, v, rfl, hg, ok, hv, hT, k⟩ := h
    have hr2 : Room 2 _ := hr.mono (by decide)
    have hr4 : Room 4 _ := hr.mono (by decide)
    obtain ⟨dxg, d, g1, g2⟩ := id hg
    have nb := gf_no g.many d (m := "nodes_but") (by decide +kernel) (by decide +kernel)
    refine ⟨_, pss_cons (ps_set (i := 2) scHP.nd rfl (Or.inr rfl) (pe_make mki GI hr (by rfl) XS.mgC bi .nil pass0 (pa_cons (pv 0) pa_nil)))
      (pss_cons (ps_set (i := 3) scHP.nd rfl (Or.inl rfl) (pe_meth (pv 0) X.cl mu GU hr2 bu .nil pass0 (pa_cons (pv 1) pa_nil)))
      (pss_cons (ps_set (i := 4) scHP.nd rfl (Or.inl rfl) (pe_lst pa_nil))
      (pss_cons (ps_for PassesOwn.never rfl (pi_list (pv 3)) (pg_name (i := 5) scHP.nd rfl (Or.inr rfl))
        (pss_one (ps_expr (pe_bm PySem.F.plainAttrs_list PySem.F.slot_list_extend PySem.F.type_list_extend mt_extend (pv 4) (pa_cons (pe_lc (own := [("end", 6)]) (g := gName 6) rfl scHP.nd (pi_list (pv 3)) (blkOk_by (own := [("end", 6)]) (N := ["graph", "v", "shortest", "others", "pairs", "start", "end"]) (sc := defScope sHPairs) (by decide +kernel))
          (fun _ _ _ _ _ => pg_name (i := 6) scHP.nd rfl (Or.inl rfl)) (fun _ _ _ _ _ => pts_one (pt_val (pe_meth (pv 2) XS.cl ma GA hr4 ba .nil pass0 (pa_cons (pv 5) (pa_cons (pv 1) (pa_cons (pv 6) pa_nil)))))) (fun _ _ _ _ _ => pe_tup (pa_cons (pv 5) (pa_cons (pv 6) pa_nil)))) pa_nil)))))
      (pss_one (ps_ret (pv 4)))))), ?_⟩
    rw [hurt_is ok hv] at k
    -- shortest = Shortest(graph); others = graph.nodes_but(v); pairs = []
    refine ⟨_, rfl, fun b dxb hb hdxb hneb => made_short hg ok hT hb hdxb hneb fun H1 e1 T1 hS => ⟨rfl, ?_⟩⟩
    obtain ⟨dx, dl, dt, h1, rows⟩ := short_len hS ok
    have n2 := sf_no dl dt (m := "all_by") (by decide +kernel) (by decide +kernel)
    refine ⟨_, rfl, a, dxg, _, rfl, e1 _ _ g1 (fun _ z => by cases z), nb, _, rfl, a, g, v, rfl, hg.ext e1, ok, fun H2 q s2 hq0 hq => ?_⟩
    refine ⟨Nat.zero_le _, fun pl hpl => ?_⟩
    have olen := others_len ok v
    have hpl1 : H1 pl = none := by
      cases z : H1 pl with
      | none => rfl
      | some o => rw [s2 _ _ z] at hpl; cases hpl
    have npq : pl ≠ q := fun z => by rw [z, hq] at hpl; cases hpl
    have tall : (othersN g v).take (natsV (othersN g v)).length = othersN g v := List.take_of_length_le (by rw [natsV_len]; exact Nat.le_refl _)
    -- for start in others
    refine ⟨_, rfl, q, rfl, ⟨_, SqL.of ((upd_ne (Ne.symm npq)).trans hq)⟩, for_list (K := K) (a := q) (xs := natsV (othersN g v)) (fun i σ H' => ∃ (v5 v6 : Option V) (ts : List Addr), σ = [some (.ref a), some (.int (v : Int)), some (.ref b), some (.ref q), some (.ref pl), v5, v6] ∧ Same H1 H' ∧ H' q = some (.lst (natsV (othersN g v))) ∧ H' pl = some (.lst (ts.map V.ref)) ∧ ts.length ≤ 12 * i ∧
      PairsAt H' ts (((othersN g v).take i).flatMap fun s => ((othersN g v).filter fun e => byAll g s v e).map fun e => (s, e)))
      ⟨none, none, [], rfl, fun c o e => (upd_ne (ne_of_none e hpl1)).trans (s2 _ _ e), (upd_ne (Ne.symm npq)).trans hq, upd_same, Nat.le_refl _, .nil⟩ (fun i σ H' _ ⟨_, _, _, _, _, z, _⟩ => SqL.of z) ?_ ?_⟩
    · rintro i z σ H3 hz ⟨v5, v6, ts, rfl, s3, hq3, hpl3, tl3, pa3⟩
      obtain ⟨st, hst, rfl⟩ := nat_at hz
      have hil := (List.getElem?_eq_some_iff.mp hst).1
      obtain ⟨nst, st_v⟩ := others_mem.mp (List.mem_of_getElem? hst)
      have tk := take_snoc hst
      -- pairs.extend([(start, end) for end in others if shortest.all_by(start, v, end)])
      refine ⟨_, rfl, .inl ⟨rfl, _, SqL.of hpl3⟩, ?_⟩
      refine ⟨_, rfl, q, rfl, ⟨_, SqL.of hq3⟩, fun D hD => ?_⟩
      have nDp : D ≠ pl := fun z => by rw [z, hpl3] at hD; cases hD
      refine lc_list (K := K) (a := q) (xs := natsV (othersN g v)) (fun j H4 => ∃ us : List Addr, (∀ c o, H3 c = some o → H4 c = some o) ∧ H4 D = some (.lst (us.map V.ref)) ∧ us.length ≤ j ∧ PairsAt H4 us ((((othersN g v).take j).filter fun e => byAll g st v e).map fun e => (st, e))) ⟨[], same_upd hD, upd_same, Nat.le_refl _, .nil⟩ (fun j H4 _ ⟨_, z, _⟩ => SqL.of (z _ _ hq3)) ?_ ?_
      · rintro j z H4 hz ⟨us, s4, hD4, ul4, pa4⟩
        obtain ⟨en, hen, rfl⟩ := nat_at hz
        have hjl := (List.getElem?_eq_some_iff.mp hen).1
        obtain ⟨nen, en_v⟩ := others_mem.mp (List.mem_of_getElem? hen)
        have tj := take_snoc hen
        have s14 : Same H1 H4 := s3.trans s4
        refine ⟨rfl, ?_⟩
        refine ⟨_, rfl, b, dx, _, rfl, s14 _ _ h1, n2, _, rfl, _, rfl, _, rfl, b, g, st, v, en, rfl, hS.ext (ext_same s14), ok, nst, hv, nen, _, rfl, ?_⟩
        cases hb' : byAll g st v en with
        | false =>
          refine iteF ⟨us, s4, hD4, by omega, ?_⟩
          rw [tj, List.filter_append, List.filter_cons, if_neg (by rw [hb']; simp), List.filter_nil, List.append_nil]
          exact pa4
        | true =>
          refine iteT ⟨_, rfl, _, rfl, (by show 2 ≤ sizeLine; decide), fun t ht => ?_⟩
          have s5 := same_upd (o := .tup (pr2V (st, en))) ht
          have nDt : D ≠ t := fun z => by rw [← z, hD4] at ht; cases ht
          refine ⟨_, (upd_ne nDt).trans hD4, ?_, us ++ [t], fun c o z => ?_, ?_, ?_, ?_⟩
          · rw [List.length_map, sizeLine_eq]
            rw [natsV_len] at *
            omega
          · rw [upd_ne (ne_of_none z hD)]
            exact s5 _ _ (s4 c o z)
          · rw [upd_same, List.map_append]
            rfl
          · rw [List.length_append]
            show _ + 1 ≤ _
            omega
          · rw [tj, List.filter_append, List.filter_cons, if_pos hb', List.filter_nil, List.map_append]
            refine WS.paired_snoc ?_ (pa4.keep fun c xs z => ?_)
            · rw [upd_ne (Ne.symm nDt), upd_same]
            · rw [upd_ne (ne_of z hD4 (by intro y; cases y))]
              exact s5 _ _ z
      · rintro H4 ⟨us, s4, hD4, ul4, pa4⟩
        rw [tall] at pa4
        rw [natsV_len] at ul4
        refine ⟨pl, D, _, _, rfl, rfl, s4 _ _ hpl3, hD4, ?_, ?_⟩
        · rw [List.length_map, List.length_map, sizeLine_eq]
          omega
        · refine ⟨_, _, ts ++ us, rfl, fun c o e => ?_, ?_, ?_, ?_, ?_⟩
          · rw [upd_ne (ne_of_none e hpl1)]
            exact s4 _ _ (s3 _ _ e)
          · rw [upd_ne (Ne.symm npq)]
            exact s4 _ _ hq3
          · rw [upd_same, List.map_append]
          · rw [List.length_append]
            omega
          · rw [tk, List.flatMap_append, List.flatMap_cons, List.flatMap_nil, List.append_nil]
            have kp : ∀ b xs, H4 b = some (.tup xs) → upd H4 pl (.lst (ts.map V.ref ++ us.map V.ref)) b = some (.tup xs) := fun c xs z => by
              rw [upd_ne (ne_of z (s4 _ _ hpl3) (by intro y; cases y))]
              exact z
            exact paired_app ((pa3.keep fun c xs z => s4 _ _ z).keep kp) (pa4.keep kp)
    · rintro σ H3 ⟨v5, v6, ts, rfl, s3, hq3, hpl3, tl3, pa3⟩
      rw [tall] at pa3
      refine ⟨_, rfl, ?_⟩
      exact k H3 pl ts (e1.trans (ext_same s3)) (T1.ext s3) hpl3 pa3
structure HPF (P : Program) (w : World) (K : PySem.W.Frag) (mg : Str → Option Value) (base : Heap) (C : Addr) (T : List (Addr × Str)) : Prop where
  ex : ∃ f fd, mg "hurt_pairs" = some (.ref f) ∧ PySem.W.keepIn K (.ref f) = true ∧ Binds K fd ["graph", "v"] [] ∧ FnOk P w K mg base CX0 7 f fd ["graph", "v"] (spHP C T)
/-! ### hurt -/
theorem flat_len {α β : Type} (f : α → List β) (n : Nat) : ∀ l : List α, (∀ x ∈ l, (f x).length ≤ n) → (l.flatMap f).length ≤ l.length * n
  | [], _ => Nat.zero_le _
  | a :: l, h => by
    rw [List.flatMap_cons, List.length_append, List.length_cons, Nat.succ_mul]
    have := h a List.mem_cons_self
    have := flat_len f n l fun x hx => h x (List.mem_cons_of_mem _ hx)
    omega
theorem hurt_len {g : Gq05.Graph} (ok : Ok g) {v : Nat} (hv : Nd g v) : (Gq05.hurt g (Gq05.table g) v).length ≤ 144 := by
  rw [hurt_is ok hv]
  have h := flat_len (fun s => ((othersN g v).filter fun e => byAll g s v e).map fun e => (s, e)) 12 (othersN g v) fun s _ => by
    rw [List.length_map]
    exact Nat.le_trans (List.length_filter_le ..) (others_len ok v)
  have := others_len ok v
  omega
def spHurt (C : Addr) (T : List (Addr × Str)) : Sp := fun vs H Q E => ∃ (v : Nat), spAsk C T [.int (v : Int)] (.hurt v) vs H Q E
theorem scHurt : FnScope ["graph", "v", "pairs", "told", "pair"] ["graph", "v"] (defScope sHurt) := ⟨rfl, rfl, rfl, by decide +kernel, rfl, by decide +kernel, by decide +kernel⟩
theorem ok_hurt {f : Addr} {fd : FuncData} (F : Fun K "hurt" "hurt" sHurt f fd) (X : Txt K mg C) (MH : HasM P w K mg base C) (MP : HPF P w K mg base C T) : FnOk P w K mg base CX0 8 f fd ["graph", "v"] (spHurt C T) := by
  obtain ⟨fh, fdh, mh, bh, GH⟩ := MH.ex
  obtain ⟨fp, fdp, mp, kp, bp, GP⟩ := MP.ex
  refine F.ok scHurt (fun vs H Q E h => ?_) (fun cdv A outer sh H vs Q E hr h => ?_)
  · obtain ⟨v, a, g, rfl, _⟩ := h
    rfl
  · obtain ⟨v, a, g, rfl, hg, ok, hT, k⟩ := h
    have hr1 : Room 1 _ := hr.mono (by decide)
    obtain ⟨t1, m1⟩ := X.told
    obtain ⟨dxg, d, g1, g2⟩ := id hg
    have n0 := gf_no g.many d (m := "has_node") (by decide +kernel) (by decide +kernel)
    refine ⟨_, pss_cons (ps_if (pt_not (pt_val (pe_meth (pv 0) X.cl mh GH hr1 bh .nil pass0 (pa_cons (pv 1) pa_nil)))) (pss_one (ps_ret (pe_lst (pa_cons (pe_glob rfl m1 ri) pa_nil)))) pss_nil)
      (pss_cons (ps_set (i := 2) scHurt.nd rfl (Or.inl rfl) (pe_call GP hr rfl mp kp bp .nil pass0 (pa_cons (pv 0) (pa_cons (pv 1) pa_nil))))
      (pss_cons (ps_set (i := 3) scHurt.nd rfl (Or.inl rfl) (pe_lst (pa_cons (pe_callB call_len_seq (by rfl) X.len PySem.boot_len (pa_cons (pv 2) pa_nil)) pa_nil)))
      (pss_cons (ps_for PassesOwn.never rfl (pi_list (pv 2)) (pg_name (i := 4) scHurt.nd rfl (Or.inl rfl))
        (pss_one (ps_expr (pe_bm PySem.F.plainAttrs_list PySem.F.slot_list_extend PySem.F.type_list_extend WR.mt_extendT (pv 3) (pa_cons (pv 4) pa_nil)))))
      (pss_one (ps_ret (pv 3)))))), ?_⟩
    have ks : (Gq05.step g (.hurt v)).2 = if Gq05.isNode g v = false then [-1] else ((Gq05.hurt g (Gq05.table g) v).length : Int) :: Gq05.ints ((Gq05.hurt g (Gq05.table g) v).flatMap fun p => [p.1, p.2]) := rfl
    rw [ks] at k
    refine ⟨_, rfl, a, dxg, _, rfl, g1, n0, _, rfl, a, g, v, rfl, hg, _, rfl, ?_⟩
    rw [isNode_iff]
    cases hv : Gq05.isNode g v with
    | false =>
      rw [if_pos hv] at k
      exact iteT ⟨(by show 1 ≤ sizeLine; decide), fun p hp => k _ p (ext_upd hp) (hT.ext (same_upd hp)) upd_same (nl_none hp)⟩
    | true =>
      rw [if_neg (by rw [hv]; simp)] at k
      have hvn := nd_of hv
      have hlen := hurt_len ok hvn
      refine iteF ⟨_, rfl, _, rfl, a, g, v, rfl, hg, ok, hvn, hT, fun H1 q ts e1 T1 hq pa => ?_⟩
      generalize Gq05.hurt g (Gq05.table g) v = ps at pa k hlen
      have tlen : ts.length = ps.length := Paired.length pa
      -- told = [len(pairs)]
      refine ⟨_, rfl, q, _, rfl, .inl (SqL.of hq), (by show 1 ≤ sizeLine; decide), fun tl htl => ?_⟩
      have nql : q ≠ tl := fun z => by rw [← z, hq] at htl; cases htl
      have mV : (ts.map V.ref).length = ps.length := by rw [List.length_map, tlen]
      -- for pair in pairs
      refine ⟨_, rfl, q, rfl, ⟨_, SqL.of ((upd_ne nql).trans hq)⟩, for_list (K := K) (a := q) (xs := ts.map V.ref) (fun i σ H' => ∃ v4 : Option V, σ = [some (.ref a), some (.int (v : Int)), some (.ref q), some (.ref tl), v4] ∧ Same H1 H' ∧
        H' tl = some (.lst (outV ((ps.length : Int) :: Gq05.ints ((ps.take i).flatMap fun p => [p.1, p.2])))))
        ⟨none, rfl, same_upd htl, ?_⟩ (fun i σ H' _ ⟨_, _, z, _⟩ => SqL.of (z _ _ hq)) ?_ ?_⟩
      · rw [upd_same, mV]
        rfl
      · rintro i z σ H2 hz ⟨v4, rfl, s2, htl2⟩
        rw [List.getElem?_map, Option.map_eq_some_iff] at hz
        obtain ⟨t, ht, rfl⟩ := hz
        have hil := (List.getElem?_eq_some_iff.mp ht).1
        obtain ⟨p, hp, hpt⟩ : ∃ p, ps[i]? = some p ∧ H1 t = some (.tup (pr2V p)) := by
          obtain ⟨p, hp, r⟩ := paired_at pa ht
          exact ⟨p, hp, r⟩
        have fl := flat_len (fun p : Nat × Nat => [p.1, p.2]) 2 (ps.take i) fun _ _ => Nat.le_refl _
        rw [List.length_take] at fl
        refine ⟨_, rfl, .inl ⟨rfl, _, SqL.of htl2⟩, _, rfl, tl, t, _, _, rfl, rfl, htl2, s2 _ _ hpt, ?_, ?_⟩
        · unfold outV Gq05.ints
          rw [List.length_map, List.length_cons, List.length_map, sizeLine_eq]
          show _ + 2 ≤ _
          omega
        · refine ⟨_, rfl, fun c o e => ?_, ?_⟩
          · rw [upd_ne (ne_of_none e htl)]
            exact s2 _ _ e
          · rw [upd_same, List.take_add_one, hp, List.flatMap_append]
            unfold outV Gq05.ints
            rw [List.map_append, List.map_cons, List.map_cons, List.map_append]
            rfl
      · rintro σ H2 ⟨v4, rfl, s2, htl2⟩
        refine ⟨_, rfl, ?_⟩
        rw [mV, List.take_length] at htl2
        exact k H2 tl (e1.trans (ext_same s2)) (T1.ext s2) htl2 (nl_ext e1 htl)
end
end WF
end
section
set_option Elab.async false
set_option linter.all false
set_option maxRecDepth 100000
set_option maxHeartbeats 4000000
namespace WF
open PySem PySem.Spec PyProof.Rows L2
open WB (Ok ND ndGet ndPut IsD W Lens)
abbrev sShare : Stmt := top 38
/-! ### share -/
section
variable {g : Gq05.Graph} {x y l : Nat}
theorem over_thrE (hl : Gq05.long? g x y = some l) (s e : Nat) : overN g s x y l e = thrE g s e x y := by
  show _ = Gq05.throughEdge g (Gq05.table g) s e x y
  unfold overN Gq05.throughEdge farT
  rw [hl]
  cases Gq05.far (Gq05.table g) s e <;> cases Gq05.far (Gq05.table g) s x <;> cases Gq05.far (Gq05.table g) y e <;> rfl
theorem shareE_self (o : Ok g) (hl : Gq05.long? g x y = some l) {s : Nat} (hs : Nd g s) : shareE g x y s s = 0 := by
  unfold shareE
  split
  · rfl
  · have z : Gq05.throughEdge g (Gq05.table g) s s x y = 0 := by
      unfold Gq05.throughEdge
      rw [hl]
      have h0 : Gq05.far (Gq05.table g) s s = some (0, W g.edges s s 0) := WB.far_some o hs (IsD.self _ _)
      rw [h0]
      obtain ⟨f, hf, _, _, f3⟩ := WB.long_some hl
      have := (o.ed f hf).2.2.2.1
      split
      · rename_i a b c e1 e2 e3 e4
        cases e1
        cases e2
        rw [if_neg (by show ¬ _ = 0; omega)]
      · rfl
    rw [z]
    show (0 : Rat) / _ = 0
    rw [Rat.div_def, Rat.zero_mul]
theorem share_all (o : Ok g) (hl : Gq05.long? g x y = some l) : Gq05.betweenEdge g (Gq05.table g) x y = Gq05.sum ((Gq05.nodes g).map fun s => Gq05.sum ((Gq05.nodes g).map fun e => shareE g x y s e)) := by
  rw [share_sum]
  refine sumR_congr fun s hs => ?_
  rw [← sumR_filter]
  intro e _ he
  have he : e = s := by simpa using he
  rw [he]
  exact shareE_self o hl (WB.mem_nodes.mp hs)
end
section
variable {P : Program} {w : World} {K : PySem.W.Frag} {mg : Str → Option Value} {base : Heap} {C CS : Addr} {T : List (Addr × Str)}
def spShare (C : Addr) (T : List (Addr × Str)) : Sp := fun vs H Q E => ∃ (x y : Nat), spAsk C T [.int (x : Int), .int (y : Int)] (.edgeShare x y) vs H Q E
theorem scShare : FnScope ["graph", "x", "y", "shortest", "length", "whole", "start", "end", "some"] ["graph", "x", "y"] (defScope sShare) := ⟨rfl, rfl, rfl, by decide +kernel, rfl, by decide +kernel, by decide +kernel⟩
theorem ok_share {f : Addr} {fd : FuncData} (F : Fun K "share" "share" sShare f fd) (X : Txt K mg C) (XS : TxtS K mg CS) (MS : MakeS P w K mg base C CS T) (MN : NodesM P w K mg base C) (MT : TotalM P w K mg base CS) (MO : OverM P w K mg base CS) (MP : PartF P w K mg base) (MG : TogF P w K mg base) : FnOk P w K mg base CX0 7 f fd ["graph", "x", "y"] (spShare C T) := by
  obtain ⟨fi, fdi, mki, bi, GI⟩ := MS.ex
  obtain ⟨fn, fdn, mn, bn, GN⟩ := MN.ex
  obtain ⟨ft, fdt, mt, bt, GT⟩ := MT.ex
  obtain ⟨fo, fdo, mo, bo, GO⟩ := MO.ex
  obtain ⟨fp, fdp, mp, kp, bp, GP⟩ := MP.ex
  obtain ⟨fg, fdg, mg', kg, bg, GG⟩ := MG.ex
  refine F.ok scShare (fun vs H Q E h => ?_) (fun cdv A outer sh H vs Q E hr h => ?_)
  · obtain ⟨x, y, a, g, rfl, _⟩ := h
    rfl
  · obtain ⟨x, y, a, g, rfl, hg, ok, hT, k⟩ := h
    have hu := hu_of hr
    have hr1 : Room 1 _ := hr.mono (by decide)
    have hr2 : Room 2 _ := hr.mono (by decide)
    have hr3 : Room 3 _ := hr.mono (by decide)
    obtain ⟨t1, m1⟩ := X.there
    obtain ⟨dxg, d, g1, g2⟩ := id hg
    have n0 := gf_no g.many d (m := "nodes") (by decide +kernel) (by decide +kernel)
    refine ⟨_, pss_cons (ps_if (pt_cmp (pc_dnotin hu (pe_tup (pa_cons (pv 1) (pa_cons (pv 2) pa_nil))) (pe_fld (pv 0) rfl))) (pss_one (ps_ret (pe_lst (pa_cons (pe_glob rfl m1 ri) pa_nil)))) pss_nil)
      (pss_cons (ps_set (i := 3) scShare.nd rfl (Or.inl rfl) (pe_make mki GI hr (by rfl) XS.mgC bi .nil pass0 (pa_cons (pv 0) pa_nil)))
      (pss_cons (ps_set (i := 4) scShare.nd rfl (Or.inl rfl) (pe_dget hu (pe_fld (pv 0) rfl) (pe_tup (pa_cons (pv 1) (pa_cons (pv 2) pa_nil))) (fun _ _ => rfl)))
      (pss_cons (ps_set (i := 5) scShare.nd rfl (Or.inl rfl) (pe_tup (pa_cons pe_int (pa_cons pe_int pa_nil))))
      (pss_cons (ps_for PassesOwn.never rfl (pi_list (pe_meth0 (pv 0) X.cl mn GN hr1 bn .nil pass0)) (pg_name (i := 6) scShare.nd rfl (Or.inl rfl))
        (pss_one (ps_for PassesOwn.never rfl (pi_list (pe_meth0 (pv 0) X.cl mn GN hr1 bn .nil pass0)) (pg_name (i := 7) scShare.nd rfl (Or.inl rfl))
          (pss_cons (ps_set (i := 8) scShare.nd rfl (Or.inl rfl) (pe_meth (pv 3) XS.cl mo GO hr2 bo .nil pass0 (pa_cons (pv 6) (pa_cons (pv 1) (pa_cons (pv 2) (pa_cons (pv 4) (pa_cons (pv 7) pa_nil)))))))
          (pss_one (ps_set (i := 5) scShare.nd rfl (Or.inl rfl) (pe_call GG hr3 rfl mg' kg bg .nil pass0 (pa_cons (pv 5) (pa_cons (pe_call GP hr3 rfl mp kp bp .nil pass0
            (pa_cons (pv 8) (pa_cons (pe_meth (pv 3) XS.cl mt GT hr1 bt .nil pass0 (pa_cons (pv 6) (pa_cons (pv 7) pa_nil))) pa_nil))) pa_nil)))))))))
      (pss_one (ps_ret (pe_callTy call_list_of (by rfl) X.list (by decide +kernel) (pa_cons (pv 5) pa_nil)))))))), ?_⟩
    have ks : (Gq05.step g (.edgeShare x y)).2 = if (Gq05.long? g x y).isNone = true then [-3] else Gq05.fraction (Gq05.betweenEdge g (Gq05.table g) x y) := rfl
    rw [ks] at k
    refine ⟨_, rfl, _, rfl, (by show 2 ≤ sizeLine; decide), fun t ht => ?_⟩
    have s1 := same_upd (o := .tup [V.int (x : Int), V.int (y : Int)]) ht
    refine ⟨_, rfl, a, C, dxg, _, _, rfl, s1 _ _ g1, X.cl, X.nE, gf_edges _ _, d, _, rfl, DGet.t (k := ek x y) (s1 _ _ g2) upd_same, _, rfl, ?_⟩
    rw [long_val]
    cases hl : Gq05.long? g x y with
    | none =>
      rw [hl] at k
      refine iteT ⟨(by show 1 ≤ sizeLine; decide), fun p hp => ?_⟩
      exact k _ p (ext_same (s1.trans (same_upd hp))) (hT.ext (s1.trans (same_upd hp))) upd_same (nl_same s1 hp)
    | some l =>
      rw [hl] at k
      simp only [Option.isNone_some, Bool.false_eq_true, if_false] at k
      rw [share_all ok hl] at k
      obtain ⟨fe, hfe, f1, f2, f3⟩ := WB.long_some hl
      have hxn : Nd g x := by rw [← f1]; exact (ok.ed fe hfe).1
      have hyn : Nd g y := by rw [← f2]; exact (ok.ed fe hfe).2.1
      -- shortest = Shortest(graph)
      refine iteF ⟨_, rfl, fun b dxb hb hdxb hneb => made_short (hg.same s1) ok (hT.ext s1) hb hdxb hneb fun H1 e1 T1 hS => ⟨rfl, ?_⟩⟩
      have eH : LamX.ExtN H H1 := (ext_same s1).trans e1
      have g1' := eH _ _ g1 (fun _ z => by cases z)
      have g2' := eH _ _ g2 (fun _ z => by cases z)
      -- length = graph.edges[x, y]
      refine ⟨_, rfl, a, C, dxg, _, _, rfl, g1', X.cl, X.nE, gf_edges _ _, _, rfl, _, rfl, (by show 2 ≤ sizeLine; decide), fun t2 ht2 => ?_⟩
      have s2 := same_upd (o := .tup [V.int (x : Int), V.int (y : Int)]) ht2
      have gl := DGet.t (k := ek x y) (s2 _ _ g2') (upd_same (H := H1) (a := t2) (o := .tup [V.int (x : Int), V.int (y : Int)]))
      rw [long_val, hl] at gl
      refine ⟨d, _, rfl, gl, ?_⟩
      -- whole = (0, 1)
      refine ⟨(by show 2 ≤ sizeLine; decide), fun w0 hw0 => ?_⟩
      have sW := s2.trans (same_upd (o := .tup [V.int 0, V.int 1]) hw0)
      have hww : upd (upd H1 t2 (.tup [V.int (x : Int), V.int (y : Int)])) w0 (.tup [V.int 0, V.int 1]) w0 = some (.tup (frV (0, 1))) := upd_same
      generalize upd (upd H1 t2 (.tup [V.int (x : Int), V.int (y : Int)])) w0 (.tup [V.int 0, V.int 1]) = H2 at sW hww ⊢
      have hg2 : GraphAt C H2 a g := (hg.ext eH).same sW
      have hS2 : ShortAt CS H2 b g := hS.ext (ext_same sW)
      have hle := ok.le
      have tall : (Gq05.nodes g).take (nodesV g).length = Gq05.nodes g := List.take_of_length_le (by unfold nodesV; rw [List.length_map]; exact Nat.le_refl _)
      have nlen : (nodesV g).length = g.many := by unfold nodesV; rw [List.length_map, WB.nodes_len]
      -- for start in graph.nodes()
      refine ⟨_, rfl, a, dxg, _, rfl, sW _ _ g1', n0, a, g, rfl, hg2, ok.le, fun nl hnl => ?_⟩
      have sN := same_upd (o := .lst (nodesV g)) hnl
      refine ⟨nl, rfl, ⟨_, SqL.of upd_same⟩, for_list (K := K) (a := nl) (xs := nodesV g) (fun i σ H' => ∃ (wq : Addr) (p : Nat × Nat) (v6 v7 v8 : Option V), σ = [some (.ref a), some (.int (x : Int)), some (.int (y : Int)), some (.ref b), some (.int (l : Int)), some (.ref wq), v6, v7, v8] ∧ Same H2 H' ∧ H' nl = some (.lst (nodesV g)) ∧ H' wq = some (.tup (frV p)) ∧
        Tells p (Gq05.sum (((Gq05.nodes g).take i).map fun s => Gq05.sum ((Gq05.nodes g).map fun e => shareE g x y s e))) ∧ Sized (12 * i) p)
        ⟨w0, (0, 1), none, none, none, rfl, sN, upd_same, sN _ _ hww, tells_zero, by decide, by decide⟩ (fun i σ H' _ ⟨_, _, _, _, _, _, _, z, _⟩ => SqL.of z) ?_ ?_⟩
      · rintro i z σ H3 hz ⟨wq, p, v6, v7, v8, rfl, s3, hn3, hwq, htl, hsz⟩
        obtain ⟨st, hst, rfl⟩ := nat_at (l := Gq05.nodes g) hz
        have hil := (List.getElem?_eq_some_iff.mp hst).1
        rw [WB.nodes_len] at hil
        have nst : Nd g st := WB.mem_nodes.mp (List.mem_of_getElem? hst)
        -- for end in graph.nodes()
        refine ⟨_, rfl, a, dxg, _, rfl, s3 _ _ (sW _ _ g1'), n0, a, g, rfl, hg2.same s3, ok.le, fun ml hml => ?_⟩
        have sM := same_upd (o := .lst (nodesV g)) hml
        refine ⟨ml, rfl, ⟨_, SqL.of upd_same⟩, for_list (K := K) (a := ml) (xs := nodesV g) (fun j σ H' => ∃ (wq : Addr) (p : Nat × Nat) (v7 v8 : Option V), σ = [some (.ref a), some (.int (x : Int)), some (.int (y : Int)), some (.ref b), some (.int (l : Int)), some (.ref wq), some (.int (st : Int)), v7, v8] ∧ Same H3 H' ∧ H' ml = some (.lst (nodesV g)) ∧ H' wq = some (.tup (frV p)) ∧
          Tells p (Gq05.sum (((Gq05.nodes g).take i).map fun s => Gq05.sum ((Gq05.nodes g).map fun e => shareE g x y s e)) + Gq05.sum (((Gq05.nodes g).take j).map fun e => shareE g x y st e)) ∧ Sized (12 * i + j) p)
          ⟨wq, p, _, _, rfl, sM, upd_same, sM _ _ hwq, ?_, hsz⟩ (fun j σ H' _ ⟨_, _, _, _, _, _, z, _⟩ => SqL.of z) ?_ ?_⟩
        · show Tells p (_ + (0 : Rat))
          rw [Rat.add_zero]
          exact htl
        · rintro j z σ H4 hz ⟨wq, p, v7, v8, rfl, s4, hm4, hwq, htl, hsz⟩
          obtain ⟨en, hen, rfl⟩ := nat_at (l := Gq05.nodes g) hz
          have hjl := (List.getElem?_eq_some_iff.mp hen).1
          rw [WB.nodes_len] at hjl
          have nen : Nd g en := WB.mem_nodes.mp (List.mem_of_getElem? hen)
          have tk := take_snoc hen
          have hS4 := hS2.ext (ext_same (s3.trans s4))
          obtain ⟨dx, dl, dt, h1, _⟩ := short_len hS4 ok
          have n1 := sf_no dl dt (m := "total") (by decide +kernel) (by decide +kernel)
          have n2 := sf_no dl dt (m := "total_over") (by decide +kernel) (by decide +kernel)
          have hbw : waysT g st en < 2 ^ 9000 := Nat.lt_of_lt_of_le (ways_small ok nst nen) (Nat.pow_le_pow_right (by decide) (by decide))
          obtain ⟨z1, z2, z3⟩ := partE_small ok nst nen hxn hyn
          -- some = shortest.total_over(start, x, y, length, end)
          refine ⟨_, rfl, b, dx, _, rfl, h1, n2, _, rfl, _, rfl, _, rfl, _, rfl, _, rfl, b, g, st, x, y, l, en, rfl, hS4, ok, nst, hxn, hyn, nen, fun b' c' hb' hc' => ?_, ?_⟩
          · obtain ⟨a', ha'⟩ := step_reach ok hxn hyn nen hl hc'
            exact far_join ok nst hxn nen hb' ha'
          rw [over_thrE hl]
          -- whole = together(whole, part(some, shortest.total(start, end)))
          refine ⟨_, rfl, _, rfl, _, rfl, b, dx, _, rfl, h1, n1, _, rfl, _, rfl, b, g, st, en, rfl, hS4, ok, nst, nen, thrE g st en x y, waysT g st en, rfl, hbw, fun q hq => ?_⟩
          have s5 := same_upd (o := .tup (frV (partE g st en x y))) hq
          refine ⟨wq, q, p, partE g st en x y, 100 + 41 * (12 * i + j), 1 + 40 * (12 * i + j), 80, 40, rfl, s5 _ _ hwq, upd_same, tells_pos htl, z3, hsz, ⟨z1, z2⟩, ⟨by omega, by omega, by omega, by omega⟩, by omega, by omega, by omega, fun r hr => ?_⟩
          have s6 := same_upd (o := .tup (frV (plus p (partE g st en x y)))) hr
          refine ⟨r, plus p (partE g st en x y), _, _, rfl, s4.trans (s5.trans s6), (s5.trans s6) _ _ hm4, upd_same, ?_, sized_plus hsz z1 z2⟩
          rw [tk, List.map_append, List.map_cons, List.map_nil, sumR_snoc, ← Rat.add_assoc]
          exact tells_plus htl (partE_tells g st en x y)
        · rintro σ H4 ⟨wq, p, v7, v8, rfl, s4, hm4, hwq, htl, hsz⟩
          refine ⟨wq, p, _, _, _, rfl, s3.trans s4, s4 _ _ hn3, hwq, ?_, sized_mono hsz (by rw [nlen]; omega)⟩
          rw [tall] at htl
          rw [List.take_add_one, hst]
          show Tells p (Gq05.sum (List.map _ (_ ++ [st])))
          rw [List.map_append, List.map_cons, List.map_nil, sumR_snoc]
          exact htl
      · rintro σ H3 ⟨wq, p, v6, v7, v8, rfl, s3, hn3, hwq, htl, hsz⟩
        rw [tall] at htl
        refine ⟨_, rfl, wq, _, rfl, .inr (SqT.of hwq), fun ll hll => ?_⟩
        have s13 : Same H1 (upd H3 ll (.lst (frV p))) := (sW.trans s3).trans (same_upd hll)
        refine k _ ll (eH.trans (ext_same s13)) (T1.ext s13) ?_ (nl_ext (eH.trans (ext_same (sW.trans s3))) hll)
        rw [upd_same, tells_fraction htl]
        rfl
end
end WF
end
section
set_option Elab.async false
set_option linter.all false
set_option maxRecDepth 100000
set_option maxHeartbeats 4000000
namespace WF
open PySem PySem.Spec PyProof.Rows L2
open WB (Ok ND ndGet ndPut IsD W Lens)
abbrev sRank : Stmt := top 39
abbrev sFirst : Stmt := top 40
/-! ### common_below -/
/-- fractions, as tuples that stand in H -/
def FracsAt (H : Hp) (ts : List Addr) (ps : List (Nat × Nat)) : Prop := Paired (fun t p => H t = some (.tup (frV p))) ts ps
/-- the least number that can stand below all -/
def belowN (ps : List (Nat × Nat)) : Nat := ps.foldl (fun b p => Nat.lcm b p.2) 1
theorem below_snoc (ps : List (Nat × Nat)) (p : Nat × Nat) : belowN (ps ++ [p]) = Nat.lcm (belowN ps) p.2 := by
  unfold belowN
  rw [List.foldl_append]
  rfl
theorem lcm_fold : ∀ (ps : List (Nat × Nat)) (b : Nat), b ∣ ps.foldl (fun b p => Nat.lcm b p.2) b ∧ ∀ p ∈ ps, p.2 ∣ ps.foldl (fun b p => Nat.lcm b p.2) b
  | [], b => ⟨Nat.dvd_refl _, fun p hp => by cases hp⟩
  | q :: ps, b => by
    rw [List.foldl_cons]
    obtain ⟨h1, h2⟩ := lcm_fold ps (Nat.lcm b q.2)
    refine ⟨Nat.dvd_trans (Nat.dvd_lcm_left ..) h1, fun p hp => ?_⟩
    rcases List.mem_cons.mp hp with z | z
    · rw [z]
      exact Nat.dvd_trans (Nat.dvd_lcm_right ..) h1
    · exact h2 p z
theorem below_dvd {ps : List (Nat × Nat)} {p : Nat × Nat} (hp : p ∈ ps) : p.2 ∣ belowN ps := (lcm_fold ps 1).2 p hp
/-- its size -/
def Big (n b : Nat) : Prop := 0 < b ∧ b < 2 ^ (1 + 6000 * n)
theorem big_lcm {n b m : Nat} (h : Big n b) (h0 : 0 < m) (hm : m < 2 ^ 6000) : Big (n + 1) (Nat.lcm b m) := by
  refine ⟨Nat.lcm_pos h.1 h0, Nat.lt_of_le_of_lt (Nat.div_le_self _ _) ?_⟩
  calc b * m < 2 ^ (1 + 6000 * n) * 2 ^ 6000 := Nat.mul_lt_mul'' h.2 hm
    _ = 2 ^ (1 + 6000 * n + 6000) := (Nat.pow_add ..).symm
    _ = 2 ^ (1 + 6000 * (n + 1)) := by congr 1
section
variable {P : Program} {w : World} {K : PySem.W.Frag} {mg : Str → Option Value} {base : Heap} {C CS : Addr} {T : List (Addr × Str)}
def spCommon : Sp := fun vs H Q _ => ∃ (a : Addr) (ts : List Addr) (ps : List (Nat × Nat)), vs = [.ref a] ∧ H a = some (.lst (ts.map V.ref)) ∧ FracsAt H ts ps ∧ ps.length ≤ 12 ∧ (∀ p ∈ ps, 0 < p.2 ∧ p.2 < 2 ^ 6000) ∧ (Big ps.length (belowN ps) → Q (.int (belowN ps : Int)) H)
theorem scCommon : FnScope ["several", "below", "one"] ["several"] (defScope sCommon) := ⟨rfl, rfl, rfl, by decide +kernel, rfl, by decide +kernel, by decide +kernel⟩
theorem ok_common {f : Addr} {fd : FuncData} (F : Fun K "common_below" "common_below" sCommon f fd) (M : GcdF P w K mg base) : FnOk P w K mg base CX0 2 f fd ["several"] spCommon := by
  obtain ⟨fg, fdg, mgg, kg, bg, G⟩ := M.ex
  refine F.ok scCommon (fun vs H Q E h => ?_) (fun cdv A outer s H vs Q E hr h => ?_)
  · obtain ⟨a, ts, ps, rfl, _⟩ := h
    rfl
  · obtain ⟨a, ts, ps, rfl, ha, hf, hl, hs, k⟩ := h
    have tlen : ts.length = ps.length := Paired.length hf
    refine ⟨_, pss_cons (ps_set (i := 1) scCommon.nd rfl (Or.inl rfl) pe_int)
      (pss_cons (ps_for PassesOwn.never rfl (pi_list (pv 0)) (pg_name (i := 2) scCommon.nd rfl (Or.inl rfl))
        (pss_one (ps_set (i := 1) scCommon.nd rfl (Or.inl rfl) (pe_op op_fdivW (pe_op op_mulW (pv 1) (pe_ix ix_tup (pv 2) pe_int (fun _ _ => rfl))) (pe_call G hr rfl mgg kg bg .nil pass0 (pa_cons (pv 1) (pa_cons (pe_ix ix_tup (pv 2) pe_int (fun _ _ => rfl)) pa_nil)))))))
      (pss_one (ps_ret (pv 1)))), ?_⟩
    have mV : (ts.map V.ref).length = ps.length := by rw [List.length_map, tlen]
    refine ⟨_, rfl, a, rfl, ⟨_, SqL.of ha⟩, for_list (K := K) (a := a) (xs := ts.map V.ref) (fun i σ H' => H' = H ∧ ∃ v2 : Option V, σ = [some (.ref a), some (.int (belowN (ps.take i) : Int)), v2] ∧ Big i (belowN (ps.take i))) ⟨rfl, none, rfl, show 0 < 1 by decide, show 1 < 2 ^ (1 + 6000 * 0) by decide⟩ (fun i σ H' _ z => SqL.of (by rw [z.1]; exact ha)) ?_ ?_⟩
    · rintro i z σ H' hz ⟨rfl, v2, rfl, hb⟩
      rw [List.getElem?_map, Option.map_eq_some_iff] at hz
      obtain ⟨t, ht, rfl⟩ := hz
      obtain ⟨p, hp, hpt⟩ := paired_at hf ht
      have hil := (List.getElem?_eq_some_iff.mp hp).1
      obtain ⟨p0, p1⟩ := hs p (List.mem_of_getElem? hp)
      have g0 : 0 < Nat.gcd (belowN (ps.take i)) p.2 := Nat.gcd_pos_of_pos_right _ p0
      have g1 : Nat.gcd (belowN (ps.take i)) p.2 ≤ p.2 := Nat.gcd_le_right _ p0
      have cm : CMulW (belowN (ps.take i) : Int) (p.2 : Int) := wide_mul (a := 1 + 6000 * i) (b := 6000) (by rw [Int.natAbs_natCast]; exact hb.2) (by rw [Int.natAbs_natCast]; exact p1) (by omega) (by omega) (by omega)
      have cd : CDivW ((belowN (ps.take i) : Int) * (p.2 : Int)) ((Nat.gcd (belowN (ps.take i)) p.2 : Nat) : Int) := wide_div (b := 6000) (by omega) (by rw [Int.natAbs_natCast]; exact Nat.lt_of_le_of_lt g1 p1) (by decide) (by decide)
      refine ⟨_, rfl, _, rfl, t, _, _, _, rfl, rfl, SqT.of hpt, atI_nat (j := 1) rfl, _, _, rfl, rfl, cm, _, rfl, _, rfl, t, _, _, _, rfl, rfl, SqT.of hpt, atI_nat (j := 1) rfl, belowN (ps.take i), p.2, rfl, _, _, rfl, rfl, cd, ?_⟩
      have tk : ps.take (i + 1) = ps.take i ++ [p] := by
        rw [List.take_add_one, hp]
        rfl
      refine ⟨rfl, some (.ref t), ?_, ?_⟩
      · rw [tk, below_snoc]
        show [some (V.ref a), some (V.int (((belowN (ps.take i) : Int) * (p.2 : Int)) / ((Nat.gcd (belowN (ps.take i)) p.2 : Nat) : Int))), some (V.ref t)] = _
        rw [← Int.natCast_mul, ← Int.natCast_ediv]
        rfl
      · rw [tk, below_snoc]
        exact big_lcm hb p0 p1
    · rintro σ H' ⟨rfl, v2, rfl, hb⟩
      rw [mV, List.take_length] at hb
      refine ⟨_, rfl, ?_⟩
      rw [mV, List.take_length]
      exact k hb
structure CommonF (P : Program) (w : World) (K : PySem.W.Frag) (mg : Str → Option Value) (base : Heap) : Prop where
  ex : ∃ f fd, mg "common_below" = some (.ref f) ∧ PySem.W.keepIn K (.ref f) = true ∧ Binds K fd ["several"] [] ∧ FnOk P w K mg base CX0 2 f fd ["several"] spCommon
end
/-! ### greatest_first -/
/-- a dict by nodes, with what stands at some place for each -/
def amV (am : List (Nat × Addr)) : List (Key × V) := am.map fun p => (ik p.1, V.ref p.2)
theorem am_val {am : List (Nat × Addr)} (nd : (am.map fun p => p.1).Nodup) {i n : Nat} {t : Addr} (h : am[i]? = some (n, t)) : valV (amV am) (ik n) = some (V.ref t) := by
  induction am generalizing i with
  | nil => simp at h
  | cons p am ih =>
    rw [List.map_cons, List.nodup_cons] at nd
    show valV ((ik p.1, V.ref p.2) :: amV am) (ik n) = _
    cases i with
    | zero =>
      have e : p = (n, t) := Option.some.inj h
      rw [e, valV_pos rfl]
    | succ i =>
      have h : am[i]? = some (n, t) := h
      rw [valV_neg, ih nd.2 h]
      intro q
      have q : p.1 = n := ik_inj.mp q
      exact nd.1 (by rw [q]; exact List.mem_map.mpr ⟨(n, t), List.mem_of_getElem? h, rfl⟩)
theorem am_len (am : List (Nat × Addr)) : (amV am).length = am.length := by
  unfold amV
  rw [List.length_map]
/-- how one fraction stands to another -/
def Cross (fr : Nat → Nat × Nat) (u v : Nat) : Prop := (fr v).1 * (fr u).2 < (fr u).1 * (fr v).2 ∨ ((fr v).1 * (fr u).2 = (fr u).1 * (fr v).2 ∧ u ≤ v)
def keyN (fr : Nat → Nat × Nat) (B u : Nat) : Int × Int := (-((fr u).1 : Int) * ((B : Int) / ((fr u).2 : Int)), (u : Int))
theorem cross_lt {a b c d B : Nat} (hB : 0 < B) (hb : b ∣ B) (hd : d ∣ B) : (c * (B / d) < a * (B / b) → c * b < a * d) ∧ (c * (B / d) = a * (B / b) → c * b = a * d) := by
  obtain ⟨m, rfl⟩ := hb
  obtain ⟨n, hn⟩ := hd
  have b0 : 0 < b := Nat.pos_of_mul_pos_right hB
  have d0 : 0 < d := by
    rcases Nat.eq_zero_or_pos d with z | z
    · rw [z, Nat.zero_mul] at hn
      omega
    · exact z
  have e1 : b * m / b = m := Nat.mul_div_cancel_left m b0
  have e2 : b * m / d = n := by rw [hn, Nat.mul_div_cancel_left n d0]
  rw [e1, e2]
  have f1 : c * b * (b * m) = (c * n) * (b * d) := by
    rw [hn]
    simp only [Nat.mul_assoc, Nat.mul_comm, Nat.mul_left_comm]
  have f2 : a * d * (b * m) = (a * m) * (b * d) := by
    simp only [Nat.mul_assoc, Nat.mul_comm, Nat.mul_left_comm]
  constructor
  · intro h
    refine Nat.lt_of_mul_lt_mul_right (a := b * m) ?_
    rw [f1, f2]
    exact Nat.mul_lt_mul_of_pos_right h (Nat.mul_pos b0 d0)
  · intro h
    refine Nat.eq_of_mul_eq_mul_right hB ?_
    rw [f1, f2, h]
theorem key_cross {fr : Nat → Nat × Nat} {B u v : Nat} (hB : 0 < B) (hu : (fr u).2 ∣ B) (hv : (fr v).2 ∣ B) (h : WS.Le2 (keyN fr B u) (keyN fr B v)) : Cross fr u v := by
  obtain ⟨c1, c2⟩ := cross_lt (a := (fr u).1) (c := (fr v).1) hB hu hv
  have e : ∀ w, (keyN fr B w).1 = -(((fr w).1 * (B / (fr w).2) : Nat) : Int) := fun w => by
    show -((fr w).1 : Int) * ((B : Int) / ((fr w).2 : Int)) = _
    rw [Int.natCast_mul, Int.natCast_ediv, Int.neg_mul]
  unfold WS.Le2 at h
  rw [e, e] at h
  rcases h with h | ⟨h1, h2⟩
  · exact .inl (c1 (by omega))
  · have h2 : (u : Int) ≤ (v : Int) := h2
    exact .inr ⟨c2 (by omega), by omega⟩
/-- what sorted gives, by nodes -/
theorem byKeyT_nat {l : List Nat} {κ : Nat → Int × Int} {ys : List V} (h : WS.ByKeyT (l.map κ) ((l.map fun (n : Nat) => (n : Int)).map V.int) ys) : ∃ l' : List Nat, l'.Perm l ∧ ys = natsV l' ∧ l'.Pairwise fun u v => WS.Le2 (κ u) (κ v) := by
  obtain ⟨ps, p1, rfl, p3⟩ := h
  have ez : ∀ M : List Nat, (M.map κ).zip ((M.map fun (n : Nat) => (n : Int)).map V.int) = M.map fun n => (κ n, V.int (n : Int)) := fun M => by
    induction M with
    | nil => rfl
    | cons a M ih =>
      rw [List.map_cons, List.map_cons, List.map_cons, List.zip_cons_cons, ih]
      rfl
  rw [ez] at p1
  have pr : ∀ M : List Nat, Paired (fun (n : Nat) (q : (Int × Int) × V) => q = (κ n, V.int (n : Int))) M (M.map fun n => (κ n, V.int (n : Int))) := fun M => by
    induction M with
    | nil => exact .nil
    | cons a M ih => exact .cons rfl ih
  obtain ⟨l', q1, q2⟩ := WS.lift_perm p1 (pr l)
  have back : ∀ {M : List Nat} {qs : List ((Int × Int) × V)}, Paired (fun (n : Nat) (q : (Int × Int) × V) => q = (κ n, V.int (n : Int))) M qs → qs = M.map fun n => (κ n, V.int (n : Int)) := fun {M qs} h => by
    induction h with
    | nil => rfl
    | cons h _ ih => rw [List.map_cons, h, ih]
  have e := back q2
  subst e
  refine ⟨l', q1, ?_, ?_⟩
  · unfold natsV
    rw [List.map_map]
    rfl
  · rw [List.map_map, List.pairwise_map] at p3
    exact p3
section
variable {P : Program} {w : World} {K : PySem.W.Frag} {mg : Str → Option Value} {base : Heap} {C CS : Addr} {T : List (Addr × Str)}
def lamQ2 : Str := ((("greatest_first" : Str) ++ ".<locals>.") ++ "<lambda>")
/-- each node's fraction stands in H -/
structure AmAt (H : Hp) (am : List (Nat × Addr)) (fr : Nat → Nat × Nat) : Prop where
  nd : (am.map fun p => p.1).Nodup
  le : am.length ≤ 12
  at_ : ∀ p ∈ am, H p.2 = some (.tup (frV (fr p.1))) ∧ 0 < (fr p.1).2 ∧ (fr p.1).2 < 2 ^ 6000 ∧ (fr p.1).1 < 2 ^ 6100
theorem AmAt.ext {H H' : Hp} {am : List (Nat × Addr)} {fr : Nat → Nat × Nat} (h : AmAt H am fr) (e : LamX.ExtN H H') : AmAt H' am fr := ⟨h.nd, h.le, fun p hp => ⟨e _ _ (h.at_ p hp).1 (fun _ z => by cases z), (h.at_ p hp).2⟩⟩
def spFirst (T : List (Addr × Str)) : Sp := fun vs H Q _ => ∃ (d : Addr) (am : List (Nat × Addr)) (fr : Nat → Nat × Nat), vs = [.ref d] ∧ H d = some (.dK (amV am)) ∧ AmAt H am fr ∧ LamX.Tabs T H ∧
  ∀ (H' : Hp) (q : Addr) (l : List Nat), LamX.ExtN H H' → LamX.Tabs T H' → H' q = some (.lst (natsV l)) → l.Perm (am.map fun p => p.1) → l.Pairwise (Cross fr) → Q (.ref q) H'
theorem scFirst : FnScope ["amounts", "below", "v"] ["amounts"] (defScope sFirst) := ⟨rfl, rfl, rfl, by decide +kernel, rfl, by decide +kernel, by decide +kernel⟩
/-- the reading of the lambda's body -/
def tbKey (K : PySem.W.Frag) : TE := tTup (tCons (tOp (rI CMulW fun i j => .int (i * j)) (tUn (rU fun i => .int (-i)) (tOp (rIxT K) (tDGet (tVar 1) (tVar 0)) (tC (.int 0)))) (tOp (rI CDivW fun i j => .int (i / j)) (tVar 2) (tOp (rIxT K) (tDGet (tVar 1) (tVar 0)) (tC (.int 1))))) (tCons (tVar 0) tNil))
theorem ok_first {f c : Addr} {fd : FuncData} (F : Fun K "greatest_first" "greatest_first" sFirst f fd) (hc : fd.code = .ref c) (hsorted : mg "sorted" = none) (TT : TabT base mg T c lamQ2) (M : CommonF P w K mg base) : FnOk P w K mg base CX0 4 f fd ["amounts"] (spFirst T) := by
  obtain ⟨fg, fdg, mgg, kg, bg, G⟩ := M.ex
  obtain ⟨PT, TB, hm, hu⟩ := TT.ex
  refine okC F hc scFirst (fun vs H Q E h => ?_) (fun A outer s H vs Q E hr h => ?_)
  · obtain ⟨d, am, fr, rfl, _⟩ := h
    rfl
  · obtain ⟨d, am, fr, rfl, hd, hA, hT, k⟩ := h
    have hun := hu_of hr
    have hr2 : Room 2 _ := hr.mono (by decide)
    refine ⟨_, pss_cons (ps_set (i := 1) scFirst.nd rfl (Or.inr rfl) (pe_call G hr2 rfl mgg kg bg .nil pass0 (pa_cons (pe_lock (pe_lc (own := [("v", 2)]) (g := gName 2) (tt := tYes) rfl scFirst.nd (pi_keys (pv 0)) (blkOk_by (own := [("v", 2)]) (N := ["amounts", "below", "v"]) (sc := defScope sFirst) (by decide +kernel))
          (fun _ _ _ _ _ => pg_name (i := 2) scFirst.nd rfl (Or.inl rfl)) (fun _ _ _ _ _ => pts_nil) (fun _ _ _ _ _ => pe_dget hun (pv 0) (pv 2) (fun _ _ => rfl)))) pa_nil)))
      (pss_one (ps_ret (WS.pe_sortLamT (x := "v") (N := ["v", "amounts", "below"]) (fr := ["amounts", "below"]) (js := [0, 1]) (k := 0) (tb := tbKey K) (WS.gathers_dict rfl) (pa_cons (pv 0) pa_nil) rfl hsorted TB rfl hm hu rfl (NdefX.nscope_by (by decide +kernel)) (show ∀ y : Str × NameKind, y ∈ _ → y.2 = NameKind.free → (defScope sFirst).names.lookup y.1 = some .cell ∨ (defScope sFirst).names.lookup y.1 = some .free by decide +kernel) (by decide +kernel) rfl
          (fun _ _ _ _ _ _ => rfl) hr (fun _ _ _ _ _ _ _ _ hrl => pe_tup (pa_cons (pe_op op_mulW (pe_un un_neg (pe_ix ix_tup (pe_dget (hu_of hrl) (pv 1) (pv 0) (fun _ _ => rfl)) pe_int (fun _ _ => rfl))) (pe_op op_fdivW (pv 2) (pe_ix ix_tup (pe_dget (hu_of hrl) (pv 1) (pv 0) (fun _ _ => rfl)) pe_int (fun _ _ => rfl)))) (pa_cons (pv 0) pa_nil)))))), ?_⟩
    have at_ : ∀ {i : Nat} {kk : Key} {vv : V}, (amV am)[i]? = some (kk, vv) → ∃ y c, am[i]? = some (y, c) ∧ kk = ik y ∧ vv = V.ref c := fun {i kk vv} hkv => by
      unfold amV at hkv
      rw [List.getElem?_map, Option.map_eq_some_iff] at hkv
      obtain ⟨z, hz1, hz2⟩ := hkv
      injection hz2 with e1 e2
      exact ⟨z.1, z.2, hz1, e1.symm, e2.symm⟩
    have hle := hA.le
    -- below = common_below([amounts[v] for v in amounts])
    refine ⟨d, _, hd, trivial, fun od => ?_⟩
    refine ⟨_, rfl, d, od, rfl, .inl ⟨_, upd_same, fun D hD => ?_⟩⟩
    have nDd : D ≠ d := fun z => by rw [z, upd_same] at hD; cases hD
    have hD1 : H D = none := (upd_ne nDd).symm.trans hD
    refine lc_it walk_keys (fun i H2 => (∀ b o, H b = some o → b ≠ d → H2 b = some o) ∧ H2 d = some (.frz od (.dK (amV am))) ∧ H2 D = some (.lst (((am.take i).map fun p => p.2).map V.ref))) ?_ (fun i H2 _ q => q.2.1) ?_ ?_
    · refine ⟨fun c o q hc => ?_, (upd_ne (Ne.symm nDd)).trans upd_same, upd_same⟩
      rw [upd_ne (ne_of_none q hD1), upd_ne hc]
      exact q
    · rintro i z H2 HY hi ⟨s2, hp2, hD2⟩ ⟨rfl, kk, vv, hkv, rfl⟩
      obtain ⟨y, c', hy, rfl, rfl⟩ := at_ hkv
      refine ⟨rfl, ?_⟩
      change tDGet (tVar 0) (tVar 2) _ HY _
      refine ⟨_, rfl, _, rfl, d, _, rfl, .inl ⟨_, ik y, .inr ⟨od, hp2⟩, rfl, (am_val hA.nd hy).symm⟩, _, hD2, ?_, fun b o q hb => ?_, ?_, ?_⟩
      · rw [List.length_map, List.length_map, List.length_take, sizeLine_eq]
        omega
      · rw [upd_ne (ne_of_none q hD1)]
        exact s2 b o q hb
      · rw [upd_ne (Ne.symm nDd)]
        exact hp2
      · rw [upd_same, List.take_add_one, hy, List.map_append, List.map_append]
        rfl
    · rintro H2 ⟨s2, hp2, hD2⟩
      refine ⟨hp2, ?_⟩
      rw [am_len, List.take_length] at hD2
      have sA : Same H (upd H2 d (.dK (amV am))) := fun b o q => by
        by_cases hb : b = d
        · rw [hb, upd_same]
          rw [hb, hd] at q
          exact q
        · rw [upd_ne hb]
          exact s2 b o q hb
      have hDA : upd H2 d (.dK (amV am)) D = some (.lst ((am.map fun p => p.2).map V.ref)) := (upd_ne nDd).trans hD2
      generalize upd H2 d (.dK (amV am)) = H3 at sA hDA
      have hA3 := hA.ext (ext_same sA)
      have fa : FracsAt H3 (am.map fun p => p.2) (am.map fun p => fr p.1) := by
        have : ∀ l : List (Nat × Addr), (∀ p ∈ l, H3 p.2 = some (.tup (frV (fr p.1)))) → FracsAt H3 (l.map fun p => p.2) (l.map fun p => fr p.1) := fun l h => by
          induction l with
          | nil => exact .nil
          | cons p l ih => exact .cons (h p List.mem_cons_self) (ih fun q hq => h q (List.mem_cons_of_mem _ hq))
        exact this am fun p hp => (hA3.at_ p hp).1
      refine ⟨D, _, _, rfl, hDA, fa, by rw [List.length_map]; exact hle, fun p hp => ?_, fun big => ?_⟩
      · obtain ⟨q, hq, rfl⟩ := List.mem_map.mp hp
        exact ⟨(hA3.at_ q hq).2.1, (hA3.at_ q hq).2.2.1⟩
      rw [List.length_map] at big
      have dvd : ∀ q ∈ am, (fr q.1).2 ∣ belowN (am.map fun p => fr p.1) := fun q hq => below_dvd (List.mem_map.mpr ⟨q, hq, rfl⟩)
      generalize belowN (am.map fun p => fr p.1) = B at big dvd
      -- return sorted(amounts, key=lambda v: ..)
      refine ⟨_, rfl, d, ((am.map fun p => p.1).map fun (n : Nat) => (n : Int)).map V.int, (am.map fun p => p.1).map (keyN fr B), rfl, ⟨amV am, (am.map fun p => p.1).map fun (n : Nat) => (n : Int), .inl (sA _ _ hd), ?_, rfl⟩, ?_, ?_, hT.ext sA, ?_, ?_⟩
      · unfold amV
        rw [List.map_map, List.map_map, List.map_map]
        rfl
      · rw [List.length_map, List.length_map, List.length_map]
        omega
      · rw [List.length_map, List.length_map, List.length_map, List.length_map, List.length_map]
      · intro i x z hx hz H' eN
        rw [List.map_map, List.map_map, List.getElem?_map, Option.map_eq_some_iff] at hx
        rw [List.map_map, List.getElem?_map, Option.map_eq_some_iff] at hz
        obtain ⟨⟨y, t⟩, hy, rfl⟩ := hx
        obtain ⟨y', hy', rfl⟩ := hz
        rw [hy] at hy'
        cases hy'
        obtain ⟨r1, r2, r3, r4⟩ := (hA3.ext eN).at_ _ (List.mem_of_getElem? hy)
        have gd := DGet.k (k := ik y) (eN _ _ (sA _ _ hd) (fun _ z => by cases z))
        rw [am_val hA.nd hy] at gd
        have cd : CDivW (B : Int) ((fr y).2 : Int) := wide_div (b := 6000) (Int.natCast_pos.mpr r2) (by rw [Int.natAbs_natCast]; exact r3) (by decide) (by decide)
        have hq : ((B : Int) / ((fr y).2 : Int)).natAbs < 2 ^ (1 + 6000 * am.length) := by
          rw [← Int.natCast_ediv, Int.natAbs_natCast]
          exact Nat.lt_of_le_of_lt (Nat.div_le_self _ _) big.2
        have cm : CMulW (-((fr y).1 : Int)) ((B : Int) / ((fr y).2 : Int)) := wide_mul (a := 6100) (b := 1 + 6000 * am.length) (by rw [Int.natAbs_neg, Int.natAbs_natCast]; exact r4) hq (by decide) (by omega) (by omega)
        refine ⟨.ref d, rfl, .int (y : Int), rfl, d, .ref t, rfl, gd, t, _, _, _, rfl, rfl, SqT.of r1, atI_nat (j := 0) rfl, _, rfl, .int (B : Int), rfl, .ref d, rfl, .int (y : Int), rfl, d, .ref t, rfl, gd, t, _, _, _, rfl, rfl, SqT.of r1, atI_nat (j := 1) rfl, _, _, rfl, rfl, cd, _, _, rfl, rfl, cm, .int (y : Int), rfl, (by show 2 ≤ sizeLine; decide), fun q hq => ⟨q, rfl, hq, rfl⟩⟩
      · intro H4 p ys eN T4 hp bk
        obtain ⟨l', q1, rfl, q3⟩ := byKeyT_nat bk
        refine k H4 p l' ((ext_same sA).trans eN) T4 hp q1 ?_
        have dv : ∀ u ∈ l', (fr u).2 ∣ B := fun u hu' => by
          obtain ⟨q, hq, rfl⟩ := List.mem_map.mp (q1.mem_iff.mp hu')
          exact dvd q hq
        exact List.Pairwise.imp_of_mem (fun hu' hv' h => key_cross big.1 (dv _ hu') (dv _ hv') h) q3
structure FirstF (P : Program) (w : World) (K : PySem.W.Frag) (mg : Str → Option Value) (base : Heap) (T : List (Addr × Str)) : Prop where
  ex : ∃ f fd, mg "greatest_first" = some (.ref f) ∧ PySem.W.keepIn K (.ref f) = true ∧ Binds K fd ["amounts"] [] ∧ FnOk P w K mg base CX0 4 f fd ["amounts"] (spFirst T)
end
end WF
end
section
set_option Elab.async false
set_option linter.all false
set_option maxRecDepth 100000
set_option maxHeartbeats 4000000
namespace WF
open PySem PySem.Spec PyProof.Rows L2
open WB (Ok ND ndGet ndPut IsD W Lens)
/-! ### ranking -/
abbrev btw (g : Gq05.Graph) (v : Nat) : Rat := Gq05.between g (Gq05.table g) v
/-- by how much v lies between, as two numbers -/
def frB (g : Gq05.Graph) (v : Nat) : Nat × Nat := ((btw g v).num.toNat, (btw g v).den)
theorem frB_of {g : Gq05.Graph} {v : Nat} {p : Nat × Nat} (h : Tells p (btw g v)) : p = frB g v := by
  unfold frB
  refine Prod.ext ?_ h.2
  rw [← h.1]
  rfl
/-- what is known of a node's fraction -/
def Known (g : Gq05.Graph) (v : Nat) : Prop := Tells (frB g v) (btw g v) ∧ Sized 144 (frB g v)
theorem cross_before {g : Gq05.Graph} {u v : Nat} (hu : Known g u) (hv : Known g v) (h : Cross (frB g) u v) (ne : u ≠ v) : Before (u, btw g u) (v, btw g v) := by
  rcases h with h | ⟨h1, h2⟩
  · exact .inl ((tells_lt hv.1 hu.1).mpr h)
  · refine .inr ⟨?_, by show u < v; omega⟩
    refine Rat.le_antisymm (Rat.not_lt.mp fun q => ?_) (Rat.not_lt.mp fun q => ?_)
    · have := (tells_lt hv.1 hu.1).mp q
      omega
    · have := (tells_lt hu.1 hv.1).mp q
      omega
theorem rank_of {g : Gq05.Graph} {l : List Nat} (hp : l.Perm (Gq05.nodes g)) (hk : ∀ v ∈ l, Known g v) (h : l.Pairwise (Cross (frB g))) : l.map (fun v => (v, btw g v)) = Gq05.ranked g := by
  refine ranked_eq ?_ (hp.map _)
  rw [List.pairwise_map]
  have nd : l.Pairwise (· ≠ ·) := hp.nodup_iff.mpr WB.nodes_nd
  exact List.Pairwise.imp_of_mem (fun hu hv q => cross_before (hk _ hu) (hk _ hv) q.1 q.2) (List.Pairwise.and h nd)
theorem am_none : ∀ {am : List (Nat × Addr)} {n : Nat}, n ∉ am.map (fun p => p.1) → valV (amV am) (ik n) = none
  | [], _, _ => rfl
  | p :: am, n, h => by
    rw [List.map_cons, List.mem_cons, not_or] at h
    show valV ((ik p.1, V.ref p.2) :: amV am) (ik n) = _
    rw [valV_neg (fun q => h.1 (ik_inj.mp q).symm), am_none h.2]
theorem am_put {am : List (Nat × Addr)} {n : Nat} {t : Addr} (h : n ∉ am.map (fun p => p.1)) : putK (amV am) (ik n) (V.ref t) = amV (am ++ [(n, t)]) := by
  rw [putK_new _ (am_none h)]
  unfold amV
  rw [List.map_append]
  rfl
theorem cut_front (xs : List V) (n : Nat) : cutV xs none (some (n : Int)) = xs.take n := by
  unfold cutV
  rw [HT.sIx_nat, HT.sIx_none, Nat.sub_zero, List.drop_zero, List.take_eq_take_iff]
  omega
section
variable {P : Program} {w : World} {K : PySem.W.Frag} {mg : Str → Option Value} {base : Heap} {C CS : Addr} {T : List (Addr × Str)}
def spRank (C : Addr) (T : List (Addr × Str)) : Sp := fun vs H Q E => ∃ (n : Nat), spAsk C T [.int (n : Int)] (.ranking n) vs H Q E
theorem scRank : FnScope ["graph", "n", "shortest", "amounts", "v", "first", "told"] ["graph", "n"] (defScope sRank) := ⟨rfl, rfl, rfl, by decide +kernel, rfl, by decide +kernel, by decide +kernel⟩
theorem ok_rank {f : Addr} {fd : FuncData} (F : Fun K "ranking" "ranking" sRank f fd) (X : Txt K mg C) (XS : TxtS K mg CS) (MS : MakeS P w K mg base C CS T) (MN : NodesM P w K mg base C) (ML : LiesF P w K mg base C CS) (MF : FirstF P w K mg base T) : FnOk P w K mg base CX0 7 f fd ["graph", "n"] (spRank C T) := by
  obtain ⟨fi, fdi, mki, bi, GI⟩ := MS.ex
  obtain ⟨fn, fdn, mn, bn, GN⟩ := MN.ex
  obtain ⟨fl, fdl, ml, kl, bl, GL⟩ := ML.ex
  obtain ⟨ff, fdf, mf, kf, bf, GF⟩ := MF.ex
  refine F.ok scRank (fun vs H Q E h => ?_) (fun cdv A outer sh H vs Q E hr h => ?_)
  · obtain ⟨n, a, g, rfl, _⟩ := h
    rfl
  · obtain ⟨n, a, g, rfl, hg, ok, hT, k⟩ := h
    have hu := hu_of hr
    have hr1 : Room 1 _ := hr.mono (by decide)
    have hr4 : Room 4 _ := hr.mono (by decide)
    obtain ⟨dxg, d, g1, g2⟩ := id hg
    have n0 := gf_no g.many d (m := "nodes") (by decide +kernel) (by decide +kernel)
    refine ⟨_, pss_cons (ps_set (i := 2) scRank.nd rfl (Or.inl rfl) (pe_make mki GI hr (by rfl) XS.mgC bi .nil pass0 (pa_cons (pv 0) pa_nil)))
      (pss_cons (ps_set (i := 3) scRank.nd rfl (Or.inl rfl) pe_dnewK)
      (pss_cons (ps_for PassesOwn.never rfl (pi_list (pe_meth0 (pv 0) X.cl mn GN hr1 bn .nil pass0)) (pg_name (i := 4) scRank.nd rfl (Or.inl rfl))
        (pss_one (ps_dput hu (pv 3) (pv 4) (pe_call GL hr4 rfl ml kl bl .nil pass0 (pa_cons (pv 0) (pa_cons (pv 2) (pa_cons (pv 4) pa_nil)))) rfl)))
      (pss_cons (ps_set (i := 5) scRank.nd rfl (Or.inl rfl) (pe_slice sl_list (pe_call GF hr4 rfl mf kf bf .nil pass0 (pa_cons (pv 3) pa_nil)) po_none (po_some (pv 1))))
      (pss_cons (ps_set (i := 6) scRank.nd rfl (Or.inl rfl) (pe_lst (pa_cons (pe_callB call_len_seq (by rfl) X.len PySem.boot_len (pa_cons (pv 5) pa_nil)) pa_nil)))
      (pss_cons (ps_for PassesOwn.never rfl (pi_list (pv 5)) (pg_name (i := 4) scRank.nd rfl (Or.inl rfl))
        (pss_cons (ps_expr (pe_bm PySem.F.plainAttrs_list PySem.F.slot_list_append PySem.F.type_list_append mt_append (pv 6) (pa_cons (pv 4) pa_nil)))
        (pss_one (ps_expr (pe_bm PySem.F.plainAttrs_list PySem.F.slot_list_extend PySem.F.type_list_extend WR.mt_extendT (pv 6) (pa_cons (pe_dget hu (pv 3) (pv 4) (fun _ _ => rfl)) pa_nil))))))
      (pss_one (ps_ret (pv 6)))))))), ?_⟩
    have ks : (Gq05.step g (.ranking n)).2 = ((((Gq05.ranked g).take n).length : Nat) : Int) :: ((Gq05.ranked g).take n).flatMap fun x => (x.1 : Int) :: Gq05.fraction x.2 := rfl
    rw [ks] at k
    -- shortest = Shortest(graph); amounts = {}
    refine ⟨_, rfl, fun b dxb hb hdxb hneb => made_short hg ok hT hb hdxb hneb fun H1 e1 T1 hS => ⟨rfl, ?_⟩⟩
    intro ad had
    have s0 := same_upd (o := .dK []) had
    have g1' := e1 _ _ g1 (fun _ z => by cases z)
    have hg1 : GraphAt C H1 a g := hg.ext e1
    have hle := ok.le
    -- for v in graph.nodes()
    refine ⟨_, rfl, a, dxg, _, rfl, s0 _ _ g1', n0, a, g, rfl, hg1.same s0, ok.le, fun nl hnl => ?_⟩
    have sN := same_upd (o := .lst (nodesV g)) hnl
    have nna : nl ≠ ad := fun z => by rw [z, upd_same] at hnl; cases hnl
    refine ⟨nl, rfl, ⟨_, SqL.of upd_same⟩, for_list (K := K) (a := nl) (xs := nodesV g) (fun i σ H' => ∃ (v4 : Option V) (am : List (Nat × Addr)), σ = [some (.ref a), some (.int (n : Int)), some (.ref b), some (.ref ad), v4, none, none] ∧ Same H1 H' ∧ H' nl = some (.lst (nodesV g)) ∧ H' ad = some (.dK (amV am)) ∧ am.map (fun p => p.1) = (Gq05.nodes g).take i ∧
      ∀ p ∈ am, H' p.2 = some (.tup (frV (frB g p.1))) ∧ Known g p.1)
      ⟨none, [], rfl, s0.trans sN, upd_same, sN _ _ upd_same, rfl, fun p hp => by cases hp⟩ (fun i σ H' _ ⟨_, _, _, _, z, _⟩ => SqL.of z) ?_ ?_⟩
    · rintro i z σ H2 hz ⟨v4, am, rfl, s2, hn2, ha2, hk2, hp2⟩
      obtain ⟨v, hv, rfl⟩ := nat_at (l := Gq05.nodes g) hz
      have hil := (List.getElem?_eq_some_iff.mp hv).1
      have nv : Nd g v := WB.mem_nodes.mp (List.mem_of_getElem? hv)
      -- amounts[v] = lies_between(graph, shortest, v)
      refine ⟨_, rfl, _, rfl, _, rfl, a, b, g, v, rfl, hg1.same s2, hS.ext (ext_same s2), ok, nv, fun H3 q p s3 hq ht hsz => ?_⟩
      have ep := frB_of ht
      subst ep
      have alen : am.length ≤ 12 := by
        have := congrArg List.length hk2
        rw [List.length_map, List.length_take, WB.nodes_len] at this
        omega
      have nin : v ∉ am.map fun p => p.1 := fun z => by
        rw [hk2] at z
        obtain ⟨j, hj⟩ := List.mem_iff_getElem?.mp z
        have hji : j < i := by
          have := (List.getElem?_eq_some_iff.mp hj).1
          rw [List.length_take] at this
          omega
        rw [List.getElem?_take_of_lt hji] at hj
        have := (List.getElem?_inj hil (WB.nodes_nd (g := g))).mp (hv.trans hj.symm)
        omega
      refine ⟨_, rfl, _, rfl, ad, _, rfl, DPut.k (k := ik v) (s3 _ _ ha2) (by rw [am_len, sizeLine_eq]; omega), ?_⟩
      rw [am_put nin]
      have nta : ∀ {c : Addr} {xs : List V}, H3 c = some (.tup xs) → c ≠ ad := fun e => ne_of e (s3 _ _ ha2) (by intro z; cases z)
      refine ⟨_, am ++ [(v, q)], rfl, fun c o e => ?_, ?_, upd_same, ?_, fun p hp => ?_⟩
      · rw [upd_ne (ne_of_none e had)]
        exact s3 _ _ (s2 _ _ e)
      · rw [upd_ne nna]
        exact s3 _ _ hn2
      · rw [List.map_append, hk2, List.take_add_one, hv]
        rfl
      · rcases List.mem_append.mp hp with z | z
        · obtain ⟨y1, y2⟩ := hp2 p z
          have y1 := s3 _ _ y1
          exact ⟨(upd_ne (nta y1)).trans y1, y2⟩
        · rw [List.mem_singleton] at z
          subst z
          exact ⟨(upd_ne (nta hq)).trans hq, ht, hsz⟩
    · rintro σ H2 ⟨v4, am, rfl, s2, hn2, ha2, hk2, hp2⟩
      rw [List.take_of_length_le (by unfold nodesV; rw [List.length_map]; exact Nat.le_refl _)] at hk2
      have alen : am.length ≤ 12 := by
        have := congrArg List.length hk2
        rw [List.length_map, WB.nodes_len] at this
        omega
      have hA : AmAt H2 am (frB g) := ⟨by rw [hk2]; exact WB.nodes_nd, alen, fun p hp => by
        obtain ⟨y1, y2, y3, y4⟩ := hp2 p hp
        exact ⟨y1, tells_pos y2, Nat.lt_of_lt_of_le y4 (Nat.pow_le_pow_right (by decide) (by decide)), Nat.lt_of_lt_of_le y3 (Nat.pow_le_pow_right (by decide) (by decide))⟩⟩
      -- first = greatest_first(amounts)[:n]
      refine ⟨_, rfl, ad, am, frB g, rfl, ha2, hA, T1.ext s2, fun H3 q l e3 T3 hq hl hc => ?_⟩
      rw [hk2] at hl
      have kn : ∀ v ∈ l, Known g v ∧ ∃ t, (v, t) ∈ am := fun v hv => by
        have : v ∈ am.map fun p => p.1 := by rw [hk2]; exact hl.mem_iff.mp hv
        obtain ⟨p, hp, rfl⟩ := List.mem_map.mp this
        exact ⟨(hp2 p hp).2, p.2, hp⟩
      have er := rank_of hl (fun v hv => (kn v hv).1) hc
      rw [← er, ← List.map_take, List.length_map, List.flatMap_map] at k
      have llen : (l.take n).length ≤ 12 := by
        rw [List.length_take, hl.length_eq, WB.nodes_len]
        omega
      refine ⟨_, rfl, _, rfl, q, _, rfl, SqL.of hq, fun ql hql => ?_⟩
      rw [cut_front, show (natsV l).take n = natsV (l.take n) from (List.map_take).symm]
      have hm : ∀ v ∈ l.take n, v ∈ l := fun v hv => List.mem_of_mem_take hv
      generalize l.take n = m at k llen hm ⊢
      have e13 : LamX.ExtN H1 H3 := (ext_same s2).trans e3
      have hql2 : upd H3 ql (.lst (natsV m)) ql = some (.lst (natsV m)) := upd_same
      have sq := same_upd (o := .lst (natsV m)) hql
      have ha3 := sq _ _ (e3 _ _ ha2 (fun _ z => by cases z))
      have hA3 := (hA.ext e3).ext (ext_same sq)
      have T4 := T3.ext sq
      have e14 : LamX.ExtN H1 (upd H3 ql (.lst (natsV m))) := e13.trans (ext_same sq)
      generalize upd H3 ql (.lst (natsV m)) = H4 at hql2 sq ha3 hA3 T4 e14 ⊢
      -- told = [len(first)]
      refine ⟨_, rfl, ql, _, rfl, .inl (SqL.of hql2), (by show 1 ≤ sizeLine; decide), fun tl htl => ?_⟩
      have st := same_upd (o := .lst [V.int ((natsV m).length : Int)]) htl
      -- for v in first
      refine ⟨_, rfl, ql, rfl, ⟨_, SqL.of (st _ _ hql2)⟩, for_list (K := K) (a := ql) (xs := natsV m) (fun i σ H' => ∃ v4 : Option V, σ = [some (.ref a), some (.int (n : Int)), some (.ref b), some (.ref ad), v4, some (.ref ql), some (.ref tl)] ∧ Same H4 H' ∧
        H' tl = some (.lst (outV (((m.length : Nat) : Int) :: (m.take i).flatMap fun (v : Nat) => (v : Int) :: Gq05.fraction (btw g v)))))
        ⟨v4, rfl, st, ?_⟩ (fun i σ H' _ ⟨_, _, z, _⟩ => SqL.of (z _ _ hql2)) ?_ ?_⟩
      · rw [upd_same, natsV_len]
        rfl
      · rintro i z σ H5 hz ⟨v5, rfl, s5, htl5⟩
        obtain ⟨v, hv, rfl⟩ := nat_at hz
        have hil := (List.getElem?_eq_some_iff.mp hv).1
        obtain ⟨kv, t, hvt⟩ := kn v (hm v (List.mem_of_getElem? hv))
        obtain ⟨j, hj⟩ := List.mem_iff_getElem?.mp hvt
        have gd := DGet.k (k := ik v) (s5 _ _ ha3)
        rw [am_val hA3.nd hj] at gd
        have tup := s5 _ _ (hA3.at_ _ hvt).1
        have fl := flat_len (fun (v : Nat) => (v : Int) :: Gq05.fraction (btw g v)) 3 (m.take i) fun _ _ => Nat.le_refl _
        rw [List.length_take] at fl
        have oL : ∀ l : List Int, (outV l).length = l.length := fun l => by
          unfold outV
          rw [List.length_map]
        have ntl : ad ≠ tl := ne_of (s5 _ _ ha3) htl5 (by intro z; cases z)
        have ntt : t ≠ tl := ne_of tup htl5 (by intro z; cases z)
        -- told.append(v)
        refine ⟨_, rfl, .inl ⟨rfl, _, SqL.of htl5⟩, _, rfl, tl, _, _, rfl, rfl, htl5, ?_, ?_⟩
        · rw [oL, List.length_cons, sizeLine_eq]
          omega
        -- told.extend(amounts[v])
        have gd' : DGet (upd H5 tl (.lst (outV (((m.length : Nat) : Int) :: (m.take i).flatMap fun (v : Nat) => (v : Int) :: Gq05.fraction (btw g v)) ++ [V.int (v : Int)]))) ad (.int (v : Int)) (some (V.ref t)) := by
          have z := DGet.k (k := ik v) ((upd_ne (o := .lst (outV (((m.length : Nat) : Int) :: (m.take i).flatMap fun (v : Nat) => (v : Int) :: Gq05.fraction (btw g v)) ++ [V.int (v : Int)])) ntl).trans (s5 _ _ ha3))
          rw [am_val hA3.nd hj] at z
          exact z
        refine ⟨_, rfl, .inl ⟨rfl, _, SqL.of upd_same⟩, _, rfl, _, rfl, ad, _, rfl, gd', tl, t, _, _, rfl, rfl, upd_same, (upd_ne ntt).trans tup, ?_, ?_⟩
        · rw [List.length_append, oL, List.length_cons, sizeLine_eq]
          show _ + 1 + 2 ≤ _
          omega
        · refine ⟨_, rfl, fun c o e => ?_, ?_⟩
          · have nc := ne_of_none e htl
            rw [upd_ne nc, upd_ne nc]
            exact s5 _ _ e
          · rw [upd_same, List.take_add_one, hv, List.flatMap_append]
            have ef : (some v).toList.flatMap (fun (v : Nat) => (v : Int) :: Gq05.fraction (btw g v)) = [(v : Int), ((frB g v).1 : Int), ((frB g v).2 : Int)] := by
              show (v : Int) :: (Gq05.fraction (btw g v) ++ []) = _
              rw [List.append_nil, tells_fraction kv.1]
            rw [ef]
            unfold outV
            rw [List.map_cons, List.map_cons, List.map_append, List.cons_append, List.cons_append, List.append_assoc]
            rfl
      · rintro σ H5 ⟨v5, rfl, s5, htl5⟩
        refine ⟨_, rfl, ?_⟩
        rw [natsV_len, List.take_length] at htl5
        exact k H5 tl (e1.trans (e14.trans (ext_same s5))) (T4.ext s5) htl5 (nl_ext (e1.trans e14) htl)
end
end WF
end
section
set_option Elab.async false
set_option linter.all false
set_option maxRecDepth 100000
set_option maxHeartbeats 4000000
namespace WF
open PySem PySem.Spec PyProof.Rows L2
open WB (Ok codeOf argsOf flat1 flatC runC)
abbrev sAns : Stmt := top 54
/-! ### the loop over the calls -/
/-- how many numbers stand behind a call's own -/
def totalsN : List Nat := [0, 3, 2, 2, 3, 1, 2, 1, 1, 2, 1, 0]
theorem totals_at (c : Gq05.Call) : totalsN[codeOf c]? = some (argsOf c).length := by
  cases c <;> rfl
theorem flat_app (a b : List Gq05.Call) : flatC (a ++ b) = flatC a ++ flatC b := by
  unfold flatC
  rw [List.flatMap_append]
theorem flat_cons (c : Gq05.Call) (b : List Gq05.Call) : flatC (c :: b) = flat1 c ++ flatC b := rfl
theorem flat1_len (c : Gq05.Call) : (flat1 c).length = 1 + (argsOf c).length := by
  unfold flat1 WB.intsN
  rw [List.length_map, List.length_cons, Nat.add_comm]
/-- the rest of what is answered -/
theorem runC_app : ∀ (a b : List Gq05.Call) (g : Gq05.Graph), ∃ g', runC g (a ++ b) = runC g a ++ runC g' b
  | [], b, g => ⟨g, rfl⟩
  | c :: a, b, g => by
    obtain ⟨g', h⟩ := runC_app a b (Gq05.step g c).1
    refine ⟨g', ?_⟩
    show _ :: (_ ++ runC _ (a ++ b)) = (_ :: (_ ++ runC _ a)) ++ _
    rw [h, List.cons_append, List.append_assoc]
theorem cut_mid {xs : List V} {i n : Nat} (h : i + n ≤ xs.length) : cutV xs (some (i : Int)) (some ((i + n : Nat) : Int)) = (xs.drop i).take n := by
  unfold cutV
  have e1 : HT.sIx xs.length 0 (some (i : Int)) = i := by
    rw [HT.sIx_nat]
    omega
  have e2 : HT.sIx xs.length xs.length (some ((i + n : Nat) : Int)) = i + n := by
    rw [HT.sIx_nat]
    omega
  rw [e1, e2, Nat.add_sub_cancel_left]
/-- what stays whatever call is answered -/
def KeepL (H H' : Hp) : Prop := ∀ b o, H b = some o → ((∃ xs, o = .lst xs) ∨ (∃ xs, o = .tup xs) ∨ ∃ ob u, o = .frz ob u) → H' b = some o
theorem KeepL.of_keep {H H' : Hp} (h : Keep H H') : KeepL H H' := fun b o e k => by
  refine h b o e ?_
  rcases k with ⟨_, rfl⟩ | ⟨_, rfl⟩ | ⟨_, _, rfl⟩ <;> trivial
theorem KeepL.of_ext {H H' : Hp} (h : LamX.ExtN H H') : KeepL H H' := fun b o e k => by
  refine h b o e fun ps z => ?_
  rcases k with ⟨_, rfl⟩ | ⟨_, rfl⟩ | ⟨_, _, rfl⟩ <;> cases z
theorem KeepL.lst {H H' : Hp} (h : KeepL H H') {b : Addr} {xs : List V} (e : H b = some (.lst xs)) : H' b = some (.lst xs) := h b _ e (.inl ⟨xs, rfl⟩)
theorem KeepL.seq {K : PySem.W.Frag} {H H' : Hp} (h : KeepL H H') {b : Addr} {xs : List V} (e : SqL K H b xs) : SqL K H' b xs := by
  rcases e with (e | ⟨o, e⟩) | e
  · exact .inl (.inl (h.lst e))
  · exact .inl (.inr ⟨o, h b _ e (.inr (.inr ⟨o, _, rfl⟩))⟩)
  · exact .inr e
section
variable {P : Program} {w : World} {K : PySem.W.Frag} {mg : Str → Option Value} {base : Heap} {C : Addr} {T : List (Addr × Str)}
/-- answer_call: any call, its numbers in a list -/
def spCall (C : Addr) (T : List (Addr × Str)) : Sp := fun vs H Q _ => ∃ (a gl : Addr) (g : Gq05.Graph) (c : Gq05.Call), vs = [.ref a, .int (codeOf c : Int), .ref gl] ∧ GraphAt C H a g ∧ Ok g ∧ g.edges.length < 1000 ∧ H gl = some (.lst (natsV (argsOf c))) ∧ LamX.Tabs T H ∧
  ∀ (H' : Hp) (p : Addr), GraphAt C H' a (Gq05.step g c).1 → H' p = some (.lst (outV (Gq05.step g c).2)) → KeepL H H' → LamX.Tabs T H' → NL H p → Q (.ref p) H'
structure CallF (P : Program) (w : World) (K : PySem.W.Frag) (mg : Str → Option Value) (base : Heap) (C : Addr) (T : List (Addr × Str)) (n : Nat) : Prop where
  ex : ∃ f fd, mg "answer_call" = some (.ref f) ∧ PySem.W.keepIn K (.ref f) = true ∧ Binds K fd ["graph", "call", "given"] [] ∧ FnOk P w K mg base CX0 n f fd ["graph", "call", "given"] (spCall C T)
structure MakeG (P : Program) (w : World) (K : PySem.W.Frag) (mg : Str → Option Value) (base : Heap) (C : Addr) : Prop where
  ex : ∃ f fd, Mk K C f ∧ Binds K fd ["self"] [] ∧ FnOk P w K mg base CX0 1 f fd ["self"] (spGInit C)
def spAns (K : PySem.W.Frag) (T : List (Addr × Str)) : Sp := fun vs H Q _ => ∃ (a : Addr) (cs : List Gq05.Call), vs = [.ref a] ∧ SqL K H a ((flatC cs).map V.int) ∧ cs.length ≤ 40 ∧ (runC ⟨0, []⟩ cs).length ≤ 10000000 ∧ (flatC cs).length ≤ 1000 ∧ LamX.Tabs T H ∧
  ∀ (H' : Hp) (p : Addr), H' p = some (.lst (outV (runC ⟨0, []⟩ cs))) → Q (.ref p) H'
theorem scAns : FnScope ["calls", "graph", "told", "place", "call", "behind", "answer"] ["calls"] (defScope sAns) := ⟨rfl, rfl, rfl, by decide +kernel, rfl, by decide +kernel, by decide +kernel⟩
theorem ok_answers {f gt : Addr} {fd : FuncData} {n : Nat} (F : Fun K "answers" "answers" sAns f fd) (X : Txt K mg C) (MG : MakeG P w K mg base C) (MC : CallF P w K mg base C T n) (hn : 2 ≤ n) (hgt : mg "GIVEN_TOTALS" = some (.ref gt)) (hgT : ∀ H, SqT K H gt (natsV totalsN)) :
    FnOk P w K mg base CX0 (n + 1) f fd ["calls"] (spAns K T) := by
  obtain ⟨fi, fdi, mki, bi, GI⟩ := MG.ex
  obtain ⟨fc, fdc, mc, kc, bc, GC⟩ := MC.ex
  refine F.ok scAns (fun vs H Q E h => ?_) (fun cdv A outer sh H vs Q E hr h => ?_)
  · obtain ⟨a, cs, rfl, _⟩ := h
    rfl
  · obtain ⟨a, cs, rfl, hS, hlen, hout, hfl, hT, k⟩ := h
    have hr2 : Room 2 _ := hr.mono hn
    refine ⟨_, pss_cons (ps_set (i := 1) scAns.nd rfl (Or.inl rfl) (pe_make0 mki GI hr2 rfl X.mgC bi .nil pass0)) (pss_cons (ps_set (i := 2) scAns.nd rfl (Or.inl rfl) (pe_lst pa_nil)) (pss_cons (ps_set (i := 3) scAns.nd rfl (Or.inl rfl) pe_int)
      (pss_cons (ps_while PassesOwn.never (pt_cmpR op_lt (pv 3) (pe_callB call_len_seq (by rfl) X.len PySem.boot_len (pa_cons (pv 0) pa_nil)) (nomark _))
        (pss_cons (ps_set (i := 4) scAns.nd rfl (Or.inl rfl) (pe_ix ix_list (pv 0) (pv 3) (fun _ _ => rfl)))
        (pss_cons (ps_set (i := 5) scAns.nd rfl (Or.inl rfl) (pe_op op_add (pe_op op_add (pv 3) pe_int) (pe_ix ix_tup (pe_glob (v := .ref gt) rfl hgt rfl) (pv 4) (fun _ _ => rfl))))
        (pss_cons (ps_set (i := 6) scAns.nd rfl (Or.inl rfl) (pe_call GC hr rfl mc kc bc .nil pass0 (pa_cons (pv 1) (pa_cons (pv 4) (pa_cons (pe_slice sl_list (pv 0) (po_some (pe_op op_add (pv 3) pe_int)) (po_some (pv 5))) pa_nil)))))
        (pss_cons (ps_expr (pe_bm PySem.F.plainAttrs_list PySem.F.slot_list_append PySem.F.type_list_append mt_append (pv 2) (pa_cons (pe_callB call_len_seq (by rfl) X.len PySem.boot_len (pa_cons (pv 6) pa_nil)) pa_nil)))
        (pss_cons (ps_expr (pe_bm PySem.F.plainAttrs_list PySem.F.slot_list_extend PySem.F.type_list_extend mt_extend (pv 2) (pa_cons (pv 6) pa_nil)))
        (pss_one (ps_set (i := 3) scAns.nd rfl (Or.inl rfl) (pv 5)))))))))
      (pss_one (ps_ret (pv 2)))))), ?_⟩
    -- graph = Graph(); told = []; place = 0
    intro ga dxa hga hdxa hnea
    refine ⟨ga, dxa, rfl, upd_same, fun H1 hG1 k1 => ⟨rfl, ?_⟩⟩
    have s1 : Same H H1 := fun b o e => by
      refine k1 b o ?_ (ne_of_none e hga)
      rw [upd_ne (ne_of_none e hga), upd_ne (ne_of_none e hdxa)]
      exact e
    refine ⟨Nat.zero_le _, fun tl htl => ?_⟩
    have s2 := same_upd (o := .lst []) htl
    have htl0 : H tl = none := by
      cases q : H tl with
      | none => rfl
      | some o => rw [s1 _ _ q] at htl; cases htl
    -- while place < len(calls)
    refine ⟨fun m σ H' => ∃ (done rest : List Gq05.Call) (g : Gq05.Graph) (v4 v5 v6 : Option V), cs = done ++ rest ∧ m = rest.length ∧ σ = [some (.ref a), some (.ref ga), some (.ref tl), some (.int ((flatC done).length : Int)), v4, v5, v6] ∧ KeepL H H' ∧ LamX.Tabs T H' ∧ GraphAt C H' ga g ∧ Ok g ∧ g.edges.length ≤ done.length ∧
      ∃ out, H' tl = some (.lst (outV out)) ∧ runC ⟨0, []⟩ cs = out ++ runC g rest,
      ⟨_, [], cs, ⟨0, []⟩, none, none, none, rfl, rfl, rfl, .of_ext (ext_same (s1.trans s2)), hT.ext (s1.trans s2), hG1.same s2, WB.ok_init, Nat.le_refl _, [], upd_same, rfl⟩, ?_⟩
    rintro m σ H2 ⟨done, rest, g, v4, v5, v6, rfl, rfl, rfl, kL, hT2, hg, ok, hed, out, htl2, hrun⟩
    refine ⟨_, rfl, _, rfl, a, _, rfl, .inl (kL.seq hS), _, _, rfl, rfl, _, rfl, ?_⟩
    have el : ((flatC (done ++ rest)).map V.int).length = (flatC done).length + (flatC rest).length := by
      rw [List.length_map, flat_app, List.length_append]
    cases rest with
    | nil =>
      refine no (by
        rw [decide_eq_true_eq, el]
        show ¬ ((flatC done).length : Int) < (((flatC done).length + 0 : Nat) : Int)
        omega) ?_
      refine ⟨_, rfl, ?_⟩
      refine k H2 tl ?_
      rw [hrun]
      show H2 tl = some (.lst (outV (out ++ [])))
      rw [List.append_nil]
      exact htl2
    | cons c rest =>
      have fl : (flatC (c :: rest)).length = 1 + (argsOf c).length + (flatC rest).length := by
        rw [flat_cons, List.length_append, flat1_len]
      refine yes (by
        rw [decide_eq_true_eq, el, fl]
        omega) ?_
      refine ⟨_, fun _ _ q => q, ?_⟩
      have at0 : ((flatC (done ++ c :: rest)).map V.int)[(flatC done).length]? = some (V.int (codeOf c : Int)) := by
        rw [flat_app, List.map_append, List.getElem?_append_right (by rw [List.length_map]; exact Nat.le_refl _), List.length_map, Nat.sub_self]
        rfl
      have cutE : cutV ((flatC (done ++ c :: rest)).map V.int) (some (((flatC done).length + 1 : Nat) : Int)) (some (((flatC done).length + 1 + (argsOf c).length : Nat) : Int)) = natsV (argsOf c) := by
        rw [cut_mid (by rw [el, fl]; omega), flat_app, List.map_append, ← List.drop_drop, List.drop_left' (by rw [List.length_map])]
        rw [flat_cons, List.map_append]
        show List.take _ (List.drop 1 ((V.int (codeOf c : Int) :: (WB.intsN (argsOf c)).map V.int) ++ _)) = _
        rw [List.cons_append, List.drop_one, List.tail_cons, List.take_left' (by unfold WB.intsN; rw [List.length_map, List.length_map])]
        unfold WB.intsN natsV
        rw [List.map_map]
        rfl
      -- call = calls[place]; behind = place + 1 + GIVEN_TOTALS[call]
      refine ⟨_, rfl, _, rfl, a, _, _, _, rfl, rfl, kL.seq hS, atI_nat at0, ?_⟩
      refine ⟨_, rfl, _, _, rfl, rfl, _, rfl, gt, _, _, _, rfl, rfl, hgT _, natsV_at (totals_at c), _, _, rfl, rfl, ?_⟩
      -- answer = answer_call(graph, call, calls[place + 1:behind])
      refine ⟨_, rfl, _, rfl, _, rfl, _, rfl, _, _, rfl, rfl, _, rfl, _, rfl, _, rfl, a, _, rfl, kL.seq hS, fun gl hgl => ?_⟩
      have eI : (((flatC done).length : Int) + 1) = (((flatC done).length + 1 : Nat) : Int) := by omega
      have eJ : (((flatC done).length : Int) + 1 + ((argsOf c).length : Int)) = (((flatC done).length + 1 + (argsOf c).length : Nat) : Int) := by omega
      have cE2 : cutV ((flatC (done ++ c :: rest)).map V.int) (some (((flatC done).length : Int) + 1)) (some (((flatC done).length : Int) + 1 + ((argsOf c).length : Int))) = natsV (argsOf c) := by
        rw [eJ, eI]
        exact cutE
      have sg := same_upd (o := .lst (natsV (argsOf c))) hgl
      have hle : (flatC done).length ≤ 1000 := by
        have := hfl
        rw [flat_app, List.length_append] at this
        omega
      have hdl : done.length ≤ 40 := by
        rw [List.length_append] at hlen
        omega
      rw [cE2]
      refine ⟨ga, gl, g, c, rfl, hg.same sg, ok, by omega, upd_same, hT2.ext sg, fun H3 p hg3 hp3 kL3 hT3 nlp => ?_⟩
      have kL23 : KeepL H2 H3 := fun b o e q => kL3 b o (sg _ _ e) q
      have htl3 := kL23.lst htl2
      have npt : p ≠ tl := fun z => by
        rw [z] at nlp
        exact nlp _ (sg _ _ htl2)
      have oks := WB.ok_step ok c
      have outlen : out.length + (1 + (Gq05.step g c).2.length) ≤ 10000000 := by
        have := hout
        rw [hrun] at this
        rw [List.length_append, show runC g (c :: rest) = ((Gq05.step g c).2.length : Int) :: ((Gq05.step g c).2 ++ runC (Gq05.step g c).1 rest) from rfl, List.length_cons, List.length_append] at this
        omega
      have oL : ∀ l : List Int, (outV l).length = l.length := fun l => by
        unfold outV
        rw [List.length_map]
      -- told.append(len(answer)); told.extend(answer); place = behind
      refine ⟨_, rfl, .inl ⟨rfl, _, SqL.of htl3⟩, _, rfl, p, _, rfl, .inl (SqL.of hp3), tl, _, _, rfl, rfl, htl3, (by rw [oL, sizeLine_eq]; omega), ?_⟩
      refine ⟨_, rfl, .inl ⟨rfl, _, SqL.of upd_same⟩, _, rfl, tl, p, _, _, rfl, rfl, upd_same, (upd_ne npt).trans hp3, (by rw [List.length_append, oL, oL, sizeLine_eq]; show out.length + 1 + _ ≤ _; omega), ?_⟩
      refine ⟨_, rfl, ?_⟩
      refine ⟨rest.length, by rw [List.length_cons]; omega, done ++ [c], rest, (Gq05.step g c).1, some (V.int (codeOf c : Int)), some (V.int (((flatC done).length : Int) + 1 + ((argsOf c).length : Int))), some (V.ref p), by rw [List.append_assoc]; rfl, rfl, ?_, fun b o e q => ?_, ?_, ?_, oks.1, ?_, out ++ (((Gq05.step g c).2.length : Int) :: (Gq05.step g c).2), ?_, ?_⟩
      · have e1 : ((flatC (done ++ [c])).length : Int) = ((flatC done).length : Int) + 1 + ((argsOf c).length : Int) := by
          rw [flat_app, List.length_append, flat_cons, List.length_append, flat1_len]
          show (((flatC done).length + (1 + (argsOf c).length + 0) : Nat) : Int) = _
          omega
        rw [e1]
        rfl
      · have nb : b ≠ tl := ne_of_none e htl0
        rw [upd_ne nb, upd_ne nb]
        exact kL23 b o (kL b o e q) q
      · exact tabs_upd (upd_same) (fun _ z => by cases z) (fun _ _ z => by cases z) (tabs_upd htl3 (fun _ z => by cases z) (fun _ _ z => by cases z) hT3)
      · obtain ⟨dxg, dg, g1, g2⟩ := hg3
        exact ⟨dxg, dg, by
          rw [upd_ne (ne_of g1 htl3 (by intro z; cases z)), upd_ne (ne_of g1 htl3 (by intro z; cases z))]
          exact g1, by
          rw [upd_ne (ne_of g2 htl3 (by intro z; cases z)), upd_ne (ne_of g2 htl3 (by intro z; cases z))]
          exact g2⟩
      · rw [List.length_append]
        have := oks.2
        show _ ≤ done.length + 1
        omega
      · rw [upd_same]
        unfold outV
        rw [List.map_append, List.map_cons, List.append_assoc, List.length_map]
        rfl
      · rw [hrun, List.append_assoc]
        rfl
end
end WF
end
section
set_option Elab.async false
set_option linter.all false
set_option maxRecDepth 100000
set_option maxHeartbeats 4000000
namespace WF
open PySem PySem.Spec PyProof.Rows L2
open WB (Ok codeOf argsOf)
abbrev sCall : Stmt := top 55
/-! ### answer_call -/
/-- a def that stands by its name -/
structure FnF (P : Program) (w : World) (K : PySem.W.Frag) (mg : Str → Option Value) (base : Heap) (nm : Str) (ps : List Str) (n : Nat) (sp : Sp) : Prop where
  ex : ∃ f fd, mg nm = some (.ref f) ∧ PySem.W.keepIn K (.ref f) = true ∧ Binds K fd ps [] ∧ FnOk P w K mg base CX0 n f fd ps sp
theorem neI {i j : Int} (h : i ≠ j) : ¬ decide (V.int i = V.int j) = true := by
  rw [decide_eq_true_eq]
  intro q
  injection q with q
  exact h q
theorem eqI (i : Int) : decide (V.int i = V.int i) = true := decide_eq_true rfl
/-- the numbers that stand for the calls -/
structure Nums (mg : Str → Option Value) : Prop where
  n0 : ∃ t, mg "NODE" = some (.int 0 t)
  n1 : ∃ t, mg "EDGE" = some (.int 1 t)
  n2 : ∃ t, mg "CUT" = some (.int 2 t)
  n3 : ∃ t, mg "FAR" = some (.int 3 t)
  n4 : ∃ t, mg "WAY" = some (.int 4 t)
  n5 : ∃ t, mg "BETWEEN" = some (.int 5 t)
  n6 : ∃ t, mg "SHARE" = some (.int 6 t)
  n7 : ∃ t, mg "RANKING" = some (.int 7 t)
  n8 : ∃ t, mg "NEAR" = some (.int 8 t)
  n9 : ∃ t, mg "NEEDED" = some (.int 9 t)
  n10 : ∃ t, mg "HURT" = some (.int 10 t)
section
variable {P : Program} {w : World} {K : PySem.W.Frag} {mg : Str → Option Value} {base : Heap} {C : Addr} {T : List (Addr × Str)}
theorem scCall : FnScope ["graph", "call", "given"] ["graph", "call", "given"] (defScope sCall) := ⟨rfl, rfl, rfl, by decide +kernel, rfl, by decide +kernel, by decide +kernel⟩
theorem ok_call {f : Addr} {fd : FuncData} (F : Fun K "answer_call" "answer_call" sCall f fd) (NM : Nums mg)
    (M0 : FnF P w K mg base "node" ["graph"] 1 (spStep C [] .node))
    (M1 : FnF P w K mg base "edge" ["graph", "x", "y", "length"] 3 (spEdge C))
    (M2 : FnF P w K mg base "cut" ["graph", "x", "y"] 1 (spCut C))
    (M3 : FnF P w K mg base "far" ["graph", "x", "y"] 7 (spFar C T))
    (M4 : FnF P w K mg base "way" ["graph", "x", "y", "k"] 7 (spWay C T))
    (M5 : FnF P w K mg base "between" ["graph", "v"] 7 (spBetween C T))
    (M6 : FnF P w K mg base "share" ["graph", "x", "y"] 7 (spShare C T))
    (M7 : FnF P w K mg base "ranking" ["graph", "n"] 7 (spRank C T))
    (M8 : FnF P w K mg base "near" ["graph", "x"] 4 (spNear C T))
    (M9 : FnF P w K mg base "needed" ["graph", "x", "y"] 7 (spNeed C T))
    (M10 : FnF P w K mg base "hurt" ["graph", "v"] 8 (spHurt C T))
    (M11 : FnF P w K mg base "middle" ["graph"] 4 (spMid C T))
    : FnOk P w K mg base CX0 9 f fd ["graph", "call", "given"] (spCall C T) := by
  obtain ⟨f0, fd0, m0, k0, b0, G0⟩ := M0.ex
  obtain ⟨f1, fd1, m1, k1, b1, G1⟩ := M1.ex
  obtain ⟨f2, fd2, m2, k2, b2, G2⟩ := M2.ex
  obtain ⟨f3, fd3, m3, k3, b3, G3⟩ := M3.ex
  obtain ⟨f4, fd4, m4, k4, b4, G4⟩ := M4.ex
  obtain ⟨f5, fd5, m5, k5, b5, G5⟩ := M5.ex
  obtain ⟨f6, fd6, m6, k6, b6, G6⟩ := M6.ex
  obtain ⟨f7, fd7, m7, k7, b7, G7⟩ := M7.ex
  obtain ⟨f8, fd8, m8, k8, b8, G8⟩ := M8.ex
  obtain ⟨f9, fd9, m9, k9, b9, G9⟩ := M9.ex
  obtain ⟨f10, fd10, m10, k10, b10, G10⟩ := M10.ex
  obtain ⟨f11, fd11, m11, k11, b11, G11⟩ := M11.ex
  obtain ⟨t0, c0⟩ := NM.n0
  obtain ⟨t1, c1⟩ := NM.n1
  obtain ⟨t2, c2⟩ := NM.n2
  obtain ⟨t3, c3⟩ := NM.n3
  obtain ⟨t4, c4⟩ := NM.n4
  obtain ⟨t5, c5⟩ := NM.n5
  obtain ⟨t6, c6⟩ := NM.n6
  obtain ⟨t7, c7⟩ := NM.n7
  obtain ⟨t8, c8⟩ := NM.n8
  obtain ⟨t9, c9⟩ := NM.n9
  obtain ⟨t10, c10⟩ := NM.n10
  refine F.ok scCall (fun vs H Q E h => ?_) (fun cdv A outer sh H vs Q E hr h => ?_)
  · obtain ⟨a, gl, g, c, rfl, _⟩ := h
    rfl
  · obtain ⟨a, gl, g, c, rfl, hg, ok, hed, hgl, hT, k⟩ := h
    have hr1 : Room 1 _ := hr.mono (by decide)
    have hr3 : Room 3 _ := hr.mono (by decide)
    have hr4 : Room 4 _ := hr.mono (by decide)
    have hr7 : Room 7 _ := hr.mono (by decide)
    have hr8 : Room 8 _ := hr
    refine ⟨_, (pss_cons (ps_if (pt_cmpR op_eq (pv 1) (pe_glob rfl c0 ri) (nomark _)) (pss_one (ps_ret (pe_call G0 hr1 rfl m0 k0 b0 .nil pass0 (pa_cons (pv 0) pa_nil)))) pss_nil)
      (pss_cons (ps_if (pt_cmpR op_eq (pv 1) (pe_glob rfl c1 ri) (nomark _)) (pss_one (ps_ret (pe_call G1 hr3 rfl m1 k1 b1 .nil pass0 (pa_cons (pv 0) (pa_cons (pe_ix ix_list (pv 2) pe_int (fun _ _ => rfl)) (pa_cons (pe_ix ix_list (pv 2) pe_int (fun _ _ => rfl)) (pa_cons (pe_ix ix_list (pv 2) pe_int (fun _ _ => rfl)) pa_nil))))))) pss_nil)
      (pss_cons (ps_if (pt_cmpR op_eq (pv 1) (pe_glob rfl c2 ri) (nomark _)) (pss_one (ps_ret (pe_call G2 hr1 rfl m2 k2 b2 .nil pass0 (pa_cons (pv 0) (pa_cons (pe_ix ix_list (pv 2) pe_int (fun _ _ => rfl)) (pa_cons (pe_ix ix_list (pv 2) pe_int (fun _ _ => rfl)) pa_nil)))))) pss_nil)
      (pss_cons (ps_if (pt_cmpR op_eq (pv 1) (pe_glob rfl c3 ri) (nomark _)) (pss_one (ps_ret (pe_call G3 hr7 rfl m3 k3 b3 .nil pass0 (pa_cons (pv 0) (pa_cons (pe_ix ix_list (pv 2) pe_int (fun _ _ => rfl)) (pa_cons (pe_ix ix_list (pv 2) pe_int (fun _ _ => rfl)) pa_nil)))))) pss_nil)
      (pss_cons (ps_if (pt_cmpR op_eq (pv 1) (pe_glob rfl c4 ri) (nomark _)) (pss_one (ps_ret (pe_call G4 hr7 rfl m4 k4 b4 .nil pass0 (pa_cons (pv 0) (pa_cons (pe_ix ix_list (pv 2) pe_int (fun _ _ => rfl)) (pa_cons (pe_ix ix_list (pv 2) pe_int (fun _ _ => rfl)) (pa_cons (pe_ix ix_list (pv 2) pe_int (fun _ _ => rfl)) pa_nil))))))) pss_nil)
      (pss_cons (ps_if (pt_cmpR op_eq (pv 1) (pe_glob rfl c5 ri) (nomark _)) (pss_one (ps_ret (pe_call G5 hr7 rfl m5 k5 b5 .nil pass0 (pa_cons (pv 0) (pa_cons (pe_ix ix_list (pv 2) pe_int (fun _ _ => rfl)) pa_nil))))) pss_nil)
      (pss_cons (ps_if (pt_cmpR op_eq (pv 1) (pe_glob rfl c6 ri) (nomark _)) (pss_one (ps_ret (pe_call G6 hr7 rfl m6 k6 b6 .nil pass0 (pa_cons (pv 0) (pa_cons (pe_ix ix_list (pv 2) pe_int (fun _ _ => rfl)) (pa_cons (pe_ix ix_list (pv 2) pe_int (fun _ _ => rfl)) pa_nil)))))) pss_nil)
      (pss_cons (ps_if (pt_cmpR op_eq (pv 1) (pe_glob rfl c7 ri) (nomark _)) (pss_one (ps_ret (pe_call G7 hr7 rfl m7 k7 b7 .nil pass0 (pa_cons (pv 0) (pa_cons (pe_ix ix_list (pv 2) pe_int (fun _ _ => rfl)) pa_nil))))) pss_nil)
      (pss_cons (ps_if (pt_cmpR op_eq (pv 1) (pe_glob rfl c8 ri) (nomark _)) (pss_one (ps_ret (pe_call G8 hr4 rfl m8 k8 b8 .nil pass0 (pa_cons (pv 0) (pa_cons (pe_ix ix_list (pv 2) pe_int (fun _ _ => rfl)) pa_nil))))) pss_nil)
      (pss_cons (ps_if (pt_cmpR op_eq (pv 1) (pe_glob rfl c9 ri) (nomark _)) (pss_one (ps_ret (pe_call G9 hr7 rfl m9 k9 b9 .nil pass0 (pa_cons (pv 0) (pa_cons (pe_ix ix_list (pv 2) pe_int (fun _ _ => rfl)) (pa_cons (pe_ix ix_list (pv 2) pe_int (fun _ _ => rfl)) pa_nil)))))) pss_nil)
      (pss_cons (ps_if (pt_cmpR op_eq (pv 1) (pe_glob rfl c10 ri) (nomark _)) (pss_one (ps_ret (pe_call G10 hr8 rfl m10 k10 b10 .nil pass0 (pa_cons (pv 0) (pa_cons (pe_ix ix_list (pv 2) pe_int (fun _ _ => rfl)) pa_nil))))) pss_nil)
      (pss_one (ps_ret (pe_call G11 hr4 rfl m11 k11 b11 .nil pass0 (pa_cons (pv 0) pa_nil))))))))))))))), ?_⟩
    have ask : ∀ {vs' : List V}, (Gq05.step g c).1 = g → vs' = natsV (argsOf c) → spAsk C T vs' c (.ref a :: vs') H Q E := fun {vs'} h1 h2 => by
      refine ⟨a, g, rfl, hg, ok, hT, fun H' p eN T' hp nl => ?_⟩
      exact k H' p (by rw [h1]; exact hg.ext eN) hp (.of_ext eN) T' nl
    have chg : ∀ {vs' : List V}, vs' = natsV (argsOf c) → spStep C vs' c (.ref a :: vs') H Q E := fun {vs'} h2 => by
      refine ⟨a, g, rfl, hg, ok, hed, fun H' p hg' hp kp nl => ?_⟩
      exact k H' p hg' hp (.of_keep kp) (kp.tabs hT) nl
    have hL := SqL.of (K := K) hgl
    cases c with
    | node =>
      refine ⟨_, rfl, rfl, _, rfl, yes (eqI 0) ?_⟩
      exact ⟨_, rfl, chg rfl⟩
    | edge x y l =>
      refine ⟨_, rfl, rfl, _, rfl, no (neI (show (((1 : Nat) : Int)) ≠ 0 by decide)) ?_⟩
      refine ⟨_, rfl, rfl, _, rfl, yes (eqI 1) ?_⟩
      exact ⟨_, rfl, _, rfl, gl, _, _, _, rfl, rfl, hL, atI_nat (j := 0) rfl, _, rfl, gl, _, _, _, rfl, rfl, hL, atI_nat (j := 1) rfl, _, rfl, gl, _, _, _, rfl, rfl, hL, atI_nat (j := 2) rfl, x, y, l, chg rfl⟩
    | cut x y =>
      refine ⟨_, rfl, rfl, _, rfl, no (neI (show (((2 : Nat) : Int)) ≠ 0 by decide)) ?_⟩
      refine ⟨_, rfl, rfl, _, rfl, no (neI (show (((2 : Nat) : Int)) ≠ 1 by decide)) ?_⟩
      refine ⟨_, rfl, rfl, _, rfl, yes (eqI 2) ?_⟩
      exact ⟨_, rfl, _, rfl, gl, _, _, _, rfl, rfl, hL, atI_nat (j := 0) rfl, _, rfl, gl, _, _, _, rfl, rfl, hL, atI_nat (j := 1) rfl, x, y, chg rfl⟩
    | far x y =>
      refine ⟨_, rfl, rfl, _, rfl, no (neI (show (((3 : Nat) : Int)) ≠ 0 by decide)) ?_⟩
      refine ⟨_, rfl, rfl, _, rfl, no (neI (show (((3 : Nat) : Int)) ≠ 1 by decide)) ?_⟩
      refine ⟨_, rfl, rfl, _, rfl, no (neI (show (((3 : Nat) : Int)) ≠ 2 by decide)) ?_⟩
      refine ⟨_, rfl, rfl, _, rfl, yes (eqI 3) ?_⟩
      exact ⟨_, rfl, _, rfl, gl, _, _, _, rfl, rfl, hL, atI_nat (j := 0) rfl, _, rfl, gl, _, _, _, rfl, rfl, hL, atI_nat (j := 1) rfl, x, y, ask rfl rfl⟩
    | way x y n =>
      refine ⟨_, rfl, rfl, _, rfl, no (neI (show (((4 : Nat) : Int)) ≠ 0 by decide)) ?_⟩
      refine ⟨_, rfl, rfl, _, rfl, no (neI (show (((4 : Nat) : Int)) ≠ 1 by decide)) ?_⟩
      refine ⟨_, rfl, rfl, _, rfl, no (neI (show (((4 : Nat) : Int)) ≠ 2 by decide)) ?_⟩
      refine ⟨_, rfl, rfl, _, rfl, no (neI (show (((4 : Nat) : Int)) ≠ 3 by decide)) ?_⟩
      refine ⟨_, rfl, rfl, _, rfl, yes (eqI 4) ?_⟩
      exact ⟨_, rfl, _, rfl, gl, _, _, _, rfl, rfl, hL, atI_nat (j := 0) rfl, _, rfl, gl, _, _, _, rfl, rfl, hL, atI_nat (j := 1) rfl, _, rfl, gl, _, _, _, rfl, rfl, hL, atI_nat (j := 2) rfl, x, y, n, ask rfl rfl⟩
    | between v =>
      refine ⟨_, rfl, rfl, _, rfl, no (neI (show (((5 : Nat) : Int)) ≠ 0 by decide)) ?_⟩
      refine ⟨_, rfl, rfl, _, rfl, no (neI (show (((5 : Nat) : Int)) ≠ 1 by decide)) ?_⟩
      refine ⟨_, rfl, rfl, _, rfl, no (neI (show (((5 : Nat) : Int)) ≠ 2 by decide)) ?_⟩
      refine ⟨_, rfl, rfl, _, rfl, no (neI (show (((5 : Nat) : Int)) ≠ 3 by decide)) ?_⟩
      refine ⟨_, rfl, rfl, _, rfl, no (neI (show (((5 : Nat) : Int)) ≠ 4 by decide)) ?_⟩
      refine ⟨_, rfl, rfl, _, rfl, yes (eqI 5) ?_⟩
      exact ⟨_, rfl, _, rfl, gl, _, _, _, rfl, rfl, hL, atI_nat (j := 0) rfl, v, ask rfl rfl⟩
    | edgeShare x y =>
      refine ⟨_, rfl, rfl, _, rfl, no (neI (show (((6 : Nat) : Int)) ≠ 0 by decide)) ?_⟩
      refine ⟨_, rfl, rfl, _, rfl, no (neI (show (((6 : Nat) : Int)) ≠ 1 by decide)) ?_⟩
      refine ⟨_, rfl, rfl, _, rfl, no (neI (show (((6 : Nat) : Int)) ≠ 2 by decide)) ?_⟩
      refine ⟨_, rfl, rfl, _, rfl, no (neI (show (((6 : Nat) : Int)) ≠ 3 by decide)) ?_⟩
      refine ⟨_, rfl, rfl, _, rfl, no (neI (show (((6 : Nat) : Int)) ≠ 4 by decide)) ?_⟩
      refine ⟨_, rfl, rfl, _, rfl, no (neI (show (((6 : Nat) : Int)) ≠ 5 by decide)) ?_⟩
      refine ⟨_, rfl, rfl, _, rfl, yes (eqI 6) ?_⟩
      exact ⟨_, rfl, _, rfl, gl, _, _, _, rfl, rfl, hL, atI_nat (j := 0) rfl, _, rfl, gl, _, _, _, rfl, rfl, hL, atI_nat (j := 1) rfl, x, y, ask rfl rfl⟩
    | ranking n =>
      refine ⟨_, rfl, rfl, _, rfl, no (neI (show (((7 : Nat) : Int)) ≠ 0 by decide)) ?_⟩
      refine ⟨_, rfl, rfl, _, rfl, no (neI (show (((7 : Nat) : Int)) ≠ 1 by decide)) ?_⟩
      refine ⟨_, rfl, rfl, _, rfl, no (neI (show (((7 : Nat) : Int)) ≠ 2 by decide)) ?_⟩
      refine ⟨_, rfl, rfl, _, rfl, no (neI (show (((7 : Nat) : Int)) ≠ 3 by decide)) ?_⟩
      refine ⟨_, rfl, rfl, _, rfl, no (neI (show (((7 : Nat) : Int)) ≠ 4 by decide)) ?_⟩
      refine ⟨_, rfl, rfl, _, rfl, no (neI (show (((7 : Nat) : Int)) ≠ 5 by decide)) ?_⟩
      refine ⟨_, rfl, rfl, _, rfl, no (neI (show (((7 : Nat) : Int)) ≠ 6 by decide)) ?_⟩
      refine ⟨_, rfl, rfl, _, rfl, yes (eqI 7) ?_⟩
      exact ⟨_, rfl, _, rfl, gl, _, _, _, rfl, rfl, hL, atI_nat (j := 0) rfl, n, ask rfl rfl⟩
    | near x =>
      refine ⟨_, rfl, rfl, _, rfl, no (neI (show (((8 : Nat) : Int)) ≠ 0 by decide)) ?_⟩
      refine ⟨_, rfl, rfl, _, rfl, no (neI (show (((8 : Nat) : Int)) ≠ 1 by decide)) ?_⟩
      refine ⟨_, rfl, rfl, _, rfl, no (neI (show (((8 : Nat) : Int)) ≠ 2 by decide)) ?_⟩
      refine ⟨_, rfl, rfl, _, rfl, no (neI (show (((8 : Nat) : Int)) ≠ 3 by decide)) ?_⟩
      refine ⟨_, rfl, rfl, _, rfl, no (neI (show (((8 : Nat) : Int)) ≠ 4 by decide)) ?_⟩
      refine ⟨_, rfl, rfl, _, rfl, no (neI (show (((8 : Nat) : Int)) ≠ 5 by decide)) ?_⟩
      refine ⟨_, rfl, rfl, _, rfl, no (neI (show (((8 : Nat) : Int)) ≠ 6 by decide)) ?_⟩
      refine ⟨_, rfl, rfl, _, rfl, no (neI (show (((8 : Nat) : Int)) ≠ 7 by decide)) ?_⟩
      refine ⟨_, rfl, rfl, _, rfl, yes (eqI 8) ?_⟩
      exact ⟨_, rfl, _, rfl, gl, _, _, _, rfl, rfl, hL, atI_nat (j := 0) rfl, x, ask rfl rfl⟩
    | needed x y =>
      refine ⟨_, rfl, rfl, _, rfl, no (neI (show (((9 : Nat) : Int)) ≠ 0 by decide)) ?_⟩
      refine ⟨_, rfl, rfl, _, rfl, no (neI (show (((9 : Nat) : Int)) ≠ 1 by decide)) ?_⟩
      refine ⟨_, rfl, rfl, _, rfl, no (neI (show (((9 : Nat) : Int)) ≠ 2 by decide)) ?_⟩
      refine ⟨_, rfl, rfl, _, rfl, no (neI (show (((9 : Nat) : Int)) ≠ 3 by decide)) ?_⟩
      refine ⟨_, rfl, rfl, _, rfl, no (neI (show (((9 : Nat) : Int)) ≠ 4 by decide)) ?_⟩
      refine ⟨_, rfl, rfl, _, rfl, no (neI (show (((9 : Nat) : Int)) ≠ 5 by decide)) ?_⟩
      refine ⟨_, rfl, rfl, _, rfl, no (neI (show (((9 : Nat) : Int)) ≠ 6 by decide)) ?_⟩
      refine ⟨_, rfl, rfl, _, rfl, no (neI (show (((9 : Nat) : Int)) ≠ 7 by decide)) ?_⟩
      refine ⟨_, rfl, rfl, _, rfl, no (neI (show (((9 : Nat) : Int)) ≠ 8 by decide)) ?_⟩
      refine ⟨_, rfl, rfl, _, rfl, yes (eqI 9) ?_⟩
      exact ⟨_, rfl, _, rfl, gl, _, _, _, rfl, rfl, hL, atI_nat (j := 0) rfl, _, rfl, gl, _, _, _, rfl, rfl, hL, atI_nat (j := 1) rfl, x, y, ask rfl rfl⟩
    | hurt v =>
      refine ⟨_, rfl, rfl, _, rfl, no (neI (show (((10 : Nat) : Int)) ≠ 0 by decide)) ?_⟩
      refine ⟨_, rfl, rfl, _, rfl, no (neI (show (((10 : Nat) : Int)) ≠ 1 by decide)) ?_⟩
      refine ⟨_, rfl, rfl, _, rfl, no (neI (show (((10 : Nat) : Int)) ≠ 2 by decide)) ?_⟩
      refine ⟨_, rfl, rfl, _, rfl, no (neI (show (((10 : Nat) : Int)) ≠ 3 by decide)) ?_⟩
      refine ⟨_, rfl, rfl, _, rfl, no (neI (show (((10 : Nat) : Int)) ≠ 4 by decide)) ?_⟩
      refine ⟨_, rfl, rfl, _, rfl, no (neI (show (((10 : Nat) : Int)) ≠ 5 by decide)) ?_⟩
      refine ⟨_, rfl, rfl, _, rfl, no (neI (show (((10 : Nat) : Int)) ≠ 6 by decide)) ?_⟩
      refine ⟨_, rfl, rfl, _, rfl, no (neI (show (((10 : Nat) : Int)) ≠ 7 by decide)) ?_⟩
      refine ⟨_, rfl, rfl, _, rfl, no (neI (show (((10 : Nat) : Int)) ≠ 8 by decide)) ?_⟩
      refine ⟨_, rfl, rfl, _, rfl, no (neI (show (((10 : Nat) : Int)) ≠ 9 by decide)) ?_⟩
      refine ⟨_, rfl, rfl, _, rfl, yes (eqI 10) ?_⟩
      exact ⟨_, rfl, _, rfl, gl, _, _, _, rfl, rfl, hL, atI_nat (j := 0) rfl, v, ask rfl rfl⟩
    | middle =>
      refine ⟨_, rfl, rfl, _, rfl, no (neI (show (((11 : Nat) : Int)) ≠ 0 by decide)) ?_⟩
      refine ⟨_, rfl, rfl, _, rfl, no (neI (show (((11 : Nat) : Int)) ≠ 1 by decide)) ?_⟩
      refine ⟨_, rfl, rfl, _, rfl, no (neI (show (((11 : Nat) : Int)) ≠ 2 by decide)) ?_⟩
      refine ⟨_, rfl, rfl, _, rfl, no (neI (show (((11 : Nat) : Int)) ≠ 3 by decide)) ?_⟩
      refine ⟨_, rfl, rfl, _, rfl, no (neI (show (((11 : Nat) : Int)) ≠ 4 by decide)) ?_⟩
      refine ⟨_, rfl, rfl, _, rfl, no (neI (show (((11 : Nat) : Int)) ≠ 5 by decide)) ?_⟩
      refine ⟨_, rfl, rfl, _, rfl, no (neI (show (((11 : Nat) : Int)) ≠ 6 by decide)) ?_⟩
      refine ⟨_, rfl, rfl, _, rfl, no (neI (show (((11 : Nat) : Int)) ≠ 7 by decide)) ?_⟩
      refine ⟨_, rfl, rfl, _, rfl, no (neI (show (((11 : Nat) : Int)) ≠ 8 by decide)) ?_⟩
      refine ⟨_, rfl, rfl, _, rfl, no (neI (show (((11 : Nat) : Int)) ≠ 9 by decide)) ?_⟩
      refine ⟨_, rfl, rfl, _, rfl, no (neI (show (((11 : Nat) : Int)) ≠ 10 by decide)) ?_⟩
      exact ⟨_, rfl, ask rfl rfl⟩
end
end WF
end
section
set_option Elab.async false
set_option linter.all false
set_option maxRecDepth 100000
set_option maxHeartbeats 4000000
namespace WF
open PySem PySem.Spec PyProof.Rows L2
/-! ### what the top has written -/
theorem all_mk {P : Program} {w : World} {K : PySem.W.Frag} {h : Heap} {mg : Str → Option Value} {fa CG CS gt c1 c2 P1 P2 f_node f_edge f_may_be_edge f_cut f_lengths_from f_go_edge f_totals_from f_nodes_before f_far f_way f_numbered_way f_near f_lengths_to_others f_middle f_needed f_hurt f_hurt_pairs f_fraction f_greatest_divisor f_together f_common_below f_between f_lies_between f_part f_share f_ranking f_greatest_first f_answers f_answer_call f_Graph_init f_Graph_nodes f_Graph_nodes_but f_Graph_has_node f_Shortest_init f_Shortest_total f_Shortest_total_by f_Shortest_total_over f_Shortest_all_by f_Shortest_steps f_Shortest_is_step : Addr} (X : K.In h) (G : h.Ns mainGlobals mg) (hfa : mg "answers" = some (.ref fa))
    {od_node an_node : Option Addr} {sl_node : Array (Option Value)} {oc_node kV_node dc_node pm_node ct_node cd_node : Value}
    {od_edge an_edge : Option Addr} {sl_edge : Array (Option Value)} {oc_edge kV_edge dc_edge pm_edge ct_edge cd_edge : Value}
    {od_may_be_edge an_may_be_edge : Option Addr} {sl_may_be_edge : Array (Option Value)} {oc_may_be_edge kV_may_be_edge dc_may_be_edge pm_may_be_edge ct_may_be_edge cd_may_be_edge : Value}
    {od_cut an_cut : Option Addr} {sl_cut : Array (Option Value)} {oc_cut kV_cut dc_cut pm_cut ct_cut cd_cut : Value}
    {od_lengths_from an_lengths_from : Option Addr} {sl_lengths_from : Array (Option Value)} {oc_lengths_from kV_lengths_from dc_lengths_from pm_lengths_from ct_lengths_from cd_lengths_from : Value}
    {od_go_edge an_go_edge : Option Addr} {sl_go_edge : Array (Option Value)} {oc_go_edge kV_go_edge dc_go_edge pm_go_edge ct_go_edge cd_go_edge : Value}
    {od_totals_from an_totals_from : Option Addr} {sl_totals_from : Array (Option Value)} {oc_totals_from kV_totals_from dc_totals_from pm_totals_from ct_totals_from : Value}
    {od_nodes_before an_nodes_before : Option Addr} {sl_nodes_before : Array (Option Value)} {oc_nodes_before kV_nodes_before dc_nodes_before pm_nodes_before ct_nodes_before cd_nodes_before : Value}
    {od_far an_far : Option Addr} {sl_far : Array (Option Value)} {oc_far kV_far dc_far pm_far ct_far cd_far : Value}
    {od_way an_way : Option Addr} {sl_way : Array (Option Value)} {oc_way kV_way dc_way pm_way ct_way cd_way : Value}
    {od_numbered_way an_numbered_way : Option Addr} {sl_numbered_way : Array (Option Value)} {oc_numbered_way kV_numbered_way dc_numbered_way pm_numbered_way ct_numbered_way cd_numbered_way : Value}
    {od_near an_near : Option Addr} {sl_near : Array (Option Value)} {oc_near kV_near dc_near pm_near ct_near cd_near : Value}
    {od_lengths_to_others an_lengths_to_others : Option Addr} {sl_lengths_to_others : Array (Option Value)} {oc_lengths_to_others kV_lengths_to_others dc_lengths_to_others pm_lengths_to_others ct_lengths_to_others cd_lengths_to_others : Value}
    {od_middle an_middle : Option Addr} {sl_middle : Array (Option Value)} {oc_middle kV_middle dc_middle pm_middle ct_middle cd_middle : Value}
    {od_needed an_needed : Option Addr} {sl_needed : Array (Option Value)} {oc_needed kV_needed dc_needed pm_needed ct_needed cd_needed : Value}
    {od_hurt an_hurt : Option Addr} {sl_hurt : Array (Option Value)} {oc_hurt kV_hurt dc_hurt pm_hurt ct_hurt cd_hurt : Value}
    {od_hurt_pairs an_hurt_pairs : Option Addr} {sl_hurt_pairs : Array (Option Value)} {oc_hurt_pairs kV_hurt_pairs dc_hurt_pairs pm_hurt_pairs ct_hurt_pairs cd_hurt_pairs : Value}
    {od_fraction an_fraction : Option Addr} {sl_fraction : Array (Option Value)} {oc_fraction kV_fraction dc_fraction pm_fraction ct_fraction cd_fraction : Value}
    {od_greatest_divisor an_greatest_divisor : Option Addr} {sl_greatest_divisor : Array (Option Value)} {oc_greatest_divisor kV_greatest_divisor dc_greatest_divisor pm_greatest_divisor ct_greatest_divisor cd_greatest_divisor : Value}
    {od_together an_together : Option Addr} {sl_together : Array (Option Value)} {oc_together kV_together dc_together pm_together ct_together cd_together : Value}
    {od_common_below an_common_below : Option Addr} {sl_common_below : Array (Option Value)} {oc_common_below kV_common_below dc_common_below pm_common_below ct_common_below cd_common_below : Value}
    {od_between an_between : Option Addr} {sl_between : Array (Option Value)} {oc_between kV_between dc_between pm_between ct_between cd_between : Value}
    {od_lies_between an_lies_between : Option Addr} {sl_lies_between : Array (Option Value)} {oc_lies_between kV_lies_between dc_lies_between pm_lies_between ct_lies_between cd_lies_between : Value}
    {od_part an_part : Option Addr} {sl_part : Array (Option Value)} {oc_part kV_part dc_part pm_part ct_part cd_part : Value}
    {od_share an_share : Option Addr} {sl_share : Array (Option Value)} {oc_share kV_share dc_share pm_share ct_share cd_share : Value}
    {od_ranking an_ranking : Option Addr} {sl_ranking : Array (Option Value)} {oc_ranking kV_ranking dc_ranking pm_ranking ct_ranking cd_ranking : Value}
    {od_greatest_first an_greatest_first : Option Addr} {sl_greatest_first : Array (Option Value)} {oc_greatest_first kV_greatest_first dc_greatest_first pm_greatest_first ct_greatest_first : Value}
    {od_answers an_answers : Option Addr} {sl_answers : Array (Option Value)} {oc_answers kV_answers dc_answers pm_answers ct_answers cd_answers : Value}
    {od_answer_call an_answer_call : Option Addr} {sl_answer_call : Array (Option Value)} {oc_answer_call kV_answer_call dc_answer_call pm_answer_call ct_answer_call cd_answer_call : Value}
    {od_Graph_init an_Graph_init : Option Addr} {sl_Graph_init : Array (Option Value)} {oc_Graph_init kV_Graph_init dc_Graph_init pm_Graph_init ct_Graph_init cd_Graph_init : Value}
    {od_Graph_nodes an_Graph_nodes : Option Addr} {sl_Graph_nodes : Array (Option Value)} {oc_Graph_nodes kV_Graph_nodes dc_Graph_nodes pm_Graph_nodes ct_Graph_nodes cd_Graph_nodes : Value}
    {od_Graph_nodes_but an_Graph_nodes_but : Option Addr} {sl_Graph_nodes_but : Array (Option Value)} {oc_Graph_nodes_but kV_Graph_nodes_but dc_Graph_nodes_but pm_Graph_nodes_but ct_Graph_nodes_but cd_Graph_nodes_but : Value}
    {od_Graph_has_node an_Graph_has_node : Option Addr} {sl_Graph_has_node : Array (Option Value)} {oc_Graph_has_node kV_Graph_has_node dc_Graph_has_node pm_Graph_has_node ct_Graph_has_node cd_Graph_has_node : Value}
    {od_Shortest_init an_Shortest_init : Option Addr} {sl_Shortest_init : Array (Option Value)} {oc_Shortest_init kV_Shortest_init dc_Shortest_init pm_Shortest_init ct_Shortest_init cd_Shortest_init : Value}
    {od_Shortest_total an_Shortest_total : Option Addr} {sl_Shortest_total : Array (Option Value)} {oc_Shortest_total kV_Shortest_total dc_Shortest_total pm_Shortest_total ct_Shortest_total cd_Shortest_total : Value}
    {od_Shortest_total_by an_Shortest_total_by : Option Addr} {sl_Shortest_total_by : Array (Option Value)} {oc_Shortest_total_by kV_Shortest_total_by dc_Shortest_total_by pm_Shortest_total_by ct_Shortest_total_by cd_Shortest_total_by : Value}
    {od_Shortest_total_over an_Shortest_total_over : Option Addr} {sl_Shortest_total_over : Array (Option Value)} {oc_Shortest_total_over kV_Shortest_total_over dc_Shortest_total_over pm_Shortest_total_over ct_Shortest_total_over cd_Shortest_total_over : Value}
    {od_Shortest_all_by an_Shortest_all_by : Option Addr} {sl_Shortest_all_by : Array (Option Value)} {oc_Shortest_all_by kV_Shortest_all_by dc_Shortest_all_by pm_Shortest_all_by ct_Shortest_all_by cd_Shortest_all_by : Value}
    {od_Shortest_steps an_Shortest_steps : Option Addr} {sl_Shortest_steps : Array (Option Value)} {oc_Shortest_steps kV_Shortest_steps dc_Shortest_steps pm_Shortest_steps ct_Shortest_steps cd_Shortest_steps : Value}
    {od_Shortest_is_step an_Shortest_is_step : Option Addr} {sl_Shortest_is_step : Array (Option Value)} {oc_Shortest_is_step kV_Shortest_is_step dc_Shortest_is_step pm_Shortest_is_step ct_Shortest_is_step cd_Shortest_is_step : Value}
    (a_node : PySem.W.nsIn K mainGlobals "node" = some (some (.ref f_node)))
    (l_node : K.lookup f_node = some ⟨oc_node, od_node, .func (PySem.W.fnOf "node" "node" (defArgs sNode) (defBody sNode) (defScope sNode) .none kV_node dc_node pm_node an_node cd_node ct_node), sl_node⟩) (c_node : PySem.W.codeIn K cd_node "node" = true) (k_node : PySem.W.keepIn K (.ref f_node) = true)
    (a_edge : PySem.W.nsIn K mainGlobals "edge" = some (some (.ref f_edge)))
    (l_edge : K.lookup f_edge = some ⟨oc_edge, od_edge, .func (PySem.W.fnOf "edge" "edge" (defArgs sEdge) (defBody sEdge) (defScope sEdge) .none kV_edge dc_edge pm_edge an_edge cd_edge ct_edge), sl_edge⟩) (c_edge : PySem.W.codeIn K cd_edge "edge" = true) (k_edge : PySem.W.keepIn K (.ref f_edge) = true)
    (a_may_be_edge : PySem.W.nsIn K mainGlobals "may_be_edge" = some (some (.ref f_may_be_edge)))
    (l_may_be_edge : K.lookup f_may_be_edge = some ⟨oc_may_be_edge, od_may_be_edge, .func (PySem.W.fnOf "may_be_edge" "may_be_edge" (defArgs sMay) (defBody sMay) (defScope sMay) .none kV_may_be_edge dc_may_be_edge pm_may_be_edge an_may_be_edge cd_may_be_edge ct_may_be_edge), sl_may_be_edge⟩) (c_may_be_edge : PySem.W.codeIn K cd_may_be_edge "may_be_edge" = true) (k_may_be_edge : PySem.W.keepIn K (.ref f_may_be_edge) = true)
    (a_cut : PySem.W.nsIn K mainGlobals "cut" = some (some (.ref f_cut)))
    (l_cut : K.lookup f_cut = some ⟨oc_cut, od_cut, .func (PySem.W.fnOf "cut" "cut" (defArgs sCut) (defBody sCut) (defScope sCut) .none kV_cut dc_cut pm_cut an_cut cd_cut ct_cut), sl_cut⟩) (c_cut : PySem.W.codeIn K cd_cut "cut" = true) (k_cut : PySem.W.keepIn K (.ref f_cut) = true)
    (a_lengths_from : PySem.W.nsIn K mainGlobals "lengths_from" = some (some (.ref f_lengths_from)))
    (l_lengths_from : K.lookup f_lengths_from = some ⟨oc_lengths_from, od_lengths_from, .func (PySem.W.fnOf "lengths_from" "lengths_from" (defArgs sLens) (defBody sLens) (defScope sLens) .none kV_lengths_from dc_lengths_from pm_lengths_from an_lengths_from cd_lengths_from ct_lengths_from), sl_lengths_from⟩) (c_lengths_from : PySem.W.codeIn K cd_lengths_from "lengths_from" = true) (k_lengths_from : PySem.W.keepIn K (.ref f_lengths_from) = true)
    (a_go_edge : PySem.W.nsIn K mainGlobals "go_edge" = some (some (.ref f_go_edge)))
    (l_go_edge : K.lookup f_go_edge = some ⟨oc_go_edge, od_go_edge, .func (PySem.W.fnOf "go_edge" "go_edge" (defArgs sGo) (defBody sGo) (defScope sGo) .none kV_go_edge dc_go_edge pm_go_edge an_go_edge cd_go_edge ct_go_edge), sl_go_edge⟩) (c_go_edge : PySem.W.codeIn K cd_go_edge "go_edge" = true) (k_go_edge : PySem.W.keepIn K (.ref f_go_edge) = true)
    (a_totals_from : PySem.W.nsIn K mainGlobals "totals_from" = some (some (.ref f_totals_from)))
    (l_totals_from : K.lookup f_totals_from = some ⟨oc_totals_from, od_totals_from, .func (PySem.W.fnOf "totals_from" "totals_from" (defArgs sTots) (defBody sTots) (defScope sTots) .none kV_totals_from dc_totals_from pm_totals_from an_totals_from (.ref c1) ct_totals_from), sl_totals_from⟩) (c_totals_from : PySem.W.codeIn K (.ref c1) "totals_from" = true) (k_totals_from : PySem.W.keepIn K (.ref f_totals_from) = true)
    (a_nodes_before : PySem.W.nsIn K mainGlobals "nodes_before" = some (some (.ref f_nodes_before)))
    (l_nodes_before : K.lookup f_nodes_before = some ⟨oc_nodes_before, od_nodes_before, .func (PySem.W.fnOf "nodes_before" "nodes_before" (defArgs sBef) (defBody sBef) (defScope sBef) .none kV_nodes_before dc_nodes_before pm_nodes_before an_nodes_before cd_nodes_before ct_nodes_before), sl_nodes_before⟩) (c_nodes_before : PySem.W.codeIn K cd_nodes_before "nodes_before" = true) (k_nodes_before : PySem.W.keepIn K (.ref f_nodes_before) = true)
    (a_far : PySem.W.nsIn K mainGlobals "far" = some (some (.ref f_far)))
    (l_far : K.lookup f_far = some ⟨oc_far, od_far, .func (PySem.W.fnOf "far" "far" (defArgs sFar) (defBody sFar) (defScope sFar) .none kV_far dc_far pm_far an_far cd_far ct_far), sl_far⟩) (c_far : PySem.W.codeIn K cd_far "far" = true) (k_far : PySem.W.keepIn K (.ref f_far) = true)
    (a_way : PySem.W.nsIn K mainGlobals "way" = some (some (.ref f_way)))
    (l_way : K.lookup f_way = some ⟨oc_way, od_way, .func (PySem.W.fnOf "way" "way" (defArgs sWay) (defBody sWay) (defScope sWay) .none kV_way dc_way pm_way an_way cd_way ct_way), sl_way⟩) (c_way : PySem.W.codeIn K cd_way "way" = true) (k_way : PySem.W.keepIn K (.ref f_way) = true)
    (a_numbered_way : PySem.W.nsIn K mainGlobals "numbered_way" = some (some (.ref f_numbered_way)))
    (l_numbered_way : K.lookup f_numbered_way = some ⟨oc_numbered_way, od_numbered_way, .func (PySem.W.fnOf "numbered_way" "numbered_way" (defArgs sNum) (defBody sNum) (defScope sNum) .none kV_numbered_way dc_numbered_way pm_numbered_way an_numbered_way cd_numbered_way ct_numbered_way), sl_numbered_way⟩) (c_numbered_way : PySem.W.codeIn K cd_numbered_way "numbered_way" = true) (k_numbered_way : PySem.W.keepIn K (.ref f_numbered_way) = true)
    (a_near : PySem.W.nsIn K mainGlobals "near" = some (some (.ref f_near)))
    (l_near : K.lookup f_near = some ⟨oc_near, od_near, .func (PySem.W.fnOf "near" "near" (defArgs sNear) (defBody sNear) (defScope sNear) .none kV_near dc_near pm_near an_near cd_near ct_near), sl_near⟩) (c_near : PySem.W.codeIn K cd_near "near" = true) (k_near : PySem.W.keepIn K (.ref f_near) = true)
    (a_lengths_to_others : PySem.W.nsIn K mainGlobals "lengths_to_others" = some (some (.ref f_lengths_to_others)))
    (l_lengths_to_others : K.lookup f_lengths_to_others = some ⟨oc_lengths_to_others, od_lengths_to_others, .func (PySem.W.fnOf "lengths_to_others" "lengths_to_others" (defArgs sOth) (defBody sOth) (defScope sOth) .none kV_lengths_to_others dc_lengths_to_others pm_lengths_to_others an_lengths_to_others cd_lengths_to_others ct_lengths_to_others), sl_lengths_to_others⟩) (c_lengths_to_others : PySem.W.codeIn K cd_lengths_to_others "lengths_to_others" = true) (k_lengths_to_others : PySem.W.keepIn K (.ref f_lengths_to_others) = true)
    (a_middle : PySem.W.nsIn K mainGlobals "middle" = some (some (.ref f_middle)))
    (l_middle : K.lookup f_middle = some ⟨oc_middle, od_middle, .func (PySem.W.fnOf "middle" "middle" (defArgs sMid) (defBody sMid) (defScope sMid) .none kV_middle dc_middle pm_middle an_middle cd_middle ct_middle), sl_middle⟩) (c_middle : PySem.W.codeIn K cd_middle "middle" = true) (k_middle : PySem.W.keepIn K (.ref f_middle) = true)
    (a_needed : PySem.W.nsIn K mainGlobals "needed" = some (some (.ref f_needed)))
    (l_needed : K.lookup f_needed = some ⟨oc_needed, od_needed, .func (PySem.W.fnOf "needed" "needed" (defArgs sNeed) (defBody sNeed) (defScope sNeed) .none kV_needed dc_needed pm_needed an_needed cd_needed ct_needed), sl_needed⟩) (c_needed : PySem.W.codeIn K cd_needed "needed" = true) (k_needed : PySem.W.keepIn K (.ref f_needed) = true)
    (a_hurt : PySem.W.nsIn K mainGlobals "hurt" = some (some (.ref f_hurt)))
    (l_hurt : K.lookup f_hurt = some ⟨oc_hurt, od_hurt, .func (PySem.W.fnOf "hurt" "hurt" (defArgs sHurt) (defBody sHurt) (defScope sHurt) .none kV_hurt dc_hurt pm_hurt an_hurt cd_hurt ct_hurt), sl_hurt⟩) (c_hurt : PySem.W.codeIn K cd_hurt "hurt" = true) (k_hurt : PySem.W.keepIn K (.ref f_hurt) = true)
    (a_hurt_pairs : PySem.W.nsIn K mainGlobals "hurt_pairs" = some (some (.ref f_hurt_pairs)))
    (l_hurt_pairs : K.lookup f_hurt_pairs = some ⟨oc_hurt_pairs, od_hurt_pairs, .func (PySem.W.fnOf "hurt_pairs" "hurt_pairs" (defArgs sHPairs) (defBody sHPairs) (defScope sHPairs) .none kV_hurt_pairs dc_hurt_pairs pm_hurt_pairs an_hurt_pairs cd_hurt_pairs ct_hurt_pairs), sl_hurt_pairs⟩) (c_hurt_pairs : PySem.W.codeIn K cd_hurt_pairs "hurt_pairs" = true) (k_hurt_pairs : PySem.W.keepIn K (.ref f_hurt_pairs) = true)
    (a_fraction : PySem.W.nsIn K mainGlobals "fraction" = some (some (.ref f_fraction)))
    (l_fraction : K.lookup f_fraction = some ⟨oc_fraction, od_fraction, .func (PySem.W.fnOf "fraction" "fraction" (defArgs sFrac) (defBody sFrac) (defScope sFrac) .none kV_fraction dc_fraction pm_fraction an_fraction cd_fraction ct_fraction), sl_fraction⟩) (c_fraction : PySem.W.codeIn K cd_fraction "fraction" = true) (k_fraction : PySem.W.keepIn K (.ref f_fraction) = true)
    (a_greatest_divisor : PySem.W.nsIn K mainGlobals "greatest_divisor" = some (some (.ref f_greatest_divisor)))
    (l_greatest_divisor : K.lookup f_greatest_divisor = some ⟨oc_greatest_divisor, od_greatest_divisor, .func (PySem.W.fnOf "greatest_divisor" "greatest_divisor" (defArgs sGcd) (defBody sGcd) (defScope sGcd) .none kV_greatest_divisor dc_greatest_divisor pm_greatest_divisor an_greatest_divisor cd_greatest_divisor ct_greatest_divisor), sl_greatest_divisor⟩) (c_greatest_divisor : PySem.W.codeIn K cd_greatest_divisor "greatest_divisor" = true) (k_greatest_divisor : PySem.W.keepIn K (.ref f_greatest_divisor) = true)
    (a_together : PySem.W.nsIn K mainGlobals "together" = some (some (.ref f_together)))
    (l_together : K.lookup f_together = some ⟨oc_together, od_together, .func (PySem.W.fnOf "together" "together" (defArgs sTog) (defBody sTog) (defScope sTog) .none kV_together dc_together pm_together an_together cd_together ct_together), sl_together⟩) (c_together : PySem.W.codeIn K cd_together "together" = true) (k_together : PySem.W.keepIn K (.ref f_together) = true)
    (a_common_below : PySem.W.nsIn K mainGlobals "common_below" = some (some (.ref f_common_below)))
    (l_common_below : K.lookup f_common_below = some ⟨oc_common_below, od_common_below, .func (PySem.W.fnOf "common_below" "common_below" (defArgs sCommon) (defBody sCommon) (defScope sCommon) .none kV_common_below dc_common_below pm_common_below an_common_below cd_common_below ct_common_below), sl_common_below⟩) (c_common_below : PySem.W.codeIn K cd_common_below "common_below" = true) (k_common_below : PySem.W.keepIn K (.ref f_common_below) = true)
    (a_between : PySem.W.nsIn K mainGlobals "between" = some (some (.ref f_between)))
    (l_between : K.lookup f_between = some ⟨oc_between, od_between, .func (PySem.W.fnOf "between" "between" (defArgs sBetween) (defBody sBetween) (defScope sBetween) .none kV_between dc_between pm_between an_between cd_between ct_between), sl_between⟩) (c_between : PySem.W.codeIn K cd_between "between" = true) (k_between : PySem.W.keepIn K (.ref f_between) = true)
    (a_lies_between : PySem.W.nsIn K mainGlobals "lies_between" = some (some (.ref f_lies_between)))
    (l_lies_between : K.lookup f_lies_between = some ⟨oc_lies_between, od_lies_between, .func (PySem.W.fnOf "lies_between" "lies_between" (defArgs sLies) (defBody sLies) (defScope sLies) .none kV_lies_between dc_lies_between pm_lies_between an_lies_between cd_lies_between ct_lies_between), sl_lies_between⟩) (c_lies_between : PySem.W.codeIn K cd_lies_between "lies_between" = true) (k_lies_between : PySem.W.keepIn K (.ref f_lies_between) = true)
    (a_part : PySem.W.nsIn K mainGlobals "part" = some (some (.ref f_part)))
    (l_part : K.lookup f_part = some ⟨oc_part, od_part, .func (PySem.W.fnOf "part" "part" (defArgs sPart) (defBody sPart) (defScope sPart) .none kV_part dc_part pm_part an_part cd_part ct_part), sl_part⟩) (c_part : PySem.W.codeIn K cd_part "part" = true) (k_part : PySem.W.keepIn K (.ref f_part) = true)
    (a_share : PySem.W.nsIn K mainGlobals "share" = some (some (.ref f_share)))
    (l_share : K.lookup f_share = some ⟨oc_share, od_share, .func (PySem.W.fnOf "share" "share" (defArgs sShare) (defBody sShare) (defScope sShare) .none kV_share dc_share pm_share an_share cd_share ct_share), sl_share⟩) (c_share : PySem.W.codeIn K cd_share "share" = true) (k_share : PySem.W.keepIn K (.ref f_share) = true)
    (a_ranking : PySem.W.nsIn K mainGlobals "ranking" = some (some (.ref f_ranking)))
    (l_ranking : K.lookup f_ranking = some ⟨oc_ranking, od_ranking, .func (PySem.W.fnOf "ranking" "ranking" (defArgs sRank) (defBody sRank) (defScope sRank) .none kV_ranking dc_ranking pm_ranking an_ranking cd_ranking ct_ranking), sl_ranking⟩) (c_ranking : PySem.W.codeIn K cd_ranking "ranking" = true) (k_ranking : PySem.W.keepIn K (.ref f_ranking) = true)
    (a_greatest_first : PySem.W.nsIn K mainGlobals "greatest_first" = some (some (.ref f_greatest_first)))
    (l_greatest_first : K.lookup f_greatest_first = some ⟨oc_greatest_first, od_greatest_first, .func (PySem.W.fnOf "greatest_first" "greatest_first" (defArgs sFirst) (defBody sFirst) (defScope sFirst) .none kV_greatest_first dc_greatest_first pm_greatest_first an_greatest_first (.ref c2) ct_greatest_first), sl_greatest_first⟩) (c_greatest_first : PySem.W.codeIn K (.ref c2) "greatest_first" = true) (k_greatest_first : PySem.W.keepIn K (.ref f_greatest_first) = true)
    (a_answers : PySem.W.nsIn K mainGlobals "answers" = some (some (.ref f_answers)))
    (l_answers : K.lookup f_answers = some ⟨oc_answers, od_answers, .func (PySem.W.fnOf "answers" "answers" (defArgs sAns) (defBody sAns) (defScope sAns) .none kV_answers dc_answers pm_answers an_answers cd_answers ct_answers), sl_answers⟩) (c_answers : PySem.W.codeIn K cd_answers "answers" = true) (k_answers : PySem.W.keepIn K (.ref f_answers) = true)
    (a_answer_call : PySem.W.nsIn K mainGlobals "answer_call" = some (some (.ref f_answer_call)))
    (l_answer_call : K.lookup f_answer_call = some ⟨oc_answer_call, od_answer_call, .func (PySem.W.fnOf "answer_call" "answer_call" (defArgs sCall) (defBody sCall) (defScope sCall) .none kV_answer_call dc_answer_call pm_answer_call an_answer_call cd_answer_call ct_answer_call), sl_answer_call⟩) (c_answer_call : PySem.W.codeIn K cd_answer_call "answer_call" = true) (k_answer_call : PySem.W.keepIn K (.ref f_answer_call) = true)
    (a_Graph_init : PySem.W.findIn K (.ref CG) "__init__" = some (some (.ref f_Graph_init))) (i_Graph_init : PySem.W.isFn K (.ref f_Graph_init) = true)
    (l_Graph_init : K.lookup f_Graph_init = some ⟨oc_Graph_init, od_Graph_init, .func (PySem.W.fnOf "__init__" "Graph.__init__" (defArgs sGInit) (defBody sGInit) (defScope sGInit) .none kV_Graph_init dc_Graph_init pm_Graph_init an_Graph_init cd_Graph_init ct_Graph_init), sl_Graph_init⟩) (c_Graph_init : PySem.W.codeIn K cd_Graph_init "Graph.__init__" = true) (k_Graph_init : PySem.W.keepIn K (.ref f_Graph_init) = true)
    (a_Graph_nodes : PySem.W.findIn K (.ref CG) "nodes" = some (some (.ref f_Graph_nodes))) (i_Graph_nodes : PySem.W.isFn K (.ref f_Graph_nodes) = true)
    (l_Graph_nodes : K.lookup f_Graph_nodes = some ⟨oc_Graph_nodes, od_Graph_nodes, .func (PySem.W.fnOf "nodes" "Graph.nodes" (defArgs sNodes) (defBody sNodes) (defScope sNodes) .none kV_Graph_nodes dc_Graph_nodes pm_Graph_nodes an_Graph_nodes cd_Graph_nodes ct_Graph_nodes), sl_Graph_nodes⟩) (c_Graph_nodes : PySem.W.codeIn K cd_Graph_nodes "Graph.nodes" = true) (k_Graph_nodes : PySem.W.keepIn K (.ref f_Graph_nodes) = true)
    (a_Graph_nodes_but : PySem.W.findIn K (.ref CG) "nodes_but" = some (some (.ref f_Graph_nodes_but))) (i_Graph_nodes_but : PySem.W.isFn K (.ref f_Graph_nodes_but) = true)
    (l_Graph_nodes_but : K.lookup f_Graph_nodes_but = some ⟨oc_Graph_nodes_but, od_Graph_nodes_but, .func (PySem.W.fnOf "nodes_but" "Graph.nodes_but" (defArgs sBut) (defBody sBut) (defScope sBut) .none kV_Graph_nodes_but dc_Graph_nodes_but pm_Graph_nodes_but an_Graph_nodes_but cd_Graph_nodes_but ct_Graph_nodes_but), sl_Graph_nodes_but⟩) (c_Graph_nodes_but : PySem.W.codeIn K cd_Graph_nodes_but "Graph.nodes_but" = true) (k_Graph_nodes_but : PySem.W.keepIn K (.ref f_Graph_nodes_but) = true)
    (a_Graph_has_node : PySem.W.findIn K (.ref CG) "has_node" = some (some (.ref f_Graph_has_node))) (i_Graph_has_node : PySem.W.isFn K (.ref f_Graph_has_node) = true)
    (l_Graph_has_node : K.lookup f_Graph_has_node = some ⟨oc_Graph_has_node, od_Graph_has_node, .func (PySem.W.fnOf "has_node" "Graph.has_node" (defArgs sHas) (defBody sHas) (defScope sHas) .none kV_Graph_has_node dc_Graph_has_node pm_Graph_has_node an_Graph_has_node cd_Graph_has_node ct_Graph_has_node), sl_Graph_has_node⟩) (c_Graph_has_node : PySem.W.codeIn K cd_Graph_has_node "Graph.has_node" = true) (k_Graph_has_node : PySem.W.keepIn K (.ref f_Graph_has_node) = true)
    (a_Shortest_init : PySem.W.findIn K (.ref CS) "__init__" = some (some (.ref f_Shortest_init))) (i_Shortest_init : PySem.W.isFn K (.ref f_Shortest_init) = true)
    (l_Shortest_init : K.lookup f_Shortest_init = some ⟨oc_Shortest_init, od_Shortest_init, .func (PySem.W.fnOf "__init__" "Shortest.__init__" (defArgs sSInit) (defBody sSInit) (defScope sSInit) .none kV_Shortest_init dc_Shortest_init pm_Shortest_init an_Shortest_init cd_Shortest_init ct_Shortest_init), sl_Shortest_init⟩) (c_Shortest_init : PySem.W.codeIn K cd_Shortest_init "Shortest.__init__" = true) (k_Shortest_init : PySem.W.keepIn K (.ref f_Shortest_init) = true)
    (a_Shortest_total : PySem.W.findIn K (.ref CS) "total" = some (some (.ref f_Shortest_total))) (i_Shortest_total : PySem.W.isFn K (.ref f_Shortest_total) = true)
    (l_Shortest_total : K.lookup f_Shortest_total = some ⟨oc_Shortest_total, od_Shortest_total, .func (PySem.W.fnOf "total" "Shortest.total" (defArgs sTotal) (defBody sTotal) (defScope sTotal) .none kV_Shortest_total dc_Shortest_total pm_Shortest_total an_Shortest_total cd_Shortest_total ct_Shortest_total), sl_Shortest_total⟩) (c_Shortest_total : PySem.W.codeIn K cd_Shortest_total "Shortest.total" = true) (k_Shortest_total : PySem.W.keepIn K (.ref f_Shortest_total) = true)
    (a_Shortest_total_by : PySem.W.findIn K (.ref CS) "total_by" = some (some (.ref f_Shortest_total_by))) (i_Shortest_total_by : PySem.W.isFn K (.ref f_Shortest_total_by) = true)
    (l_Shortest_total_by : K.lookup f_Shortest_total_by = some ⟨oc_Shortest_total_by, od_Shortest_total_by, .func (PySem.W.fnOf "total_by" "Shortest.total_by" (defArgs sTotBy) (defBody sTotBy) (defScope sTotBy) .none kV_Shortest_total_by dc_Shortest_total_by pm_Shortest_total_by an_Shortest_total_by cd_Shortest_total_by ct_Shortest_total_by), sl_Shortest_total_by⟩) (c_Shortest_total_by : PySem.W.codeIn K cd_Shortest_total_by "Shortest.total_by" = true) (k_Shortest_total_by : PySem.W.keepIn K (.ref f_Shortest_total_by) = true)
    (a_Shortest_total_over : PySem.W.findIn K (.ref CS) "total_over" = some (some (.ref f_Shortest_total_over))) (i_Shortest_total_over : PySem.W.isFn K (.ref f_Shortest_total_over) = true)
    (l_Shortest_total_over : K.lookup f_Shortest_total_over = some ⟨oc_Shortest_total_over, od_Shortest_total_over, .func (PySem.W.fnOf "total_over" "Shortest.total_over" (defArgs sOver) (defBody sOver) (defScope sOver) .none kV_Shortest_total_over dc_Shortest_total_over pm_Shortest_total_over an_Shortest_total_over cd_Shortest_total_over ct_Shortest_total_over), sl_Shortest_total_over⟩) (c_Shortest_total_over : PySem.W.codeIn K cd_Shortest_total_over "Shortest.total_over" = true) (k_Shortest_total_over : PySem.W.keepIn K (.ref f_Shortest_total_over) = true)
    (a_Shortest_all_by : PySem.W.findIn K (.ref CS) "all_by" = some (some (.ref f_Shortest_all_by))) (i_Shortest_all_by : PySem.W.isFn K (.ref f_Shortest_all_by) = true)
    (l_Shortest_all_by : K.lookup f_Shortest_all_by = some ⟨oc_Shortest_all_by, od_Shortest_all_by, .func (PySem.W.fnOf "all_by" "Shortest.all_by" (defArgs sAllBy) (defBody sAllBy) (defScope sAllBy) .none kV_Shortest_all_by dc_Shortest_all_by pm_Shortest_all_by an_Shortest_all_by cd_Shortest_all_by ct_Shortest_all_by), sl_Shortest_all_by⟩) (c_Shortest_all_by : PySem.W.codeIn K cd_Shortest_all_by "Shortest.all_by" = true) (k_Shortest_all_by : PySem.W.keepIn K (.ref f_Shortest_all_by) = true)
    (a_Shortest_steps : PySem.W.findIn K (.ref CS) "steps" = some (some (.ref f_Shortest_steps))) (i_Shortest_steps : PySem.W.isFn K (.ref f_Shortest_steps) = true)
    (l_Shortest_steps : K.lookup f_Shortest_steps = some ⟨oc_Shortest_steps, od_Shortest_steps, .func (PySem.W.fnOf "steps" "Shortest.steps" (defArgs sSteps) (defBody sSteps) (defScope sSteps) .none kV_Shortest_steps dc_Shortest_steps pm_Shortest_steps an_Shortest_steps cd_Shortest_steps ct_Shortest_steps), sl_Shortest_steps⟩) (c_Shortest_steps : PySem.W.codeIn K cd_Shortest_steps "Shortest.steps" = true) (k_Shortest_steps : PySem.W.keepIn K (.ref f_Shortest_steps) = true)
    (a_Shortest_is_step : PySem.W.findIn K (.ref CS) "is_step" = some (some (.ref f_Shortest_is_step))) (i_Shortest_is_step : PySem.W.isFn K (.ref f_Shortest_is_step) = true)
    (l_Shortest_is_step : K.lookup f_Shortest_is_step = some ⟨oc_Shortest_is_step, od_Shortest_is_step, .func (PySem.W.fnOf "is_step" "Shortest.is_step" (defArgs sIsStep) (defBody sIsStep) (defScope sIsStep) .none kV_Shortest_is_step dc_Shortest_is_step pm_Shortest_is_step an_Shortest_is_step cd_Shortest_is_step ct_Shortest_is_step), sl_Shortest_is_step⟩) (c_Shortest_is_step : PySem.W.codeIn K cd_Shortest_is_step "Shortest.is_step" = true) (k_Shortest_is_step : PySem.W.keepIn K (.ref f_Shortest_is_step) = true)
    (g_Graph : PySem.W.nsIn K mainGlobals "Graph" = some (some (.ref CG))) (pg_Graph : PySem.W.plainGet K CG Str.empty = true) (hd_Graph : PySem.W.hasDictIn K CG = true) (po_Graph : PySem.W.plainOver K CG = true) (sa_Graph : PySem.W.findIn K (.ref CG) "__setattr__" = some (some (.builtin "object.__setattr__"))) (mk_Graph : PySem.W.makesIn K CG = true) (kc_Graph : PySem.W.keepIn K (.ref CG) = true)
    (g_Shortest : PySem.W.nsIn K mainGlobals "Shortest" = some (some (.ref CS))) (pg_Shortest : PySem.W.plainGet K CS Str.empty = true) (hd_Shortest : PySem.W.hasDictIn K CS = true) (po_Shortest : PySem.W.plainOver K CS = true) (sa_Shortest : PySem.W.findIn K (.ref CS) "__setattr__" = some (some (.builtin "object.__setattr__"))) (mk_Shortest : PySem.W.makesIn K CS = true) (kc_Shortest : PySem.W.keepIn K (.ref CS) = true)
    (n_node_total : PySem.W.findIn K (.ref CG) "node_total" = some none)
    (n_edges : PySem.W.findIn K (.ref CG) "edges" = some none)
    (n_lengths : PySem.W.findIn K (.ref CS) "lengths" = some none)
    (n_totals : PySem.W.findIn K (.ref CS) "totals" = some none)
    (b_list : PySem.W.nsIn K mainGlobals "list" = some none)
    (b_range : PySem.W.nsIn K mainGlobals "range" = some none)
    (b_len : PySem.W.nsIn K mainGlobals "len" = some none)
    (b_sum : PySem.W.nsIn K mainGlobals "sum" = some none)
    (b_max : PySem.W.nsIn K mainGlobals "max" = some none)
    (b_min : PySem.W.nsIn K mainGlobals "min" = some none)
    (b_sorted : PySem.W.nsIn K mainGlobals "sorted" = some none)
    (v_FULL : ∃ t, PySem.W.nsIn K mainGlobals "FULL" = some (some (.int (-5) t)))
    (v_NOT_AS_TOLD : ∃ t, PySem.W.nsIn K mainGlobals "NOT_AS_TOLD" = some (some (.int (-1) t)))
    (v_NOT_THERE : ∃ t, PySem.W.nsIn K mainGlobals "NOT_THERE" = some (some (.int (-3) t)))
    (v_THERE_ALREADY : ∃ t, PySem.W.nsIn K mainGlobals "THERE_ALREADY" = some (some (.int (-4) t)))
    (v_MOST_NODES : ∃ t, PySem.W.nsIn K mainGlobals "MOST_NODES" = some (some (.int (12) t)))
    (v_LONGEST_EDGE : ∃ t, PySem.W.nsIn K mainGlobals "LONGEST_EDGE" = some (some (.int (9) t)))
    (v_NODE : ∃ t, PySem.W.nsIn K mainGlobals "NODE" = some (some (.int (0) t)))
    (v_EDGE : ∃ t, PySem.W.nsIn K mainGlobals "EDGE" = some (some (.int (1) t)))
    (v_CUT : ∃ t, PySem.W.nsIn K mainGlobals "CUT" = some (some (.int (2) t)))
    (v_FAR : ∃ t, PySem.W.nsIn K mainGlobals "FAR" = some (some (.int (3) t)))
    (v_WAY : ∃ t, PySem.W.nsIn K mainGlobals "WAY" = some (some (.int (4) t)))
    (v_BETWEEN : ∃ t, PySem.W.nsIn K mainGlobals "BETWEEN" = some (some (.int (5) t)))
    (v_SHARE : ∃ t, PySem.W.nsIn K mainGlobals "SHARE" = some (some (.int (6) t)))
    (v_RANKING : ∃ t, PySem.W.nsIn K mainGlobals "RANKING" = some (some (.int (7) t)))
    (v_NEAR : ∃ t, PySem.W.nsIn K mainGlobals "NEAR" = some (some (.int (8) t)))
    (v_NEEDED : ∃ t, PySem.W.nsIn K mainGlobals "NEEDED" = some (some (.int (9) t)))
    (v_HURT : ∃ t, PySem.W.nsIn K mainGlobals "HURT" = some (some (.int (10) t)))
    {odg : Option Addr} {slg : Array (Option Value)} {itg : Array Value} {ng : Nat} (g_GT : PySem.W.nsIn K mainGlobals "GIVEN_TOTALS" = some (some (.ref gt))) (l_GT : K.lookup gt = some ⟨.type "tuple", odg, .seq itg ng, slg⟩) (z_GT : itg.size ≤ sizeLine) (r_GT : Vals (natsV totalsN) itg.toList)
    {o2 o3 : Value} {d2 d3 : Option Addr} {s2 s3 : Array (Option Value)} {vs1 vs2 : Array Value}
    (t1_l : K.lookup c1 = some ⟨o2, d2, .fields vs1, s2⟩) (t1_p : vs1[11]? = some (.ref P1)) (t1_n : K.lookup P1 = none)
    (t2_l : K.lookup c2 = some ⟨o3, d3, .fields vs2, s3⟩) (t2_p : vs2[11]? = some (.ref P2)) (t2_n : K.lookup P2 = none) (t_ne : P1 ≠ P2) :
    ∃ (fd : FuncData) (cs : List (Addr × Addr)) (T : List (Addr × Str)), cs.map some = (["totals_from", "greatest_first"] : List Str).map (PySem.W.tabIn K) ∧ (∀ p ∈ cs, K.lookup p.2 = none) ∧
      (∀ (s : Shared) (us : List Value), us.length = (["calls"] : List Str).length → BindsTo s fd ⟨us, []⟩ ((["calls"] : List Str).zip us)) ∧
      (∀ base : Heap, K.In base → base.Ns mainGlobals mg → (∀ p ∈ cs, LamX.TabB base mg p.1 p.2) → FnOk P w K mg base CX0 10 fa fd ["calls"] (spAns K T)) ∧
      ∀ H : Hp, (∀ p ∈ cs, H p.2 = some (.tbl #[])) → LamX.Tabs T H := by
  have e := hfa.symm.trans (PySem.W.mg_of X G a_answers)
  cases e
  have F_node := fun_mk (st := sNode) l_node c_node k_node
  have B_node := F_node.binds (ps := ["graph"]) fun _ _ _ _ _ _ us hl => match us, hl with | [_], _ => rfl
  have m_node := PySem.W.mg_of X G a_node
  have F_edge := fun_mk (st := sEdge) l_edge c_edge k_edge
  have B_edge := F_edge.binds (ps := ["graph", "x", "y", "length"]) fun _ _ _ _ _ _ us hl => match us, hl with | [_, _, _, _], _ => rfl
  have m_edge := PySem.W.mg_of X G a_edge
  have F_may_be_edge := fun_mk (st := sMay) l_may_be_edge c_may_be_edge k_may_be_edge
  have B_may_be_edge := F_may_be_edge.binds (ps := ["graph", "x", "y", "length"]) fun _ _ _ _ _ _ us hl => match us, hl with | [_, _, _, _], _ => rfl
  have m_may_be_edge := PySem.W.mg_of X G a_may_be_edge
  have F_cut := fun_mk (st := sCut) l_cut c_cut k_cut
  have B_cut := F_cut.binds (ps := ["graph", "x", "y"]) fun _ _ _ _ _ _ us hl => match us, hl with | [_, _, _], _ => rfl
  have m_cut := PySem.W.mg_of X G a_cut
  have F_lengths_from := fun_mk (st := sLens) l_lengths_from c_lengths_from k_lengths_from
  have B_lengths_from := F_lengths_from.binds (ps := ["graph", "start"]) fun _ _ _ _ _ _ us hl => match us, hl with | [_, _], _ => rfl
  have m_lengths_from := PySem.W.mg_of X G a_lengths_from
  have F_go_edge := fun_mk (st := sGo) l_go_edge c_go_edge k_go_edge
  have B_go_edge := F_go_edge.binds (ps := ["lengths", "x", "y", "length"]) fun _ _ _ _ _ _ us hl => match us, hl with | [_, _, _, _], _ => rfl
  have m_go_edge := PySem.W.mg_of X G a_go_edge
  have F_totals_from := fun_mk (st := sTots) l_totals_from c_totals_from k_totals_from
  have B_totals_from := F_totals_from.binds (ps := ["graph", "start", "lengths"]) fun _ _ _ _ _ _ us hl => match us, hl with | [_, _, _], _ => rfl
  have m_totals_from := PySem.W.mg_of X G a_totals_from
  have F_nodes_before := fun_mk (st := sBef) l_nodes_before c_nodes_before k_nodes_before
  have B_nodes_before := F_nodes_before.binds (ps := ["graph", "lengths", "end"]) fun _ _ _ _ _ _ us hl => match us, hl with | [_, _, _], _ => rfl
  have m_nodes_before := PySem.W.mg_of X G a_nodes_before
  have F_far := fun_mk (st := sFar) l_far c_far k_far
  have B_far := F_far.binds (ps := ["graph", "x", "y"]) fun _ _ _ _ _ _ us hl => match us, hl with | [_, _, _], _ => rfl
  have m_far := PySem.W.mg_of X G a_far
  have F_way := fun_mk (st := sWay) l_way c_way k_way
  have B_way := F_way.binds (ps := ["graph", "x", "y", "k"]) fun _ _ _ _ _ _ us hl => match us, hl with | [_, _, _, _], _ => rfl
  have m_way := PySem.W.mg_of X G a_way
  have F_numbered_way := fun_mk (st := sNum) l_numbered_way c_numbered_way k_numbered_way
  have B_numbered_way := F_numbered_way.binds (ps := ["graph", "shortest", "x", "y", "k"]) fun _ _ _ _ _ _ us hl => match us, hl with | [_, _, _, _, _], _ => rfl
  have m_numbered_way := PySem.W.mg_of X G a_numbered_way
  have F_near := fun_mk (st := sNear) l_near c_near k_near
  have B_near := F_near.binds (ps := ["graph", "x"]) fun _ _ _ _ _ _ us hl => match us, hl with | [_, _], _ => rfl
  have m_near := PySem.W.mg_of X G a_near
  have F_lengths_to_others := fun_mk (st := sOth) l_lengths_to_others c_lengths_to_others k_lengths_to_others
  have B_lengths_to_others := F_lengths_to_others.binds (ps := ["graph", "x"]) fun _ _ _ _ _ _ us hl => match us, hl with | [_, _], _ => rfl
  have m_lengths_to_others := PySem.W.mg_of X G a_lengths_to_others
  have F_middle := fun_mk (st := sMid) l_middle c_middle k_middle
  have B_middle := F_middle.binds (ps := ["graph"]) fun _ _ _ _ _ _ us hl => match us, hl with | [_], _ => rfl
  have m_middle := PySem.W.mg_of X G a_middle
  have F_needed := fun_mk (st := sNeed) l_needed c_needed k_needed
  have B_needed := F_needed.binds (ps := ["graph", "x", "y"]) fun _ _ _ _ _ _ us hl => match us, hl with | [_, _, _], _ => rfl
  have m_needed := PySem.W.mg_of X G a_needed
  have F_hurt := fun_mk (st := sHurt) l_hurt c_hurt k_hurt
  have B_hurt := F_hurt.binds (ps := ["graph", "v"]) fun _ _ _ _ _ _ us hl => match us, hl with | [_, _], _ => rfl
  have m_hurt := PySem.W.mg_of X G a_hurt
  have F_hurt_pairs := fun_mk (st := sHPairs) l_hurt_pairs c_hurt_pairs k_hurt_pairs
  have B_hurt_pairs := F_hurt_pairs.binds (ps := ["graph", "v"]) fun _ _ _ _ _ _ us hl => match us, hl with | [_, _], _ => rfl
  have m_hurt_pairs := PySem.W.mg_of X G a_hurt_pairs
  have F_fraction := fun_mk (st := sFrac) l_fraction c_fraction k_fraction
  have B_fraction := F_fraction.binds (ps := ["above", "below"]) fun _ _ _ _ _ _ us hl => match us, hl with | [_, _], _ => rfl
  have m_fraction := PySem.W.mg_of X G a_fraction
  have F_greatest_divisor := fun_mk (st := sGcd) l_greatest_divisor c_greatest_divisor k_greatest_divisor
  have B_greatest_divisor := F_greatest_divisor.binds (ps := ["first", "second"]) fun _ _ _ _ _ _ us hl => match us, hl with | [_, _], _ => rfl
  have m_greatest_divisor := PySem.W.mg_of X G a_greatest_divisor
  have F_together := fun_mk (st := sTog) l_together c_together k_together
  have B_together := F_together.binds (ps := ["one", "other"]) fun _ _ _ _ _ _ us hl => match us, hl with | [_, _], _ => rfl
  have m_together := PySem.W.mg_of X G a_together
  have F_common_below := fun_mk (st := sCommon) l_common_below c_common_below k_common_below
  have B_common_below := F_common_below.binds (ps := ["several"]) fun _ _ _ _ _ _ us hl => match us, hl with | [_], _ => rfl
  have m_common_below := PySem.W.mg_of X G a_common_below
  have F_between := fun_mk (st := sBetween) l_between c_between k_between
  have B_between := F_between.binds (ps := ["graph", "v"]) fun _ _ _ _ _ _ us hl => match us, hl with | [_, _], _ => rfl
  have m_between := PySem.W.mg_of X G a_between
  have F_lies_between := fun_mk (st := sLies) l_lies_between c_lies_between k_lies_between
  have B_lies_between := F_lies_between.binds (ps := ["graph", "shortest", "v"]) fun _ _ _ _ _ _ us hl => match us, hl with | [_, _, _], _ => rfl
  have m_lies_between := PySem.W.mg_of X G a_lies_between
  have F_part := fun_mk (st := sPart) l_part c_part k_part
  have B_part := F_part.binds (ps := ["some", "total"]) fun _ _ _ _ _ _ us hl => match us, hl with | [_, _], _ => rfl
  have m_part := PySem.W.mg_of X G a_part
  have F_share := fun_mk (st := sShare) l_share c_share k_share
  have B_share := F_share.binds (ps := ["graph", "x", "y"]) fun _ _ _ _ _ _ us hl => match us, hl with | [_, _, _], _ => rfl
  have m_share := PySem.W.mg_of X G a_share
  have F_ranking := fun_mk (st := sRank) l_ranking c_ranking k_ranking
  have B_ranking := F_ranking.binds (ps := ["graph", "n"]) fun _ _ _ _ _ _ us hl => match us, hl with | [_, _], _ => rfl
  have m_ranking := PySem.W.mg_of X G a_ranking
  have F_greatest_first := fun_mk (st := sFirst) l_greatest_first c_greatest_first k_greatest_first
  have B_greatest_first := F_greatest_first.binds (ps := ["amounts"]) fun _ _ _ _ _ _ us hl => match us, hl with | [_], _ => rfl
  have m_greatest_first := PySem.W.mg_of X G a_greatest_first
  have F_answers := fun_mk (st := sAns) l_answers c_answers k_answers
  have B_answers := F_answers.binds (ps := ["calls"]) fun _ _ _ _ _ _ us hl => match us, hl with | [_], _ => rfl
  have m_answers := PySem.W.mg_of X G a_answers
  have F_answer_call := fun_mk (st := sCall) l_answer_call c_answer_call k_answer_call
  have B_answer_call := F_answer_call.binds (ps := ["graph", "call", "given"]) fun _ _ _ _ _ _ us hl => match us, hl with | [_, _, _], _ => rfl
  have m_answer_call := PySem.W.mg_of X G a_answer_call
  have F_Graph_init := fun_mk (st := sGInit) l_Graph_init c_Graph_init k_Graph_init
  have B_Graph_init := F_Graph_init.binds (ps := ["self"]) fun _ _ _ _ _ _ us hl => match us, hl with | [_], _ => rfl
  have M_Graph_init : Meth K CG "__init__" f_Graph_init := ⟨a_Graph_init, i_Graph_init, k_Graph_init⟩
  have F_Graph_nodes := fun_mk (st := sNodes) l_Graph_nodes c_Graph_nodes k_Graph_nodes
  have B_Graph_nodes := F_Graph_nodes.binds (ps := ["self"]) fun _ _ _ _ _ _ us hl => match us, hl with | [_], _ => rfl
  have M_Graph_nodes : Meth K CG "nodes" f_Graph_nodes := ⟨a_Graph_nodes, i_Graph_nodes, k_Graph_nodes⟩
  have F_Graph_nodes_but := fun_mk (st := sBut) l_Graph_nodes_but c_Graph_nodes_but k_Graph_nodes_but
  have B_Graph_nodes_but := F_Graph_nodes_but.binds (ps := ["self", "x"]) fun _ _ _ _ _ _ us hl => match us, hl with | [_, _], _ => rfl
  have M_Graph_nodes_but : Meth K CG "nodes_but" f_Graph_nodes_but := ⟨a_Graph_nodes_but, i_Graph_nodes_but, k_Graph_nodes_but⟩
  have F_Graph_has_node := fun_mk (st := sHas) l_Graph_has_node c_Graph_has_node k_Graph_has_node
  have B_Graph_has_node := F_Graph_has_node.binds (ps := ["self", "x"]) fun _ _ _ _ _ _ us hl => match us, hl with | [_, _], _ => rfl
  have M_Graph_has_node : Meth K CG "has_node" f_Graph_has_node := ⟨a_Graph_has_node, i_Graph_has_node, k_Graph_has_node⟩
  have F_Shortest_init := fun_mk (st := sSInit) l_Shortest_init c_Shortest_init k_Shortest_init
  have B_Shortest_init := F_Shortest_init.binds (ps := ["self", "graph"]) fun _ _ _ _ _ _ us hl => match us, hl with | [_, _], _ => rfl
  have M_Shortest_init : Meth K CS "__init__" f_Shortest_init := ⟨a_Shortest_init, i_Shortest_init, k_Shortest_init⟩
  have F_Shortest_total := fun_mk (st := sTotal) l_Shortest_total c_Shortest_total k_Shortest_total
  have B_Shortest_total := F_Shortest_total.binds (ps := ["self", "start", "end"]) fun _ _ _ _ _ _ us hl => match us, hl with | [_, _, _], _ => rfl
  have M_Shortest_total : Meth K CS "total" f_Shortest_total := ⟨a_Shortest_total, i_Shortest_total, k_Shortest_total⟩
  have F_Shortest_total_by := fun_mk (st := sTotBy) l_Shortest_total_by c_Shortest_total_by k_Shortest_total_by
  have B_Shortest_total_by := F_Shortest_total_by.binds (ps := ["self", "start", "v", "end"]) fun _ _ _ _ _ _ us hl => match us, hl with | [_, _, _, _], _ => rfl
  have M_Shortest_total_by : Meth K CS "total_by" f_Shortest_total_by := ⟨a_Shortest_total_by, i_Shortest_total_by, k_Shortest_total_by⟩
  have F_Shortest_total_over := fun_mk (st := sOver) l_Shortest_total_over c_Shortest_total_over k_Shortest_total_over
  have B_Shortest_total_over := F_Shortest_total_over.binds (ps := ["self", "start", "x", "y", "length", "end"]) fun _ _ _ _ _ _ us hl => match us, hl with | [_, _, _, _, _, _], _ => rfl
  have M_Shortest_total_over : Meth K CS "total_over" f_Shortest_total_over := ⟨a_Shortest_total_over, i_Shortest_total_over, k_Shortest_total_over⟩
  have F_Shortest_all_by := fun_mk (st := sAllBy) l_Shortest_all_by c_Shortest_all_by k_Shortest_all_by
  have B_Shortest_all_by := F_Shortest_all_by.binds (ps := ["self", "start", "v", "end"]) fun _ _ _ _ _ _ us hl => match us, hl with | [_, _, _, _], _ => rfl
  have M_Shortest_all_by : Meth K CS "all_by" f_Shortest_all_by := ⟨a_Shortest_all_by, i_Shortest_all_by, k_Shortest_all_by⟩
  have F_Shortest_steps := fun_mk (st := sSteps) l_Shortest_steps c_Shortest_steps k_Shortest_steps
  have B_Shortest_steps := F_Shortest_steps.binds (ps := ["self", "graph", "x", "end"]) fun _ _ _ _ _ _ us hl => match us, hl with | [_, _, _, _], _ => rfl
  have M_Shortest_steps : Meth K CS "steps" f_Shortest_steps := ⟨a_Shortest_steps, i_Shortest_steps, k_Shortest_steps⟩
  have F_Shortest_is_step := fun_mk (st := sIsStep) l_Shortest_is_step c_Shortest_is_step k_Shortest_is_step
  have B_Shortest_is_step := F_Shortest_is_step.binds (ps := ["self", "graph", "x", "y", "end"]) fun _ _ _ _ _ _ us hl => match us, hl with | [_, _, _, _, _], _ => rfl
  have M_Shortest_is_step : Meth K CS "is_step" f_Shortest_is_step := ⟨a_Shortest_is_step, i_Shortest_is_step, k_Shortest_is_step⟩
  have x_list := PySem.W.mg_none_of X G b_list
  have x_range := PySem.W.mg_none_of X G b_range
  have x_len := PySem.W.mg_none_of X G b_len
  have x_sum := PySem.W.mg_none_of X G b_sum
  have x_max := PySem.W.mg_none_of X G b_max
  have x_min := PySem.W.mg_none_of X G b_min
  have x_sorted := PySem.W.mg_none_of X G b_sorted
  have w_FULL : ∃ t, mg "FULL" = some (.int (-5) t) := v_FULL.elim fun t e => ⟨t, PySem.W.mg_of X G e⟩
  have w_NOT_AS_TOLD : ∃ t, mg "NOT_AS_TOLD" = some (.int (-1) t) := v_NOT_AS_TOLD.elim fun t e => ⟨t, PySem.W.mg_of X G e⟩
  have w_NOT_THERE : ∃ t, mg "NOT_THERE" = some (.int (-3) t) := v_NOT_THERE.elim fun t e => ⟨t, PySem.W.mg_of X G e⟩
  have w_THERE_ALREADY : ∃ t, mg "THERE_ALREADY" = some (.int (-4) t) := v_THERE_ALREADY.elim fun t e => ⟨t, PySem.W.mg_of X G e⟩
  have w_MOST_NODES : ∃ t, mg "MOST_NODES" = some (.int (12) t) := v_MOST_NODES.elim fun t e => ⟨t, PySem.W.mg_of X G e⟩
  have w_LONGEST_EDGE : ∃ t, mg "LONGEST_EDGE" = some (.int (9) t) := v_LONGEST_EDGE.elim fun t e => ⟨t, PySem.W.mg_of X G e⟩
  have w_NODE : ∃ t, mg "NODE" = some (.int (0) t) := v_NODE.elim fun t e => ⟨t, PySem.W.mg_of X G e⟩
  have w_EDGE : ∃ t, mg "EDGE" = some (.int (1) t) := v_EDGE.elim fun t e => ⟨t, PySem.W.mg_of X G e⟩
  have w_CUT : ∃ t, mg "CUT" = some (.int (2) t) := v_CUT.elim fun t e => ⟨t, PySem.W.mg_of X G e⟩
  have w_FAR : ∃ t, mg "FAR" = some (.int (3) t) := v_FAR.elim fun t e => ⟨t, PySem.W.mg_of X G e⟩
  have w_WAY : ∃ t, mg "WAY" = some (.int (4) t) := v_WAY.elim fun t e => ⟨t, PySem.W.mg_of X G e⟩
  have w_BETWEEN : ∃ t, mg "BETWEEN" = some (.int (5) t) := v_BETWEEN.elim fun t e => ⟨t, PySem.W.mg_of X G e⟩
  have w_SHARE : ∃ t, mg "SHARE" = some (.int (6) t) := v_SHARE.elim fun t e => ⟨t, PySem.W.mg_of X G e⟩
  have w_RANKING : ∃ t, mg "RANKING" = some (.int (7) t) := v_RANKING.elim fun t e => ⟨t, PySem.W.mg_of X G e⟩
  have w_NEAR : ∃ t, mg "NEAR" = some (.int (8) t) := v_NEAR.elim fun t e => ⟨t, PySem.W.mg_of X G e⟩
  have w_NEEDED : ∃ t, mg "NEEDED" = some (.int (9) t) := v_NEEDED.elim fun t e => ⟨t, PySem.W.mg_of X G e⟩
  have w_HURT : ∃ t, mg "HURT" = some (.int (10) t) := v_HURT.elim fun t e => ⟨t, PySem.W.mg_of X G e⟩
  have TX : Txt K mg CG := ⟨⟨pg_Graph, hd_Graph, po_Graph, sa_Graph⟩, n_node_total, n_edges, PySem.W.mg_of X G g_Graph, x_list, x_range, x_len, w_FULL, w_NOT_AS_TOLD, w_NOT_THERE, w_THERE_ALREADY, w_MOST_NODES, w_LONGEST_EDGE⟩
  have TS : TxtS K mg CS := ⟨⟨pg_Shortest, hd_Shortest, po_Shortest, sa_Shortest⟩, n_lengths, n_totals, PySem.W.mg_of X G g_Shortest⟩
  have NM : Nums mg := ⟨w_NODE, w_EDGE, w_CUT, w_FAR, w_WAY, w_BETWEEN, w_SHARE, w_RANKING, w_NEAR, w_NEEDED, w_HURT⟩
  have mgt := PySem.W.mg_of X G g_GT
  have tot : ∀ H, SqT K H gt (natsV totalsN) := fun H => .inr ⟨_, itg, ng, l_GT, rfl, rfl, z_GT, r_GT⟩
  refine ⟨PySem.W.fnOf "answers" "answers" (defArgs sAns) (defBody sAns) (defScope sAns) .none kV_answers dc_answers pm_answers an_answers cd_answers ct_answers, [(c1, P1), (c2, P2)], [(P1, lamQ), (P2, lamQ2)], ?_, ?_, ?_, fun base KX NS TB => ?_, fun H hH p hp => ?_⟩
  · rw [List.map_cons, List.map_cons, List.map_cons, List.map_cons, WE.tabIn_of a_totals_from l_totals_from rfl t1_l t1_p, WE.tabIn_of a_greatest_first l_greatest_first rfl t2_l t2_p]
    rfl
  · intro p hp
    rcases List.mem_cons.mp hp with z | z
    · rw [z]
      exact t1_n
    · rw [List.mem_singleton.mp z]
      exact t2_n
  · exact fun s us hu => match us, hu with | [_], _ => .of_eq rfl
  · have TT1 : TabT base mg [(P1, lamQ), (P2, lamQ2)] c1 lamQ := ⟨P1, TB _ List.mem_cons_self, List.mem_cons_self, fun p hp e => by
      rcases List.mem_cons.mp hp with z | z
      · rw [z]
      · rw [List.mem_singleton.mp z] at e
        exact absurd e.symm t_ne⟩
    have TT2 : TabT base mg [(P1, lamQ), (P2, lamQ2)] c2 lamQ2 := ⟨P2, TB _ (List.mem_cons_of_mem _ List.mem_cons_self), List.mem_cons_of_mem _ List.mem_cons_self, fun p hp e => by
      rcases List.mem_cons.mp hp with z | z
      · rw [z] at e
        exact absurd e t_ne
      · rw [List.mem_singleton.mp z]⟩
    have oHas : HasM P w K mg base CG := ⟨_, _, M_Graph_has_node, B_Graph_has_node, ok_has F_Graph_has_node TX⟩
    have oNodes : NodesM P w K mg base CG := ⟨_, _, M_Graph_nodes, B_Graph_nodes, ok_nodes F_Graph_nodes TX⟩
    have oBut : ButM P w K mg base CG := ⟨_, _, M_Graph_nodes_but, B_Graph_nodes_but, ok_but F_Graph_nodes_but TX oNodes⟩
    have oMakeG : MakeG P w K mg base CG := ⟨_, _, ⟨mk_Graph, a_Graph_init, i_Graph_init, kc_Graph⟩, B_Graph_init, ok_ginit F_Graph_init TX⟩
    have oMay : MayF P w K mg base CG := ⟨_, _, m_may_be_edge, k_may_be_edge, B_may_be_edge, ok_may F_may_be_edge TX oHas⟩
    have oGo : GoF P w K mg base := ⟨_, _, m_go_edge, k_go_edge, B_go_edge, ok_go F_go_edge⟩
    have oLens : LensF P w K mg base CG := ⟨_, _, m_lengths_from, k_lengths_from, B_lengths_from, ok_lens F_lengths_from TX oGo⟩
    have oBef : BefF P w K mg base CG := ⟨_, _, m_nodes_before, k_nodes_before, B_nodes_before, ok_bef F_nodes_before TX⟩
    have oTots : TotsF P w K mg base CG [(P1, lamQ), (P2, lamQ2)] := ⟨_, _, m_totals_from, k_totals_from, B_totals_from, ok_tots F_totals_from rfl TX x_sorted x_sum TT1 oBef⟩
    have oMakeS : MakeS P w K mg base CG CS [(P1, lamQ), (P2, lamQ2)] := ⟨_, _, ⟨mk_Shortest, a_Shortest_init, i_Shortest_init, kc_Shortest⟩, B_Shortest_init, ok_sinit F_Shortest_init TX TS oLens oTots oNodes⟩
    have oTotal : TotalM P w K mg base CS := ⟨_, _, M_Shortest_total, B_Shortest_total, ok_total F_Shortest_total TS⟩
    have oOver : OverM P w K mg base CS := ⟨_, _, M_Shortest_total_over, B_Shortest_total_over, ok_over F_Shortest_total_over TS oTotal⟩
    have oTotBy : TotByM P w K mg base CS := ⟨_, _, M_Shortest_total_by, B_Shortest_total_by, ok_totby F_Shortest_total_by TS oOver⟩
    have oAllBy : AllByM P w K mg base CS := ⟨_, _, M_Shortest_all_by, B_Shortest_all_by, ok_allby F_Shortest_all_by TS oTotal oTotBy⟩
    have oStep : StepM P w K mg base CG CS := ⟨_, _, M_Shortest_is_step, B_Shortest_is_step, ok_isstep F_Shortest_is_step TX TS⟩
    have oSteps : StepsM P w K mg base CG CS := ⟨_, _, M_Shortest_steps, B_Shortest_steps, ok_steps F_Shortest_steps TX TS oNodes oStep⟩
    have oNum : NumF P w K mg base CG CS := ⟨_, _, m_numbered_way, k_numbered_way, B_numbered_way, ok_num F_numbered_way TX TS oSteps oTotal⟩
    have oGcd : GcdF P w K mg base := ⟨_, _, m_greatest_divisor, k_greatest_divisor, B_greatest_divisor, ok_gcd F_greatest_divisor⟩
    have oFrac : FracF P w K mg base := ⟨_, _, m_fraction, k_fraction, B_fraction, ok_frac F_fraction oGcd⟩
    have oTog : TogF P w K mg base := ⟨_, _, m_together, k_together, B_together, ok_tog F_together oFrac⟩
    have oPart : PartF P w K mg base := ⟨_, _, m_part, k_part, B_part, ok_part F_part oFrac⟩
    have oLies : LiesF P w K mg base CG CS := ⟨_, _, m_lies_between, k_lies_between, B_lies_between, ok_lies F_lies_between TX TS oBut oTotal oTotBy oPart oTog⟩
    have oOth : OthF P w K mg base CG := ⟨_, _, m_lengths_to_others, k_lengths_to_others, B_lengths_to_others, ok_oth F_lengths_to_others TX oLens⟩
    have oHP : HPF P w K mg base CG [(P1, lamQ), (P2, lamQ2)] := ⟨_, _, m_hurt_pairs, k_hurt_pairs, B_hurt_pairs, ok_hp F_hurt_pairs TX TS oMakeS oBut oAllBy⟩
    have oCommon : CommonF P w K mg base := ⟨_, _, m_common_below, k_common_below, B_common_below, ok_common F_common_below oGcd⟩
    have oFirst : FirstF P w K mg base [(P1, lamQ), (P2, lamQ2)] := ⟨_, _, m_greatest_first, k_greatest_first, B_greatest_first, ok_first F_greatest_first rfl x_sorted TT2 oCommon⟩
    have oCall : CallF P w K mg base CG [(P1, lamQ), (P2, lamQ2)] 9 := ⟨_, _, m_answer_call, k_answer_call, B_answer_call, ok_call F_answer_call NM
      ⟨_, _, m_node, k_node, B_node, ok_node F_node TX⟩
      ⟨_, _, m_edge, k_edge, B_edge, ok_edge F_edge TX oMay⟩
      ⟨_, _, m_cut, k_cut, B_cut, ok_cut F_cut TX⟩
      ⟨_, _, m_far, k_far, B_far, ok_far F_far TX TS oHas oMakeS oTotal⟩
      ⟨_, _, m_way, k_way, B_way, ok_way F_way TX TS oHas oMakeS oTotal oNum⟩
      ⟨_, _, m_between, k_between, B_between, ok_between F_between TX TS oHas oMakeS oLies⟩
      ⟨_, _, m_share, k_share, B_share, ok_share F_share TX TS oMakeS oNodes oTotal oOver oPart oTog⟩
      ⟨_, _, m_ranking, k_ranking, B_ranking, ok_rank F_ranking TX TS oMakeS oNodes oLies oFirst⟩
      ⟨_, _, m_near, k_near, B_near, ok_near F_near TX x_sum x_max oHas oOth⟩
      ⟨_, _, m_needed, k_needed, B_needed, ok_need F_needed TX TS oHas oMakeS oTotal oBut oAllBy⟩
      ⟨_, _, m_hurt, k_hurt, B_hurt, ok_hurt F_hurt TX oHas oHP⟩
      ⟨_, _, m_middle, k_middle, B_middle, ok_mid F_middle TX x_max x_min oNodes oOth⟩⟩
    exact ok_answers F_answers TX oMakeG oCall (by decide) mgt tot
  · rcases List.mem_cons.mp hp with z | z
    · rw [z]
      exact LamX.TabS.nil (hH _ List.mem_cons_self)
    · rw [List.mem_singleton.mp z]
      exact LamX.TabS.nil (hH _ (List.mem_cons_of_mem _ List.mem_cons_self))
end WF
end
set_option Elab.async false
set_option linter.all false
open PySem PySem.W PyProof.Rows
set_option maxRecDepth 100000 in
set_option maxHeartbeats 0 in
theorem PySem.Challenge.cw_waysbetween_s01_answers_holds : PySem.Challenge.rw_waysbetween_s01_answers.Holds := by
  w_on
  k_headS
  case hw => exact ⟨[.list [.int 0]], by decide +kernel, by decide +kernel⟩
  k_fillS
  refine WE.walk_specT (r := PySem.Challenge.rw_waysbetween_s01_answers) (k := 10) (CX := L2.CX0) (ps := ["calls"]) (xs := ["totals_from", "greatest_first"]) (by decide +kernel) rfl rfl ⟨rfl, by decide, by decide⟩ (fun w h Y => PySem.W.kIn_of Y) (by decide +kernel) ?F (fun _ _ _ _ z => z)
  case F =>
    intro w mg fa h Y KX G hmg
    obtain ⟨fd, cs, T, q1, q2, q3, q4, q5⟩ : ∃ (fd : FuncData) (cs : List (Addr × Addr)) (T : List (Addr × Str)), _ ∧ _ ∧ _ ∧ _ ∧ _ := by
      refine' WF.all_mk (P := PySem.Challenge.rw_waysbetween_s01_answers.prog) (w := w) KX G hmg ?a_node ?l_node ?c_node ?k_node ?a_edge ?l_edge ?c_edge ?k_edge ?a_may_be_edge ?l_may_be_edge ?c_may_be_edge ?k_may_be_edge ?a_cut ?l_cut ?c_cut ?k_cut ?a_lengths_from ?l_lengths_from ?c_lengths_from ?k_lengths_from ?a_go_edge ?l_go_edge ?c_go_edge ?k_go_edge ?a_totals_from ?l_totals_from ?c_totals_from ?k_totals_from ?a_nodes_before ?l_nodes_before ?c_nodes_before ?k_nodes_before ?a_far ?l_far ?c_far ?k_far ?a_way ?l_way ?c_way ?k_way ?a_numbered_way ?l_numbered_way ?c_numbered_way ?k_numbered_way ?a_near ?l_near ?c_near ?k_near ?a_lengths_to_others ?l_lengths_to_others ?c_lengths_to_others ?k_lengths_to_others ?a_middle ?l_middle ?c_middle ?k_middle ?a_needed ?l_needed ?c_needed ?k_needed ?a_hurt ?l_hurt ?c_hurt ?k_hurt ?a_hurt_pairs ?l_hurt_pairs ?c_hurt_pairs ?k_hurt_pairs ?a_fraction ?l_fraction ?c_fraction ?k_fraction ?a_greatest_divisor ?l_greatest_divisor ?c_greatest_divisor ?k_greatest_divisor ?a_together ?l_together ?c_together ?k_together ?a_common_below ?l_common_below ?c_common_below ?k_common_below ?a_between ?l_between ?c_between ?k_between ?a_lies_between ?l_lies_between ?c_lies_between ?k_lies_between ?a_part ?l_part ?c_part ?k_part ?a_share ?l_share ?c_share ?k_share ?a_ranking ?l_ranking ?c_ranking ?k_ranking ?a_greatest_first ?l_greatest_first ?c_greatest_first ?k_greatest_first ?a_answers ?l_answers ?c_answers ?k_answers ?a_answer_call ?l_answer_call ?c_answer_call ?k_answer_call ?a_Graph_init ?i_Graph_init ?l_Graph_init ?c_Graph_init ?k_Graph_init ?a_Graph_nodes ?i_Graph_nodes ?l_Graph_nodes ?c_Graph_nodes ?k_Graph_nodes ?a_Graph_nodes_but ?i_Graph_nodes_but ?l_Graph_nodes_but ?c_Graph_nodes_but ?k_Graph_nodes_but ?a_Graph_has_node ?i_Graph_has_node ?l_Graph_has_node ?c_Graph_has_node ?k_Graph_has_node ?a_Shortest_init ?i_Shortest_init ?l_Shortest_init ?c_Shortest_init ?k_Shortest_init ?a_Shortest_total ?i_Shortest_total ?l_Shortest_total ?c_Shortest_total ?k_Shortest_total ?a_Shortest_total_by ?i_Shortest_total_by ?l_Shortest_total_by ?c_Shortest_total_by ?k_Shortest_total_by ?a_Shortest_total_over ?i_Shortest_total_over ?l_Shortest_total_over ?c_Shortest_total_over ?k_Shortest_total_over ?a_Shortest_all_by ?i_Shortest_all_by ?l_Shortest_all_by ?c_Shortest_all_by ?k_Shortest_all_by ?a_Shortest_steps ?i_Shortest_steps ?l_Shortest_steps ?c_Shortest_steps ?k_Shortest_steps ?a_Shortest_is_step ?i_Shortest_is_step ?l_Shortest_is_step ?c_Shortest_is_step ?k_Shortest_is_step ?g_Graph ?pg_Graph ?hd_Graph ?po_Graph ?sa_Graph ?mk_Graph ?kc_Graph ?g_Shortest ?pg_Shortest ?hd_Shortest ?po_Shortest ?sa_Shortest ?mk_Shortest ?kc_Shortest ?n_node_total ?n_edges ?n_lengths ?n_totals ?b_list ?b_range ?b_len ?b_sum ?b_max ?b_min ?b_sorted ?v_FULL ?v_NOT_AS_TOLD ?v_NOT_THERE ?v_THERE_ALREADY ?v_MOST_NODES ?v_LONGEST_EDGE ?v_NODE ?v_EDGE ?v_CUT ?v_FAR ?v_WAY ?v_BETWEEN ?v_SHARE ?v_RANKING ?v_NEAR ?v_NEEDED ?v_HURT ?g_GT ?l_GT ?z_GT ?r_GT ?t1_l ?t1_p ?t1_n ?t2_l ?t2_p ?t2_n ?t_ne
      case g_Graph => k_is
      case pg_Graph => k_is
      case hd_Graph => k_is
      case po_Graph => k_is
      case sa_Graph => k_is
      case mk_Graph => k_is
      case kc_Graph => k_is
      case g_Shortest => k_is
      case pg_Shortest => k_is
      case hd_Shortest => k_is
      case po_Shortest => k_is
      case sa_Shortest => k_is
      case mk_Shortest => k_is
      case kc_Shortest => k_is
      case a_node => k_is
      case l_node => k_is
      case c_node => k_is
      case k_node => k_is
      case a_edge => k_is
      case l_edge => k_is
      case c_edge => k_is
      case k_edge => k_is
      case a_may_be_edge => k_is
      case l_may_be_edge => k_is
      case c_may_be_edge => k_is
      case k_may_be_edge => k_is
      case a_cut => k_is
      case l_cut => k_is
      case c_cut => k_is
      case k_cut => k_is
      case a_lengths_from => k_is
      case l_lengths_from => k_is
      case c_lengths_from => k_is
      case k_lengths_from => k_is
      case a_go_edge => k_is
      case l_go_edge => k_is
      case c_go_edge => k_is
      case k_go_edge => k_is
      case a_totals_from => k_is
      case l_totals_from => k_is
      case c_totals_from => k_is
      case k_totals_from => k_is
      case a_nodes_before => k_is
      case l_nodes_before => k_is
      case c_nodes_before => k_is
      case k_nodes_before => k_is
      case a_far => k_is
      case l_far => k_is
      case c_far => k_is
      case k_far => k_is
      case a_way => k_is
      case l_way => k_is
      case c_way => k_is
      case k_way => k_is
      case a_numbered_way => k_is
      case l_numbered_way => k_is
      case c_numbered_way => k_is
      case k_numbered_way => k_is
      case a_near => k_is
      case l_near => k_is
      case c_near => k_is
      case k_near => k_is
      case a_lengths_to_others => k_is
      case l_lengths_to_others => k_is
      case c_lengths_to_others => k_is
      case k_lengths_to_others => k_is
      case a_middle => k_is
      case l_middle => k_is
      case c_middle => k_is
      case k_middle => k_is
      case a_needed => k_is
      case l_needed => k_is
      case c_needed => k_is
      case k_needed => k_is
      case a_hurt => k_is
      case l_hurt => k_is
      case c_hurt => k_is
      case k_hurt => k_is
      case a_hurt_pairs => k_is
      case l_hurt_pairs => k_is
      case c_hurt_pairs => k_is
      case k_hurt_pairs => k_is
      case a_fraction => k_is
      case l_fraction => k_is
      case c_fraction => k_is
      case k_fraction => k_is
      case a_greatest_divisor => k_is
      case l_greatest_divisor => k_is
      case c_greatest_divisor => k_is
      case k_greatest_divisor => k_is
      case a_together => k_is
      case l_together => k_is
      case c_together => k_is
      case k_together => k_is
      case a_common_below => k_is
      case l_common_below => k_is
      case c_common_below => k_is
      case k_common_below => k_is
      case a_between => k_is
      case l_between => k_is
      case c_between => k_is
      case k_between => k_is
      case a_lies_between => k_is
      case l_lies_between => k_is
      case c_lies_between => k_is
      case k_lies_between => k_is
      case a_part => k_is
      case l_part => k_is
      case c_part => k_is
      case k_part => k_is
      case a_share => k_is
      case l_share => k_is
      case c_share => k_is
      case k_share => k_is
      case a_ranking => k_is
      case l_ranking => k_is
      case c_ranking => k_is
      case k_ranking => k_is
      case a_greatest_first => k_is
      case l_greatest_first => k_is
      case c_greatest_first => k_is
      case k_greatest_first => k_is
      case a_answers => k_is
      case l_answers => k_is
      case c_answers => k_is
      case k_answers => k_is
      case a_answer_call => k_is
      case l_answer_call => k_is
      case c_answer_call => k_is
      case k_answer_call => k_is
      case a_Graph_init => k_is
      case i_Graph_init => k_is
      case l_Graph_init => k_is
      case c_Graph_init => k_is
      case k_Graph_init => k_is
      case a_Graph_nodes => k_is
      case i_Graph_nodes => k_is
      case l_Graph_nodes => k_is
      case c_Graph_nodes => k_is
      case k_Graph_nodes => k_is
      case a_Graph_nodes_but => k_is
      case i_Graph_nodes_but => k_is
      case l_Graph_nodes_but => k_is
      case c_Graph_nodes_but => k_is
      case k_Graph_nodes_but => k_is
      case a_Graph_has_node => k_is
      case i_Graph_has_node => k_is
      case l_Graph_has_node => k_is
      case c_Graph_has_node => k_is
      case k_Graph_has_node => k_is
      case a_Shortest_init => k_is
      case i_Shortest_init => k_is
      case l_Shortest_init => k_is
      case c_Shortest_init => k_is
      case k_Shortest_init => k_is
      case a_Shortest_total => k_is
      case i_Shortest_total => k_is
      case l_Shortest_total => k_is
      case c_Shortest_total => k_is
      case k_Shortest_total => k_is
      case a_Shortest_total_by => k_is
      case i_Shortest_total_by => k_is
      case l_Shortest_total_by => k_is
      case c_Shortest_total_by => k_is
      case k_Shortest_total_by => k_is
      case a_Shortest_total_over => k_is
      case i_Shortest_total_over => k_is
      case l_Shortest_total_over => k_is
      case c_Shortest_total_over => k_is
      case k_Shortest_total_over => k_is
      case a_Shortest_all_by => k_is
      case i_Shortest_all_by => k_is
      case l_Shortest_all_by => k_is
      case c_Shortest_all_by => k_is
      case k_Shortest_all_by => k_is
      case a_Shortest_steps => k_is
      case i_Shortest_steps => k_is
      case l_Shortest_steps => k_is
      case c_Shortest_steps => k_is
      case k_Shortest_steps => k_is
      case a_Shortest_is_step => k_is
      case i_Shortest_is_step => k_is
      case l_Shortest_is_step => k_is
      case c_Shortest_is_step => k_is
      case k_Shortest_is_step => k_is
      case n_node_total => k_is
      case n_edges => k_is
      case n_lengths => k_is
      case n_totals => k_is
      case b_list => k_is
      case b_range => k_is
      case b_len => k_is
      case b_sum => k_is
      case b_max => k_is
      case b_min => k_is
      case b_sorted => k_is
      case v_FULL => exact ⟨_, by k_is⟩
      case v_NOT_AS_TOLD => exact ⟨_, by k_is⟩
      case v_NOT_THERE => exact ⟨_, by k_is⟩
      case v_THERE_ALREADY => exact ⟨_, by k_is⟩
      case v_MOST_NODES => exact ⟨_, by k_is⟩
      case v_LONGEST_EDGE => exact ⟨_, by k_is⟩
      case v_NODE => exact ⟨_, by k_is⟩
      case v_EDGE => exact ⟨_, by k_is⟩
      case v_CUT => exact ⟨_, by k_is⟩
      case v_FAR => exact ⟨_, by k_is⟩
      case v_WAY => exact ⟨_, by k_is⟩
      case v_BETWEEN => exact ⟨_, by k_is⟩
      case v_SHARE => exact ⟨_, by k_is⟩
      case v_RANKING => exact ⟨_, by k_is⟩
      case v_NEAR => exact ⟨_, by k_is⟩
      case v_NEEDED => exact ⟨_, by k_is⟩
      case v_HURT => exact ⟨_, by k_is⟩
      case g_GT => k_is
      case l_GT => k_is
      case z_GT => decide +kernel
      case r_GT => exact Paired.cons ⟨_, rfl⟩ (Paired.cons ⟨_, rfl⟩ (Paired.cons ⟨_, rfl⟩ (Paired.cons ⟨_, rfl⟩ (Paired.cons ⟨_, rfl⟩ (Paired.cons ⟨_, rfl⟩ (Paired.cons ⟨_, rfl⟩ (Paired.cons ⟨_, rfl⟩ (Paired.cons ⟨_, rfl⟩ (Paired.cons ⟨_, rfl⟩ (Paired.cons ⟨_, rfl⟩ (Paired.cons ⟨_, rfl⟩ (Paired.nil))))))))))))
      case t1_l => k_is
      case t1_p => rfl
      case t1_n => kernel_rfl
      case t2_l => k_is
      case t2_p => rfl
      case t2_n => kernel_rfl
      case t_ne => decide
    refine ⟨fd, cs, WF.spAns _ T, q1, q2, q3, q4, ?_⟩
    intro H vs a hH hwi hask hx
    cases hx with
    | cons h1 h2 =>
      cases h2
      cases h1 with
      | lst hs ha =>
        have e := L2.ints_dw a.1 _ ha
        subst e
        have ask : PyGq05.answers_asked a.1 = true := hask
        obtain ⟨cs', e1, e2, e3, e4, e5⟩ := WB.asked_calls ask
        have q : ((Codec.inLen 0 160 a.1 && a.1.all (Codec.inInt 0 4294967295)) && true) = true := hwi
        rw [Bool.and_eq_true, Bool.and_eq_true] at q
        have hlen := (Codec.inNat_iff.mp q.1.1).2
        refine ⟨_, cs', rfl, ?_, e3, e5, ?_, q5 H hH, fun H' p hp => ?_⟩
        · rw [← e1]
          exact hs
        · rw [← e1]
          omega
        · have e6 : Codec.app PySem.Challenge.rw_waysbetween_s01_answers.args PySem.Challenge.rw_waysbetween_s01_answers.f a = WB.runC ⟨0, []⟩ cs' := e4
          rw [e6]
          exact .lst (L2.SqL.of hp) (L2.dw_ints _)
#print axioms PySem.Challenge.cw_waysbetween_s01_answers_holds
