import VbevzzLaw
namespace Ev

/-! Sums over the first numbers -/
def sm : Nat → (Nat → Nat) → Nat
  | 0, _ => 0
  | n + 1, f => sm n f + f n

theorem sm_congr {n : Nat} {f g : Nat → Nat} (h : ∀ i, i < n → f i = g i) : sm n f = sm n g := by
  induction n with
  | zero => rfl
  | succ n ih => simp only [sm]; rw [ih (fun i hi => h i (by omega)), h n (by omega)]
theorem sm_le {n : Nat} {f g : Nat → Nat} (h : ∀ i, i < n → f i ≤ g i) : sm n f ≤ sm n g := by
  induction n with
  | zero => exact Nat.le_refl _
  | succ n ih => simp only [sm]; exact Nat.add_le_add (ih (fun i hi => h i (by omega))) (h n (by omega))
theorem sm_add (n : Nat) (f g : Nat → Nat) : sm n (fun i => f i + g i) = sm n f + sm n g := by
  induction n with
  | zero => rfl
  | succ n ih => simp only [sm]; rw [ih]; omega
theorem sm_zero {n : Nat} {f : Nat → Nat} (h : ∀ i, i < n → f i = 0) : sm n f = 0 := by
  induction n with
  | zero => rfl
  | succ n ih => simp only [sm]; rw [ih (fun i hi => h i (by omega)), h n (by omega)]
theorem sm_zero' (n : Nat) : sm n (fun _ => 0) = 0 := sm_zero (fun _ _ => rfl)
theorem sm_comm (n m : Nat) (f : Nat → Nat → Nat) : sm n (fun i => sm m (fun j => f i j)) = sm m (fun j => sm n (fun i => f i j)) := by
  induction n with
  | zero => simp only [sm]; exact (sm_zero' m).symm
  | succ n ih => simp only [sm]; rw [ih, sm_add]
theorem sm_pick (n k : Nat) (f : Nat → Nat) : sm n (fun i => if k = i then f i else 0) = if k < n then f k else 0 := by
  induction n with
  | zero => simp [sm]
  | succ n ih =>
    simp only [sm]; rw [ih]
    by_cases h1 : k = n
    · subst h1; simp
    · by_cases h2 : k < n
      · have : k < n + 1 := by omega
        simp [h1, h2, this]
      · have : ¬ k < n + 1 := by omega
        simp [h1, h2, this]
theorem sm_if (n : Nat) (P : Prop) [Decidable P] (f : Nat → Nat) : sm n (fun i => if P then f i else 0) = if P then sm n f else 0 := by
  by_cases h : P
  · simp [h]
  · simp [h, sm_zero']
/-- one summand is another one -/
theorem sm_one {n k : Nat} {f g : Nat → Nat} (hk : k < n) (h : ∀ i, i < n → i ≠ k → f i = g i) : sm n f + g k = sm n g + f k := by
  induction n with
  | zero => omega
  | succ n ih =>
    simp only [sm]
    by_cases e : k = n
    · subst e
      rw [sm_congr (fun i hi => h i (by omega) (by omega))]; omega
    · have := ih (by omega) (fun i hi => h i (by omega))
      have := h n (by omega) (by omega)
      omega
theorem sm_mem_le {n k : Nat} {f : Nat → Nat} (hk : k < n) : f k ≤ sm n f := by
  induction n with
  | zero => omega
  | succ n ih =>
    simp only [sm]
    by_cases e : k = n
    · subst e; omega
    · have := ih (by omega); omega

/-! Lists and sums -/
open Vbevzz
theorem sumOf_eq (l : List Nat) : sumOf l = l.sum := by
  have : ∀ (l : List Nat) (a : Nat), l.foldl (fun a b => a + b) a = a + l.sum := by
    intro l
    induction l with
    | nil => intro a; simp
    | cons x l ih => intro a; simp only [List.foldl_cons, List.sum_cons]; rw [ih]; omega
  unfold sumOf
  rw [this]; omega
theorem sum_range (n : Nat) (f : Nat → Nat) : ((List.range n).map f).sum = sm n f := by
  induction n with
  | zero => rfl
  | succ n ih => rw [List.range_succ]; simp [sm, ih]
theorem sum_filter (l : List Nat) (p : Nat → Bool) (f : Nat → Nat) : ((l.filter p).map f).sum = (l.map (fun t => if p t = true then f t else 0)).sum := by
  induction l with
  | nil => rfl
  | cons x l ih =>
    by_cases h : p x = true
    · simp [List.filter_cons, h, ih]
    · simp [List.filter_cons, h, ih]
theorem sum_getD {α : Type} (d : α) (l : List α) (f : α → Nat) : (l.map f).sum = sm l.length (fun i => f (l.getD i d)) := by
  have key : ∀ (k : Nat), k ≤ l.length → ((l.take k).map f).sum = sm k (fun i => f (l.getD i d)) := by
    intro k
    induction k with
    | zero => intro _; simp [sm]
    | succ k ih =>
      intro hk
      have hk' : k < l.length := by omega
      rw [List.take_succ_eq_append_getElem hk']
      simp only [List.map_append, List.map_cons, List.map_nil, List.sum_append, List.sum_cons, List.sum_nil, sm]
      rw [ih (by omega)]
      simp [List.getD_eq_getElem?_getD, hk']
  have := key l.length (Nat.le_refl _)
  rwa [List.take_length] at this
theorem sum_zipIdx {α : Type} (d : α) (l : List α) (f : α × Nat → Nat) : (l.zipIdx.map f).sum = sm l.length (fun i => f (l.getD i d, i)) := by
  rw [sum_getD (d, 0), List.length_zipIdx]
  apply sm_congr
  intro i hi
  simp [List.getD_eq_getElem?_getD, hi]
theorem sum_minutes (T now : Nat) (f : Nat → Nat) : (((List.range T).filter fun t => decide (now ≤ t)).map f).sum = sm T (fun t => if now ≤ t then f t else 0) := by
  rw [sum_filter, sum_range]
  apply sm_congr; intro i _; simp
end Ev
namespace Ev

/-! A net in time, told by functions. cum v k: how many appear at v ahead of minute k. -/
structure Net where
  P : Nat
  T : Nat
  now : Nat
  n : Nat
  fr : Nat → Nat
  to : Nat → Nat
  sp : Nat → Nat
  rate : Nat → Nat → Nat
  cum : Nat → Nat → Nat

abbrev Pl := Nat → Nat → Nat

def Net.into (N : Net) (p : Pl) (v k : Nat) : Nat :=
  sm N.n (fun a => if N.to a = v then sm N.T (fun s => if N.now ≤ s ∧ s + N.sp a < k then p a s else 0) else 0)
def Net.came (N : Net) (p : Pl) (v k : Nat) : Nat := N.cum v k + N.into p v k
def Net.left (N : Net) (p : Pl) (v k : Nat) : Nat :=
  sm N.n (fun a => if N.fr a = v then sm N.T (fun s => if N.now ≤ s ∧ s < k then p a s else 0) else 0)
def Net.Ok (N : Net) (p : Pl) : Prop :=
  (∀ a, a < N.n → ∀ s, N.now ≤ s → s < N.T → p a s ≤ N.rate a s) ∧
  ∀ v, v < N.P → ∀ s, N.now ≤ s → s < N.T → N.left p v (s + 1) ≤ N.came p v (s + 1)
def Net.through (N : Net) (K : Nat → Nat) : Nat :=
  sm N.P (fun v => N.cum v (K v)) +
  sm N.n (fun a => sm N.T (fun s => if N.now ≤ s ∧ K (N.fr a) ≤ s ∧ s + N.sp a < K (N.to a) then N.rate a s else 0))
/-- ways as they must be -/
structure Net.Wf (N : Net) : Prop where
  pos : 0 < N.P
  fr_lt : ∀ a, a < N.n → N.fr a < N.P
  to_lt : ∀ a, a < N.n → N.to a < N.P
  fr_ne : ∀ a, a < N.n → N.fr a ≠ 0
  sp_pos : ∀ a, a < N.n → 1 ≤ N.sp a
  mono : ∀ v k, N.cum v k ≤ N.cum v (k + 1)

theorem Net.left_exit {N : Net} (w : N.Wf) (p : Pl) (k : Nat) : N.left p 0 k = 0 := by
  apply sm_zero; intro a ha; rw [if_neg (w.fr_ne a ha)]

theorem Net.cum_mono {N : Net} (w : N.Wf) (v : Nat) {k l : Nat} (h : k ≤ l) : N.cum v k ≤ N.cum v l := by
  induction l with
  | zero => have : k = 0 := by omega
            subst this; exact Nat.le_refl _
  | succ l ih =>
    by_cases e : k = l + 1
    · subst e; exact Nat.le_refl _
    · exact Nat.le_trans (ih (by omega)) (w.mono v l)
theorem Net.into_mono (N : Net) (p : Pl) (v : Nat) {k l : Nat} (h : k ≤ l) : N.into p v k ≤ N.into p v l := by
  apply sm_le; intro a _
  by_cases e : N.to a = v
  · rw [if_pos e, if_pos e]; apply sm_le; intro s _
    by_cases e2 : N.now ≤ s ∧ s + N.sp a < k
    · rw [if_pos e2, if_pos ⟨e2.1, by omega⟩]; exact Nat.le_refl _
    · rw [if_neg e2]; exact Nat.zero_le _
  · rw [if_neg e, if_neg e]; exact Nat.le_refl _
theorem Net.came_mono {N : Net} (w : N.Wf) (p : Pl) (v : Nat) {k l : Nat} (h : k ≤ l) : N.came p v k ≤ N.came p v l :=
  Nat.add_le_add (N.cum_mono w v h) (N.into_mono p v h)

/-- nobody has left who has not come, at whatever minute -/
theorem Net.Ok.all {N : Net} (w : N.Wf) {p : Pl} (h : N.Ok p) (v : Nat) (hv : v < N.P) (k : Nat) : N.left p v k ≤ N.came p v k := by
  by_cases h1 : k ≤ N.now
  · have : N.left p v k = 0 := by
      apply sm_zero; intro a _
      by_cases e : N.fr a = v
      · rw [if_pos e]; apply sm_zero; intro s _; rw [if_neg (by omega)]
      · rw [if_neg e]
    omega
  · by_cases h2 : k ≤ N.T
    · have := h.2 v hv (k - 1) (by omega) (by omega)
      rwa [show k - 1 + 1 = k by omega] at this
    · by_cases h3 : N.now < N.T
      · have := h.2 v hv (N.T - 1) (by omega) (by omega)
        rw [show N.T - 1 + 1 = N.T by omega] at this
        have e : N.left p v k = N.left p v N.T := by
          apply sm_congr; intro a _
          by_cases e : N.fr a = v
          · rw [if_pos e, if_pos e]; apply sm_congr; intro s hs
            by_cases e2 : N.now ≤ s
            · rw [if_pos ⟨e2, by omega⟩, if_pos ⟨e2, hs⟩]
            · rw [if_neg (by omega), if_neg (by omega)]
          · rw [if_neg e, if_neg e]
        rw [e]
        exact Nat.le_trans this (N.came_mono w p v (by omega))
      · have : N.left p v k = 0 := by
          apply sm_zero; intro a _
          by_cases e : N.fr a = v
          · rw [if_pos e]; apply sm_zero; intro s _; rw [if_neg (by omega)]
          · rw [if_neg e]
        omega

theorem Net.sum_came {N : Net} (w : N.Wf) (p : Pl) (K : Nat → Nat) :
    sm N.P (fun v => N.came p v (K v)) = sm N.P (fun v => N.cum v (K v)) +
      sm N.n (fun a => sm N.T (fun s => if N.now ≤ s ∧ s + N.sp a < K (N.to a) then p a s else 0)) := by
  simp only [Net.came, Net.into]
  rw [sm_add, sm_comm]
  congr 1
  apply sm_congr; intro a ha
  rw [sm_pick N.P (N.to a) (fun v => sm N.T (fun s => if N.now ≤ s ∧ s + N.sp a < K v then p a s else 0)), if_pos (w.to_lt a ha)]
theorem Net.sum_left {N : Net} (w : N.Wf) (p : Pl) (K : Nat → Nat) :
    sm N.P (fun v => N.left p v (K v)) =
      sm N.n (fun a => sm N.T (fun s => if N.now ≤ s ∧ s < K (N.fr a) then p a s else 0)) := by
  simp only [Net.left]
  rw [sm_comm]
  apply sm_congr; intro a ha
  rw [sm_pick N.P (N.fr a) (fun v => sm N.T (fun s => if N.now ≤ s ∧ s < K v then p a s else 0)), if_pos (w.fr_lt a ha)]

/-- by no minute has a plan more people out than a cut lets through -/
theorem Net.weak {N : Net} (w : N.Wf) {p : Pl} (h : N.Ok p) (K : Nat → Nat) : N.came p 0 (K 0) ≤ N.through K := by
  have h1 : sm N.P (fun v => (if 0 = v then N.came p v (K v) else 0) + N.left p v (K v)) ≤ sm N.P (fun v => N.came p v (K v)) := by
    apply sm_le; intro v hv
    by_cases e : 0 = v
    · subst e; rw [if_pos rfl, N.left_exit w]; omega
    · rw [if_neg e]; have := h.all w v hv (K v); omega
  rw [sm_add, sm_pick N.P 0 (fun v => N.came p v (K v)), if_pos w.pos, N.sum_left w, N.sum_came w] at h1
  have h2 : sm N.n (fun a => sm N.T (fun s => if N.now ≤ s ∧ s + N.sp a < K (N.to a) then p a s else 0)) ≤
      sm N.n (fun a => sm N.T (fun s => if N.now ≤ s ∧ K (N.fr a) ≤ s ∧ s + N.sp a < K (N.to a) then N.rate a s else 0)) +
      sm N.n (fun a => sm N.T (fun s => if N.now ≤ s ∧ s < K (N.fr a) then p a s else 0)) := by
    rw [← sm_add]; apply sm_le; intro a ha
    rw [← sm_add]; apply sm_le; intro s hs
    have := h.1 a ha s
    by_cases e1 : N.now ≤ s
    · have := this e1 hs
      by_cases e2 : s < K (N.fr a)
      · rw [if_pos (show N.now ≤ s ∧ s < K (N.fr a) from ⟨e1, e2⟩)]
        split <;> omega
      · by_cases e3 : s + N.sp a < K (N.to a)
        · rw [if_pos ⟨e1, e3⟩, if_pos ⟨e1, by omega, e3⟩]; omega
        · rw [if_neg (by omega)]; omega
    · rw [if_neg (by omega)]; omega
  unfold Net.through
  omega

/-- a cut that is met: who could leave has left, what is ahead is full, what is behind is empty -/
theorem Net.strong {N : Net} (w : N.Wf) {p : Pl} (K : Nat → Nat)
    (h : ∀ v, v ≠ 0 → v < N.P → N.came p v (K v) ≤ N.left p v (K v))
    (full : ∀ a, a < N.n → ∀ s, N.now ≤ s → s < N.T → K (N.fr a) ≤ s → s + N.sp a < K (N.to a) → N.rate a s ≤ p a s)
    (none : ∀ a, a < N.n → ∀ s, N.now ≤ s → s < N.T → s < K (N.fr a) → ¬ s + N.sp a < K (N.to a) → p a s = 0) :
    N.through K ≤ N.came p 0 (K 0) := by
  have h1 : sm N.P (fun v => N.came p v (K v)) ≤ sm N.P (fun v => (if 0 = v then N.came p v (K v) else 0) + N.left p v (K v)) := by
    apply sm_le; intro v hv
    by_cases e : 0 = v
    · subst e; rw [if_pos rfl]; omega
    · rw [if_neg e]; have := h v (fun q => e q.symm) hv; omega
  rw [sm_add, sm_pick N.P 0 (fun v => N.came p v (K v)), if_pos w.pos, N.sum_left w, N.sum_came w] at h1
  have h2 : sm N.n (fun a => sm N.T (fun s => if N.now ≤ s ∧ K (N.fr a) ≤ s ∧ s + N.sp a < K (N.to a) then N.rate a s else 0)) +
      sm N.n (fun a => sm N.T (fun s => if N.now ≤ s ∧ s < K (N.fr a) then p a s else 0)) ≤
      sm N.n (fun a => sm N.T (fun s => if N.now ≤ s ∧ s + N.sp a < K (N.to a) then p a s else 0)) := by
    rw [← sm_add]; apply sm_le; intro a ha
    rw [← sm_add]; apply sm_le; intro s hs
    by_cases e1 : N.now ≤ s
    · by_cases e2 : s < K (N.fr a)
      · by_cases e3 : s + N.sp a < K (N.to a)
        · rw [if_neg (by omega), if_pos ⟨e1, e2⟩, if_pos ⟨e1, e3⟩]; omega
        · have := none a ha s e1 hs e2 e3
          rw [if_neg (by omega), if_pos ⟨e1, e2⟩, if_neg (by omega), this]; omega
      · by_cases e3 : s + N.sp a < K (N.to a)
        · have := full a ha s e1 hs (by omega) e3
          rw [if_pos ⟨e1, by omega, e3⟩, if_neg (by omega), if_pos ⟨e1, e3⟩]; omega
        · rw [if_neg (by omega), if_neg (by omega)]; omega
    · rw [if_neg (by omega), if_neg (by omega)]; omega
  unfold Net.through
  omega
end Ev
namespace Ev
open Vbevzz (Case Plan sumOf rateAt getAt setAt)

def w0 : Vbevzz.Way := ⟨0, 0, 0, []⟩
def wy (c : Case) (a : Nat) : Vbevzz.Way := c.ways.getD a w0
def g0 : Vbevzz.Group := ⟨0, 0, 0⟩
def gr (c : Case) (g : Nat) : Vbevzz.Group := c.groups.getD g g0

def netOf (c : Case) : Net where
  P := c.places
  T := c.horizon
  now := c.now
  n := c.ways.length
  fr := fun a => (wy c a).from_
  to := fun a => (wy c a).to_
  sp := fun a => (wy c a).span
  rate := fun a t => rateAt (wy c a) t
  cum := fun v k => sm c.groups.length (fun g => if (gr c g).place = v ∧ (gr c g).minute < k then (gr c g).count else 0)

theorem mem_zipIdx_wy {c : Case} {w : Vbevzz.Way} {a : Nat} (h : (w, a) ∈ c.ways.zipIdx) : a < c.ways.length ∧ wy c a = w := by
  rw [List.mem_zipIdx_iff_getElem?] at h
  have h2 : c.ways[a]? = some w := h
  have h3 : a < c.ways.length := by
    rcases Nat.lt_or_ge a c.ways.length with h | h
    · exact h
    · rw [List.getElem?_eq_none h] at h2; cases h2
  refine ⟨h3, ?_⟩
  unfold wy
  rw [List.getD_eq_getElem?_getD, h2]; rfl
theorem wy_mem_zipIdx {c : Case} {a : Nat} (h : a < c.ways.length) : (wy c a, a) ∈ c.ways.zipIdx := by
  rw [List.mem_zipIdx_iff_getElem?]
  show c.ways[a]? = some (wy c a)
  unfold wy
  rw [List.getD_eq_getElem?_getD, List.getElem?_eq_getElem h]; rfl
theorem gr_mem {c : Case} {a : Nat} (h : a < c.groups.length) : gr c a ∈ c.groups := by
  unfold gr
  rw [List.getD_eq_getElem?_getD, List.getElem?_eq_getElem h]; simp

theorem sum_over_minutes (c : Case) (f : Nat → Nat) : sumOf ((Vbevzz.minutes c).map f) = sm c.horizon (fun t => if c.now ≤ t then f t else 0) := by
  rw [sumOf_eq]; exact sum_minutes _ _ _

theorem come_eq (c : Case) (p : Plan) (v t : Nat) : Vbevzz.come c p v t = (netOf c).came (Vbevzz.sent p) v (t + 1) := by
  unfold Vbevzz.come Net.came Net.into
  congr 1
  · rw [sumOf_eq, sum_getD g0]
    apply sm_congr; intro g _
    show _ = if (gr c g).place = v ∧ (gr c g).minute < t + 1 then (gr c g).count else 0
    unfold gr
    by_cases e : (c.groups.getD g g0).place = v ∧ (c.groups.getD g g0).minute ≤ t
    · rw [if_pos e, if_pos ⟨e.1, by omega⟩]
    · rw [if_neg e, if_neg (by omega)]
  · rw [sumOf_eq, sum_zipIdx w0]
    apply sm_congr; intro a _
    simp only [sum_over_minutes]
    show (if (wy c a).to_ = v then _ else 0) = if (wy c a).to_ = v then _ else 0
    by_cases e : (wy c a).to_ = v
    · rw [if_pos e, if_pos e]
      apply sm_congr; intro s _
      show (if c.now ≤ s then (if s + (wy c a).span ≤ t then Vbevzz.sent p a s else 0) else 0) = if c.now ≤ s ∧ s + (wy c a).span < t + 1 then Vbevzz.sent p a s else 0
      by_cases e1 : c.now ≤ s
      · by_cases e2 : s + (wy c a).span ≤ t
        · rw [if_pos e1, if_pos e2, if_pos ⟨e1, by omega⟩]
        · rw [if_pos e1, if_neg e2, if_neg (by omega)]
      · rw [if_neg e1, if_neg (by omega)]
    · rw [if_neg e, if_neg e]
theorem gone_eq (c : Case) (p : Plan) (v t : Nat) : Vbevzz.gone c p v t = (netOf c).left (Vbevzz.sent p) v (t + 1) := by
  unfold Vbevzz.gone Net.left
  rw [sumOf_eq, sum_zipIdx w0]
  apply sm_congr; intro a _
  simp only [sum_over_minutes]
  show (if (wy c a).from_ = v then _ else 0) = if (wy c a).from_ = v then _ else 0
  by_cases e : (wy c a).from_ = v
  · rw [if_pos e, if_pos e]
    apply sm_congr; intro s _
    show (if c.now ≤ s then (if s ≤ t then Vbevzz.sent p a s else 0) else 0) = if c.now ≤ s ∧ s < t + 1 then Vbevzz.sent p a s else 0
    by_cases e1 : c.now ≤ s
    · by_cases e2 : s ≤ t
      · rw [if_pos e1, if_pos e2, if_pos ⟨e1, by omega⟩]
      · rw [if_pos e1, if_neg e2, if_neg (by omega)]
    · rw [if_neg e1, if_neg (by omega)]
  · rw [if_neg e, if_neg e]

theorem mem_minutes {c : Case} {t : Nat} : t ∈ Vbevzz.minutes c ↔ c.now ≤ t ∧ t < c.horizon := by
  unfold Vbevzz.minutes
  simp only [List.mem_filter, List.mem_range, decide_eq_true_eq]
  omega
theorem isPlan_iff (c : Case) (p : Plan) : Vbevzz.isPlan c p = true ↔ (netOf c).Ok (Vbevzz.sent p) := by
  unfold Vbevzz.isPlan Net.Ok
  simp only [Bool.and_eq_true, List.all_eq_true, decide_eq_true_eq, mem_minutes, List.mem_range]
  constructor
  · intro ⟨h1, h2⟩
    refine ⟨?_, ?_⟩
    · intro a ha s h3 h4
      exact h1 _ (wy_mem_zipIdx ha) s ⟨h3, h4⟩
    · intro v hv s h3 h4
      have := h2 v hv s ⟨h3, h4⟩
      rwa [gone_eq, come_eq] at this
  · intro ⟨h1, h2⟩
    refine ⟨?_, ?_⟩
    · intro x hx s hs
      obtain ⟨w, a⟩ := x
      obtain ⟨ha, hw⟩ := mem_zipIdx_wy hx
      have := h1 a ha s hs.1 hs.2
      subst hw; exact this
    · intro v hv s hs
      rw [gone_eq, come_eq]; exact h2 v hv s hs.1 hs.2

theorem through_eq (c : Case) (cut : Vbevzz.Cut) (t : Nat) (hw : ∀ g ∈ c.groups, g.place < c.places) : Vbevzz.through c cut t = (netOf c).through (Vbevzz.late cut t) := by
  unfold Vbevzz.through Net.through
  congr 1
  · show _ = sm c.places (fun v => sm c.groups.length (fun g => if (gr c g).place = v ∧ (gr c g).minute < Vbevzz.late cut t v then (gr c g).count else 0))
    rw [sumOf_eq, sum_getD g0, sm_comm]
    apply sm_congr; intro g hg
    have e : ∀ v, (if (gr c g).place = v ∧ (gr c g).minute < Vbevzz.late cut t v then (gr c g).count else 0) = if (gr c g).place = v then (if (gr c g).minute < Vbevzz.late cut t v then (gr c g).count else 0) else 0 := by
      intro v
      by_cases e1 : (gr c g).place = v
      · by_cases e2 : (gr c g).minute < Vbevzz.late cut t v
        · rw [if_pos ⟨e1, e2⟩, if_pos e1, if_pos e2]
        · rw [if_neg (fun q => e2 q.2), if_pos e1, if_neg e2]
      · rw [if_neg (fun q => e1 q.1), if_neg e1]
    simp only [e]
    rw [sm_pick c.places (gr c g).place (fun v => if (gr c g).minute < Vbevzz.late cut t v then (gr c g).count else 0), if_pos (hw _ (gr_mem hg))]
    rfl
  · rw [sumOf_eq, sum_getD w0]
    apply sm_congr; intro a _
    simp only [sum_over_minutes]
    apply sm_congr; intro s _
    show (if c.now ≤ s then (if Vbevzz.late cut t (wy c a).from_ ≤ s ∧ s + (wy c a).span < Vbevzz.late cut t (wy c a).to_ then rateAt (wy c a) s else 0) else 0) = if c.now ≤ s ∧ Vbevzz.late cut t (wy c a).from_ ≤ s ∧ s + (wy c a).span < Vbevzz.late cut t (wy c a).to_ then rateAt (wy c a) s else 0
    by_cases e1 : c.now ≤ s
    · by_cases e2 : Vbevzz.late cut t (wy c a).from_ ≤ s ∧ s + (wy c a).span < Vbevzz.late cut t (wy c a).to_
      · rw [if_pos e1, if_pos e2, if_pos ⟨e1, e2⟩]
      · rw [if_pos e1, if_neg e2, if_neg (fun q => e2 q.2)]
    · rw [if_neg e1, if_neg (fun q => e1 q.1)]

/-- A case as it must be. -/
structure CaseOk (c : Case) : Prop where
  pos : 0 < c.places
  ways : ∀ w ∈ c.ways, w.from_ < c.places ∧ w.to_ < c.places ∧ w.from_ ≠ 0 ∧ 1 ≤ w.span
  groups : ∀ g ∈ c.groups, g.place < c.places ∧ g.minute ≤ c.horizon
theorem wy_mem {c : Case} {a : Nat} (h : a < c.ways.length) : wy c a ∈ c.ways := by
  unfold wy
  rw [List.getD_eq_getElem?_getD, List.getElem?_eq_getElem h]; simp
theorem CaseOk.wf {c : Case} (h : CaseOk c) : (netOf c).Wf where
  pos := h.pos
  fr_lt := fun _ ha => (h.ways _ (wy_mem ha)).1
  to_lt := fun _ ha => (h.ways _ (wy_mem ha)).2.1
  fr_ne := fun _ ha => (h.ways _ (wy_mem ha)).2.2.1
  sp_pos := fun _ ha => (h.ways _ (wy_mem ha)).2.2.2
  mono := by
    intro v k
    apply sm_le; intro g _
    by_cases e : (gr c g).place = v ∧ (gr c g).minute < k
    · rw [if_pos e, if_pos ⟨e.1, by omega⟩]; exact Nat.le_refl _
    · rw [if_neg e]; exact Nat.zero_le _
end Ev
namespace Ev
open Vbevzz (Case Plan Flow Move Spot sumOf rateAt getAt setAt movesFrom applyMove)

/-! Rows of numbers -/
theorem setAt_len (l : List (List Nat)) (i t x : Nat) : (setAt l i t x).length = l.length := by simp [setAt]
theorem setAt_row (l : List (List Nat)) (i t x j : Nat) : ((setAt l i t x).getD j []).length = (l.getD j []).length := by
  unfold setAt
  simp only [List.getD_eq_getElem?_getD, List.getElem?_set]
  by_cases e : i = j
  · subst e
    by_cases e2 : i < l.length
    · simp [e2]
    · simp [e2]
  · simp [e]
theorem getAt_setAt (l : List (List Nat)) (i t x j s : Nat) (hi : i < l.length) (ht : t < (l.getD i []).length) :
    getAt (setAt l i t x) j s = if j = i ∧ s = t then x else getAt l j s := by
  unfold getAt setAt
  simp only [List.getD_eq_getElem?_getD, List.getElem?_set] at ht ⊢
  by_cases e : i = j
  · subst e
    simp only [hi, if_true, Option.getD_some, List.getElem?_set, true_and]
    by_cases e2 : t = s
    · subst e2; rw [if_pos rfl, if_pos ht, if_pos rfl]; rfl
    · rw [if_neg e2, if_neg (fun q => e2 q.symm)]
  · have e' : ¬ j = i := fun q => e q.symm
    simp [e, e']

structure Sh (c : Case) (f : Flow) : Prop where
  sent : f.sent.length = c.ways.length
  sentRow : ∀ a, a < c.ways.length → (f.sent.getD a []).length = c.horizon
  waits : f.waits.length = c.places
  waitsRow : ∀ v, v < c.places → (f.waits.getD v []).length = c.horizon + 1
  left : f.left.length = c.groups.length

theorem Sh.setSent {c : Case} {f : Flow} (h : Sh c f) (a t x : Nat) : Sh c { f with sent := setAt f.sent a t x } where
  sent := by rw [setAt_len]; exact h.sent
  sentRow := fun b hb => by rw [setAt_row]; exact h.sentRow b hb
  waits := h.waits
  waitsRow := h.waitsRow
  left := h.left
theorem Sh.setWaits {c : Case} {f : Flow} (h : Sh c f) (a t x : Nat) : Sh c { f with waits := setAt f.waits a t x } where
  sent := h.sent
  sentRow := h.sentRow
  waits := by rw [setAt_len]; exact h.waits
  waitsRow := fun b hb => by rw [setAt_row]; exact h.waitsRow b hb
  left := h.left

/-! One number of a plan is another one -/
theorem Net.into_upd (N : Net) {p q : Pl} {a t : Nat} (ha : a < N.n) (ht : t < N.T) (h : ∀ b s, ¬ (b = a ∧ s = t) → q b s = p b s) (v k : Nat) :
    N.into q v k + (if N.to a = v ∧ N.now ≤ t ∧ t + N.sp a < k then p a t else 0) = N.into p v k + (if N.to a = v ∧ N.now ≤ t ∧ t + N.sp a < k then q a t else 0) := by
  have h1 := sm_one (n := N.n) (k := a)
    (f := fun b => if N.to b = v then sm N.T (fun s => if N.now ≤ s ∧ s + N.sp b < k then q b s else 0) else 0)
    (g := fun b => if N.to b = v then sm N.T (fun s => if N.now ≤ s ∧ s + N.sp b < k then p b s else 0) else 0) ha
    (by
      intro b _ hb
      by_cases e : N.to b = v
      · rw [if_pos e, if_pos e]; apply sm_congr; intro s _
        rw [h b s (fun q => hb q.1)]
      · rw [if_neg e, if_neg e])
  have h2 := sm_one (n := N.T) (k := t)
    (f := fun s => if N.now ≤ s ∧ s + N.sp a < k then q a s else 0)
    (g := fun s => if N.now ≤ s ∧ s + N.sp a < k then p a s else 0) ht
    (by
      intro s _ hs
      show (if _ then _ else _) = if _ then _ else _
      rw [h a s (fun q => hs q.2)])
  unfold Net.into
  by_cases e : N.to a = v
  · rw [if_pos e, if_pos e] at h1
    by_cases e2 : N.now ≤ t ∧ t + N.sp a < k
    · rw [if_pos e2, if_pos e2] at h2
      rw [if_pos ⟨e, e2⟩, if_pos ⟨e, e2⟩]; omega
    · rw [if_neg e2, if_neg e2] at h2
      rw [if_neg (fun q => e2 q.2), if_neg (fun q => e2 q.2)]; omega
  · rw [if_neg e, if_neg e] at h1
    rw [if_neg (fun q => e q.1), if_neg (fun q => e q.1)]; omega
theorem Net.left_upd (N : Net) {p q : Pl} {a t : Nat} (ha : a < N.n) (ht : t < N.T) (h : ∀ b s, ¬ (b = a ∧ s = t) → q b s = p b s) (v k : Nat) :
    N.left q v k + (if N.fr a = v ∧ N.now ≤ t ∧ t < k then p a t else 0) = N.left p v k + (if N.fr a = v ∧ N.now ≤ t ∧ t < k then q a t else 0) := by
  have h1 := sm_one (n := N.n) (k := a)
    (f := fun b => if N.fr b = v then sm N.T (fun s => if N.now ≤ s ∧ s < k then q b s else 0) else 0)
    (g := fun b => if N.fr b = v then sm N.T (fun s => if N.now ≤ s ∧ s < k then p b s else 0) else 0) ha
    (by
      intro b _ hb
      by_cases e : N.fr b = v
      · rw [if_pos e, if_pos e]; apply sm_congr; intro s _
        rw [h b s (fun q => hb q.1)]
      · rw [if_neg e, if_neg e])
  have h2 := sm_one (n := N.T) (k := t)
    (f := fun s => if N.now ≤ s ∧ s < k then q a s else 0)
    (g := fun s => if N.now ≤ s ∧ s < k then p a s else 0) ht
    (by
      intro s _ hs
      show (if _ then _ else _) = if _ then _ else _
      rw [h a s (fun q => hs q.2)])
  unfold Net.left
  by_cases e : N.fr a = v
  · rw [if_pos e, if_pos e] at h1
    by_cases e2 : N.now ≤ t ∧ t < k
    · rw [if_pos e2, if_pos e2] at h2
      rw [if_pos ⟨e, e2⟩, if_pos ⟨e, e2⟩]; omega
    · rw [if_neg e2, if_neg e2] at h2
      rw [if_neg (fun q => e2 q.2), if_neg (fun q => e2 q.2)]; omega
  · rw [if_neg e, if_neg e] at h1
    rw [if_neg (fun q => e q.1), if_neg (fun q => e q.1)]; omega

/-! Moves -/
def Mv (c : Case) (f : Flow) (m : Move) (x y : Spot) : Prop :=
  match m with
  | .go a t => a < c.ways.length ∧ x = ((wy c a).from_, t) ∧ y = ((wy c a).to_, t + (wy c a).span) ∧ c.now ≤ t ∧ t < c.horizon ∧ t + (wy c a).span ≤ c.horizon ∧ getAt f.sent a t < rateAt (wy c a) t
  | .wait v t => x = (v, t) ∧ y = (v, t + 1) ∧ v ≠ 0 ∧ t < c.horizon
  | .back a t => a < c.ways.length ∧ x = ((wy c a).to_, t + (wy c a).span) ∧ y = ((wy c a).from_, t) ∧ 0 < getAt f.sent a t
  | .unwait v t => x = (v, t + 1) ∧ y = (v, t) ∧ 0 < getAt f.waits v t
def roomOf (c : Case) (all : Nat) (f : Flow) (m : Move) : Nat :=
  match m with
  | .go a t => rateAt (wy c a) t - getAt f.sent a t
  | .wait _ _ => all
  | .back a t => getAt f.sent a t
  | .unwait v t => getAt f.waits v t
def endsOf (c : Case) (m : Move) : Spot × Spot :=
  match m with
  | .go a t => (((wy c a).from_, t), ((wy c a).to_, t + (wy c a).span))
  | .back a t => (((wy c a).from_, t), ((wy c a).to_, t + (wy c a).span))
  | .wait v t => ((v, t), (v, t + 1))
  | .unwait v t => ((v, t), (v, t + 1))
def arcId (m : Move) : Bool × Nat × Nat :=
  match m with
  | .go a t => (true, a, t)
  | .back a t => (true, a, t)
  | .wait v t => (false, v, t)
  | .unwait v t => (false, v, t)

theorem Mv.ends {c : Case} {f : Flow} {m : Move} {x y : Spot} (h : Mv c f m x y) : (x = (endsOf c m).1 ∧ y = (endsOf c m).2) ∨ (x = (endsOf c m).2 ∧ y = (endsOf c m).1) := by
  cases m with
  | go a t => exact Or.inl ⟨h.2.1, h.2.2.1⟩
  | back a t => exact Or.inr ⟨h.2.1, h.2.2.1⟩
  | wait v t => exact Or.inl ⟨h.1, h.2.1⟩
  | unwait v t => exact Or.inr ⟨h.1, h.2.1⟩
theorem ends_of_arc {c : Case} {m n : Move} (h : arcId m = arcId n) : endsOf c m = endsOf c n := by
  cases m <;> cases n <;> simp_all [arcId, endsOf]

theorem mem_moves {c : Case} {all : Nat} {f : Flow} {x y : Spot} {m : Move} {k : Nat} :
    (m, (y, k)) ∈ movesFrom c all f x ↔ Mv c f m x y ∧ k = roomOf c all f m := by
  unfold movesFrom
  simp only [List.mem_append, List.mem_flatMap]
  obtain ⟨xv, xt⟩ := x
  constructor
  · rintro (((⟨⟨w, a⟩, hw, h⟩ | h) | ⟨⟨w, a⟩, hw, h⟩) | h)
    · obtain ⟨ha, rfl⟩ := mem_zipIdx_wy hw
      simp only [] at h
      split at h
      · rename_i hc
        simp only [List.mem_singleton, Prod.mk.injEq] at h
        obtain ⟨rfl, rfl, rfl⟩ := h
        obtain ⟨h1, h2, h3, h4, h5⟩ := hc
        refine ⟨⟨ha, ?_, rfl, h2, h3, h4, h5⟩, rfl⟩
        rw [h1]
      · cases h
    · split at h
      · rename_i hc
        simp only [List.mem_singleton, Prod.mk.injEq] at h
        obtain ⟨rfl, rfl, rfl⟩ := h
        exact ⟨⟨rfl, rfl, hc.1, hc.2⟩, rfl⟩
      · cases h
    · obtain ⟨ha, rfl⟩ := mem_zipIdx_wy hw
      simp only [] at h
      split at h
      · rename_i hc
        simp only [List.mem_singleton, Prod.mk.injEq] at h
        obtain ⟨rfl, rfl, rfl⟩ := h
        obtain ⟨h1, h2, h3⟩ := hc
        refine ⟨⟨ha, ?_, rfl, h3⟩, rfl⟩
        rw [h1, show xt - (wy c a).span + (wy c a).span = xt by omega]
      · cases h
    · split at h
      · rename_i hc
        simp only [List.mem_singleton, Prod.mk.injEq] at h
        obtain ⟨rfl, rfl, rfl⟩ := h
        refine ⟨⟨?_, rfl, hc.2⟩, rfl⟩
        rw [show xt - 1 + 1 = xt by have := hc.1; simp only [] at this; omega]
      · cases h
  · rintro ⟨h, rfl⟩
    cases m with
    | go a t =>
      obtain ⟨ha, hx, rfl, h1, h2, h3, h4⟩ := h
      simp only [Prod.mk.injEq] at hx
      obtain ⟨rfl, rfl⟩ := hx
      refine Or.inl (Or.inl (Or.inl ⟨_, wy_mem_zipIdx ha, ?_⟩))
      dsimp only
      rw [if_pos ⟨rfl, h1, h2, h3, h4⟩]
      simp [roomOf]
    | wait v t =>
      obtain ⟨hx, rfl, h1, h2⟩ := h
      simp only [Prod.mk.injEq] at hx
      obtain ⟨rfl, rfl⟩ := hx
      refine Or.inl (Or.inl (Or.inr ?_))
      rw [if_pos ⟨h1, h2⟩]
      simp [roomOf]
    | back a t =>
      obtain ⟨ha, hx, rfl, h1⟩ := h
      simp only [Prod.mk.injEq] at hx
      obtain ⟨rfl, rfl⟩ := hx
      refine Or.inl (Or.inr ⟨_, wy_mem_zipIdx ha, ?_⟩)
      dsimp only
      have e : t + (wy c a).span - (wy c a).span = t := by omega
      rw [e, if_pos ⟨rfl, by omega, h1⟩]
      simp [roomOf]
    | unwait v t =>
      obtain ⟨hx, rfl, h1⟩ := h
      simp only [Prod.mk.injEq] at hx
      obtain ⟨rfl, rfl⟩ := hx
      refine Or.inr ?_
      dsimp only
      rw [show t + 1 - 1 = t by omega, if_pos ⟨by omega, h1⟩]
      simp [roomOf]

/-! What a flow keeps -/
structure FI (c : Case) (f : Flow) : Prop where
  sh : Sh c f
  cap : ∀ a t, getAt f.sent a t ≤ rateAt (wy c a) t
  dom : ∀ a t, 0 < getAt f.sent a t → a < c.ways.length ∧ c.now ≤ t ∧ t < c.horizon ∧ t + (wy c a).span ≤ c.horizon
  wdom : ∀ v t, 0 < getAt f.waits v t → v ≠ 0 ∧ v < c.places ∧ t < c.horizon

def Cx (c : Case) (f : Flow) (v t : Nat) : Int :=
  ((netOf c).came (getAt f.sent) v (t + 1) : Int) - (netOf c).left (getAt f.sent) v (t + 1) - getAt f.waits v t

def at_ (x : Spot) (k v t : Nat) : Int := if x.1 = v ∧ x.2 ≤ t then (k : Int) else 0

/-- within a net's spots -/
def inR (c : Case) (x : Spot) : Prop := x.1 < c.places ∧ x.2 ≤ c.horizon

theorem apply_ok {c : Case} (ok : CaseOk c) {all k : Nat} {f : Flow} (h : FI c f) {m : Move} {x y : Spot} (hx : inR c x)
    (hm : Mv c f m x y) (hk : k ≤ roomOf c all f m) :
    FI c (applyMove k f m) ∧ (∀ v t, Cx c (applyMove k f m) v t = Cx c f v t - at_ x k v t + at_ y k v t) ∧ inR c y := by
  cases m with
  | go a t =>
    obtain ⟨ha, rfl, rfl, h1, h2, h3, h4⟩ := hm
    have ki : k ≤ rateAt (wy c a) t - getAt f.sent a t := hk
    have hs := getAt_setAt f.sent a t (getAt f.sent a t + k)
    have hs2 := fun b s => hs b s (by rw [h.sh.sent]; exact ha) (by rw [h.sh.sentRow a ha]; exact h2)
    have w1 := ok.ways _ (wy_mem ha)
    refine ⟨⟨h.sh.setSent _ _ _, ?_, ?_, h.wdom⟩, ?_, ⟨w1.2.1, h3⟩⟩
    · intro b s
      show getAt (setAt f.sent a t (getAt f.sent a t + k)) b s ≤ _
      rw [hs2]
      by_cases e : b = a ∧ s = t
      · obtain ⟨rfl, rfl⟩ := e; rw [if_pos ⟨rfl, rfl⟩]; omega
      · rw [if_neg e]; exact h.cap b s
    · intro b s
      show 0 < getAt (setAt f.sent a t (getAt f.sent a t + k)) b s → _
      rw [hs2]
      by_cases e : b = a ∧ s = t
      · obtain ⟨rfl, rfl⟩ := e; intro _; exact ⟨ha, h1, h2, h3⟩
      · rw [if_neg e]; exact h.dom b s
    · intro v s
      have i1 := (netOf c).into_upd (p := getAt f.sent) (q := getAt (setAt f.sent a t (getAt f.sent a t + k))) ha h2
        (by intro b s' hb; rw [hs2, if_neg hb]) v (s + 1)
      have i2 := (netOf c).left_upd (p := getAt f.sent) (q := getAt (setAt f.sent a t (getAt f.sent a t + k))) ha h2
        (by intro b s' hb; rw [hs2, if_neg hb]) v (s + 1)
      have e0 : getAt (setAt f.sent a t (getAt f.sent a t + k)) a t = getAt f.sent a t + k := by rw [hs2, if_pos ⟨rfl, rfl⟩]
      rw [e0] at i1 i2
      unfold Cx
      show ((netOf c).came (getAt (setAt f.sent a t (getAt f.sent a t + k))) v (s + 1) : Int) - (netOf c).left (getAt (setAt f.sent a t (getAt f.sent a t + k))) v (s + 1) - getAt f.waits v s = _
      simp only [Net.came, at_]
      simp only [show (netOf c).to a = (wy c a).to_ from rfl, show (netOf c).fr a = (wy c a).from_ from rfl, show (netOf c).sp a = (wy c a).span from rfl, show (netOf c).now = c.now from rfl] at i1 i2
      have c1 : ((wy c a).to_ = v ∧ c.now ≤ t ∧ t + (wy c a).span < s + 1) ↔ ((wy c a).to_ = v ∧ t + (wy c a).span ≤ s) := by omega
      have c2 : ((wy c a).from_ = v ∧ c.now ≤ t ∧ t < s + 1) ↔ ((wy c a).from_ = v ∧ t ≤ s) := by omega
      simp only [c1] at i1
      simp only [c2] at i2
      split at i1 <;> split at i2 <;> simp_all <;> omega
  | wait v0 t =>
    obtain ⟨rfl, rfl, h1, h2⟩ := hm
    have hv : v0 < c.places := hx.1
    have hs2 := fun b s => getAt_setAt f.waits v0 t (getAt f.waits v0 t + k) b s (by rw [h.sh.waits]; exact hv) (by rw [h.sh.waitsRow v0 hv]; omega)
    refine ⟨⟨h.sh.setWaits _ _ _, h.cap, h.dom, ?_⟩, ?_, ⟨hv, h2⟩⟩
    · intro b s
      show 0 < getAt (setAt f.waits v0 t (getAt f.waits v0 t + k)) b s → _
      rw [hs2]
      by_cases e : b = v0 ∧ s = t
      · obtain ⟨rfl, rfl⟩ := e; intro _; exact ⟨h1, hv, h2⟩
      · rw [if_neg e]; exact h.wdom b s
    · intro v s
      unfold Cx
      show ((netOf c).came (getAt f.sent) v (s + 1) : Int) - (netOf c).left (getAt f.sent) v (s + 1) - getAt (setAt f.waits v0 t (getAt f.waits v0 t + k)) v s = _
      rw [hs2]
      simp only [at_]
      by_cases e : v = v0
      · subst e
        by_cases e2 : s = t
        · subst e2; simp; omega
        · by_cases e3 : t < s
          · simp [e2, show t ≤ s by omega, show t + 1 ≤ s by omega]
          · simp [e2, show ¬ t ≤ s by omega, show ¬ t + 1 ≤ s by omega]
      · have e' : ¬ v0 = v := fun q => e q.symm
        simp [e, e']
  | back a t =>
    obtain ⟨ha, rfl, rfl, h4⟩ := hm
    have ki : k ≤ getAt f.sent a t := hk
    obtain ⟨_, h1, h2, h3⟩ := h.dom a t h4
    have hs2 := fun b s => getAt_setAt f.sent a t (getAt f.sent a t - k) b s (by rw [h.sh.sent]; exact ha) (by rw [h.sh.sentRow a ha]; exact h2)
    have w1 := ok.ways _ (wy_mem ha)
    refine ⟨⟨h.sh.setSent _ _ _, ?_, ?_, h.wdom⟩, ?_, ⟨w1.1, by show t ≤ c.horizon; omega⟩⟩
    · intro b s
      show getAt (setAt f.sent a t (getAt f.sent a t - k)) b s ≤ _
      rw [hs2]
      by_cases e : b = a ∧ s = t
      · obtain ⟨rfl, rfl⟩ := e; rw [if_pos ⟨rfl, rfl⟩]; have := h.cap b s; omega
      · rw [if_neg e]; exact h.cap b s
    · intro b s
      show 0 < getAt (setAt f.sent a t (getAt f.sent a t - k)) b s → _
      rw [hs2]
      by_cases e : b = a ∧ s = t
      · obtain ⟨rfl, rfl⟩ := e; intro _; exact ⟨ha, h1, h2, h3⟩
      · rw [if_neg e]; exact h.dom b s
    · intro v s
      have i1 := (netOf c).into_upd (p := getAt f.sent) (q := getAt (setAt f.sent a t (getAt f.sent a t - k))) ha h2
        (by intro b s' hb; rw [hs2, if_neg hb]) v (s + 1)
      have i2 := (netOf c).left_upd (p := getAt f.sent) (q := getAt (setAt f.sent a t (getAt f.sent a t - k))) ha h2
        (by intro b s' hb; rw [hs2, if_neg hb]) v (s + 1)
      have e0 : getAt (setAt f.sent a t (getAt f.sent a t - k)) a t = getAt f.sent a t - k := by rw [hs2, if_pos ⟨rfl, rfl⟩]
      rw [e0] at i1 i2
      unfold Cx
      show ((netOf c).came (getAt (setAt f.sent a t (getAt f.sent a t - k))) v (s + 1) : Int) - (netOf c).left (getAt (setAt f.sent a t (getAt f.sent a t - k))) v (s + 1) - getAt f.waits v s = _
      simp only [Net.came, at_]
      simp only [show (netOf c).to a = (wy c a).to_ from rfl, show (netOf c).fr a = (wy c a).from_ from rfl, show (netOf c).sp a = (wy c a).span from rfl, show (netOf c).now = c.now from rfl] at i1 i2
      have c1 : ((wy c a).to_ = v ∧ c.now ≤ t ∧ t + (wy c a).span < s + 1) ↔ ((wy c a).to_ = v ∧ t + (wy c a).span ≤ s) := by omega
      have c2 : ((wy c a).from_ = v ∧ c.now ≤ t ∧ t < s + 1) ↔ ((wy c a).from_ = v ∧ t ≤ s) := by omega
      simp only [c1] at i1
      simp only [c2] at i2
      split at i1 <;> split at i2 <;> simp_all <;> omega
  | unwait v0 t =>
    obtain ⟨rfl, rfl, h4⟩ := hm
    have ki : k ≤ getAt f.waits v0 t := hk
    obtain ⟨h1, hv, h2⟩ := h.wdom v0 t h4
    have hs2 := fun b s => getAt_setAt f.waits v0 t (getAt f.waits v0 t - k) b s (by rw [h.sh.waits]; exact hv) (by rw [h.sh.waitsRow v0 hv]; omega)
    refine ⟨⟨h.sh.setWaits _ _ _, h.cap, h.dom, ?_⟩, ?_, ⟨hv, by show t ≤ c.horizon; omega⟩⟩
    · intro b s
      show 0 < getAt (setAt f.waits v0 t (getAt f.waits v0 t - k)) b s → _
      rw [hs2]
      by_cases e : b = v0 ∧ s = t
      · obtain ⟨rfl, rfl⟩ := e; intro _; exact ⟨h1, hv, h2⟩
      · rw [if_neg e]; exact h.wdom b s
    · intro v s
      unfold Cx
      show ((netOf c).came (getAt f.sent) v (s + 1) : Int) - (netOf c).left (getAt f.sent) v (s + 1) - getAt (setAt f.waits v0 t (getAt f.waits v0 t - k)) v s = _
      rw [hs2]
      simp only [at_]
      by_cases e : v = v0
      · subst e
        by_cases e2 : s = t
        · subst e2; simp; omega
        · by_cases e3 : t < s
          · simp [e2, show t ≤ s by omega, show t + 1 ≤ s by omega]
          · simp [e2, show ¬ t ≤ s by omega, show ¬ t + 1 ≤ s by omega]
      · have e' : ¬ v0 = v := fun q => e q.symm
        simp [e, e']
end Ev
namespace Ev
open Vbevzz (Case Plan Flow Move Spot Reached sumOf rateAt getAt setAt movesFrom applyMove isReached firstReached reachOn reach reached)

/-! Walks of moves -/
inductive Walk (c : Case) (all : Nat) (f : Flow) (x0 : Spot) : List Move → Spot → Nat → Prop
  | nil (k : Nat) : Walk c all f x0 [] x0 k
  | snoc {ms : List Move} {x y : Spot} {k : Nat} {m : Move} : Walk c all f x0 ms x k → Mv c f m x y → k ≤ roomOf c all f m →
      arcId m ∉ ms.map arcId → Walk c all f x0 (ms ++ [m]) y k

theorem Walk.less {c : Case} {all : Nat} {f : Flow} {x0 x : Spot} {ms : List Move} {k l : Nat} (h : Walk c all f x0 ms x k) (hl : l ≤ k) : Walk c all f x0 ms x l := by
  induction h with
  | nil => exact .nil l
  | snoc _ h2 h3 h4 ih => exact .snoc (ih hl) h2 (Nat.le_trans hl h3) h4

def Closed (c : Case) (f : Flow) (R : Spot → Prop) : Prop := ∀ m x y, R x → Mv c f m x y → R y

theorem Walk.closed {c : Case} {all : Nat} {f : Flow} {x0 x : Spot} {ms : List Move} {k : Nat} (h : Walk c all f x0 ms x k) {R : Spot → Prop} (hR : Closed c f R) (h0 : R x0) :
    R x ∧ ∀ m ∈ ms, R (endsOf c m).1 ∧ R (endsOf c m).2 := by
  induction h with
  | nil => exact ⟨h0, fun m hm => by cases hm⟩
  | snoc _ h2 h3 h4 ih =>
    have hy := hR _ _ _ ih.1 h2
    refine ⟨hy, ?_⟩
    intro m' hm'
    rw [List.mem_append] at hm'
    rcases hm' with hm' | hm'
    · exact ih.2 m' hm'
    · rw [List.mem_singleton] at hm'
      subst hm'
      rcases h2.ends with ⟨e1, e2⟩ | ⟨e1, e2⟩
      · rw [← e1, ← e2]; exact ⟨ih.1, hy⟩
      · rw [← e1, ← e2]; exact ⟨hy, ih.1⟩
/-- a spot from which nothing leads on stands at a walk's end alone -/
theorem Walk.dead {c : Case} {all : Nat} {f : Flow} {x0 x : Spot} {ms : List Move} {k : Nat} (h : Walk c all f x0 ms x k) {z : Spot} (hz : ∀ m y, ¬ Mv c f m z y) :
    ∀ m ∈ ms, (endsOf c m).1 = z ∨ (endsOf c m).2 = z → z = x := by
  induction h with
  | nil => intro m hm; cases hm
  | snoc _ h2 h3 h4 ih =>
    intro m' hm' he
    rw [List.mem_append] at hm'
    rcases hm' with hm' | hm'
    · have := ih m' hm' he
      subst this; exact absurd h2 (hz _ _)
    · rw [List.mem_singleton] at hm'
      subst hm'
      rcases h2.ends with ⟨e1, e2⟩ | ⟨e1, e2⟩
      · rcases he with he | he
        · rw [← he, ← e1] at hz; exact absurd h2 (hz _ _)
        · rw [← he, ← e2]
      · rcases he with he | he
        · rw [← he, ← e2]
        · rw [← he, ← e1] at hz; exact absurd h2 (hz _ _)

def push (k : Nat) (ms : List Move) (f : Flow) : Flow := ms.foldl (applyMove k) f
theorem push_snoc (k : Nat) (ms : List Move) (m : Move) (f : Flow) : push k (ms ++ [m]) f = applyMove k (push k ms f) m := by
  unfold push; rw [List.foldl_append]; rfl
theorem applyMove_left (k : Nat) (f : Flow) (m : Move) : (applyMove k f m).left = f.left := by cases m <;> rfl
theorem push_left (k : Nat) (ms : List Move) (f : Flow) : (push k ms f).left = f.left := by
  induction ms generalizing f with
  | nil => rfl
  | cons m ms ih => unfold push at ih ⊢; rw [List.foldl_cons, ih, applyMove_left]

theorem getAt_setAt_ne (l : List (List Nat)) (i t x j s : Nat) (h : ¬ (j = i ∧ s = t)) : getAt (setAt l i t x) j s = getAt l j s := by
  unfold getAt setAt
  simp only [List.getD_eq_getElem?_getD, List.getElem?_set]
  by_cases e : i = j
  · subst e
    by_cases e2 : i < l.length
    · have e3 : ¬ t = s := fun q => h ⟨rfl, q.symm⟩
      simp [e2, e3]
    · have : l[i]? = none := by simp; omega
      simp [e2, this]
  · simp [e]
theorem applyMove_sent {k : Nat} {f : Flow} {m : Move} {a t : Nat} (h : arcId m ≠ (true, a, t)) : getAt (applyMove k f m).sent a t = getAt f.sent a t := by
  cases m with
  | go b s => exact getAt_setAt_ne _ _ _ _ _ _ (fun q => h (by rw [q.1, q.2]; rfl))
  | back b s => exact getAt_setAt_ne _ _ _ _ _ _ (fun q => h (by rw [q.1, q.2]; rfl))
  | wait b s => rfl
  | unwait b s => rfl
theorem applyMove_waits {k : Nat} {f : Flow} {m : Move} {a t : Nat} (h : arcId m ≠ (false, a, t)) : getAt (applyMove k f m).waits a t = getAt f.waits a t := by
  cases m with
  | wait b s => exact getAt_setAt_ne _ _ _ _ _ _ (fun q => h (by rw [q.1, q.2]; rfl))
  | unwait b s => exact getAt_setAt_ne _ _ _ _ _ _ (fun q => h (by rw [q.1, q.2]; rfl))
  | go b s => rfl
  | back b s => rfl
theorem push_sent {k : Nat} {ms : List Move} {f : Flow} {a t : Nat} (h : (true, a, t) ∉ ms.map arcId) : getAt (push k ms f).sent a t = getAt f.sent a t := by
  induction ms generalizing f with
  | nil => rfl
  | cons m ms ih =>
    rw [List.map_cons, List.mem_cons, not_or] at h
    unfold push at ih ⊢; rw [List.foldl_cons, ih h.2, applyMove_sent (fun q => h.1 q.symm)]
theorem push_waits {k : Nat} {ms : List Move} {f : Flow} {a t : Nat} (h : (false, a, t) ∉ ms.map arcId) : getAt (push k ms f).waits a t = getAt f.waits a t := by
  induction ms generalizing f with
  | nil => rfl
  | cons m ms ih =>
    rw [List.map_cons, List.mem_cons, not_or] at h
    unfold push at ih ⊢; rw [List.foldl_cons, ih h.2, applyMove_waits (fun q => h.1 q.symm)]
/-- moves and room depend on one arc -/
theorem Mv.congr {c : Case} {f g : Flow} {m : Move} {x y : Spot} (h : Mv c f m x y)
    (h1 : ∀ a t, arcId m = (true, a, t) → getAt g.sent a t = getAt f.sent a t) (h2 : ∀ a t, arcId m = (false, a, t) → getAt g.waits a t = getAt f.waits a t) : Mv c g m x y := by
  cases m with
  | go a t => unfold Mv at h ⊢; dsimp only at h ⊢; rw [h1 a t rfl]; exact h
  | back a t => unfold Mv at h ⊢; dsimp only at h ⊢; rw [h1 a t rfl]; exact h
  | wait a t => exact h
  | unwait a t => unfold Mv at h ⊢; dsimp only at h ⊢; rw [h2 a t rfl]; exact h
theorem roomOf_congr {c : Case} {all : Nat} {f g : Flow} {m : Move}
    (h1 : ∀ a t, arcId m = (true, a, t) → getAt g.sent a t = getAt f.sent a t) (h2 : ∀ a t, arcId m = (false, a, t) → getAt g.waits a t = getAt f.waits a t) : roomOf c all g m = roomOf c all f m := by
  cases m with
  | go a t => unfold roomOf; dsimp only; rw [h1 a t rfl]
  | back a t => unfold roomOf; dsimp only; rw [h1 a t rfl]
  | wait a t => rfl
  | unwait a t => unfold roomOf; dsimp only; rw [h2 a t rfl]

/-- sending along a move leads nowhere new but back -/
theorem applyMove_res {c : Case} {k : Nat} {f : Flow} {m n : Move} {x y x' y' : Spot} (hm : Mv c f m x y) (h : Mv c (applyMove k f m) n x' y') :
    Mv c f n x' y' ∨ (x' = y ∧ y' = x) ∨ (x' = x ∧ y' = y) := by
  by_cases e : arcId n = arcId m
  · have e2 := ends_of_arc (c := c) e
    rcases hm.ends with ⟨h1, h2⟩ | ⟨h1, h2⟩ <;> rcases h.ends with ⟨h3, h4⟩ | ⟨h3, h4⟩
    · exact Or.inr (Or.inr ⟨by rw [h1, h3, e2], by rw [h2, h4, e2]⟩)
    · exact Or.inr (Or.inl ⟨by rw [h2, h3, e2], by rw [h1, h4, e2]⟩)
    · exact Or.inr (Or.inl ⟨by rw [h2, h3, e2], by rw [h1, h4, e2]⟩)
    · exact Or.inr (Or.inr ⟨by rw [h1, h3, e2], by rw [h2, h4, e2]⟩)
  · refine Or.inl (h.congr ?_ ?_)
    · intro a t q; exact (applyMove_sent (by rw [← q]; exact fun z => e z.symm)).symm
    · intro a t q; exact (applyMove_waits (by rw [← q]; exact fun z => e z.symm)).symm

theorem push_ok {c : Case} (ok : CaseOk c) {all k : Nat} {f : Flow} (h : FI c f) {x0 x : Spot} {ms : List Move} (h0 : inR c x0) (hw : Walk c all f x0 ms x k) :
    FI c (push k ms f) ∧ (∀ v t, Cx c (push k ms f) v t = Cx c f v t - at_ x0 k v t + at_ x k v t) ∧ inR c x ∧
    ∀ R, Closed c f R → R x0 → Closed c (push k ms f) R := by
  induction hw with
  | nil =>
    refine ⟨h, ?_, h0, fun R hR _ => hR⟩
    intro v t; show Cx c f v t = _; omega
  | @snoc ms x y k m hw hm hk hf ih =>
    obtain ⟨i1, i2, i3, i4⟩ := ih
    have g1 : ∀ a t, arcId m = (true, a, t) → getAt (push k ms f).sent a t = getAt f.sent a t := fun a t q => push_sent (by rw [← q]; exact hf)
    have g2 : ∀ a t, arcId m = (false, a, t) → getAt (push k ms f).waits a t = getAt f.waits a t := fun a t q => push_waits (by rw [← q]; exact hf)
    have hm' := hm.congr g1 g2
    have hk' : k ≤ roomOf c all (push k ms f) m := by rw [roomOf_congr g1 g2]; exact hk
    obtain ⟨j1, j2, j3⟩ := apply_ok ok i1 i3 hm' hk'
    rw [push_snoc]
    refine ⟨j1, ?_, j3, ?_⟩
    · intro v t; rw [j2, i2]; omega
    · intro R hR hx0
      have hx := (hw.closed hR hx0).1
      have hy := hR _ _ _ hx hm
      have hc := i4 R hR hx0
      intro n x' y' hx' hn
      rcases applyMove_res hm' hn with q | ⟨rfl, rfl⟩ | ⟨rfl, rfl⟩
      · exact hc _ _ _ hx' q
      · exact hx
      · exact hy

/-! Spots that are reached -/
def has (l : List Reached) (s : Spot) : Prop := ∃ r ∈ l, r.spot = s
theorem isReached_iff {l : List Reached} {s : Spot} : isReached l s = true ↔ has l s := by
  unfold isReached has
  simp only [List.any_eq_true, beq_iff_eq]
theorem has_append {l m : List Reached} {s : Spot} : has (l ++ m) s ↔ has l s ∨ has m s := by
  unfold has
  constructor
  · rintro ⟨r, hr, e⟩
    rcases List.mem_append.mp hr with h | h
    · exact Or.inl ⟨r, h, e⟩
    · exact Or.inr ⟨r, h, e⟩
  · rintro (⟨r, hr, e⟩ | ⟨r, hr, e⟩)
    · exact ⟨r, List.mem_append.mpr (Or.inl hr), e⟩
    · exact ⟨r, List.mem_append.mpr (Or.inr hr), e⟩

def spotOf (c : Case) (g : Nat) : Spot := ((gr c g).place, (gr c g).minute)
structure Good (c : Case) (all : Nat) (f : Flow) (l : List Reached) (r : Reached) : Prop where
  grp : r.group < c.groups.length
  minute : (gr c r.group).minute ≤ c.horizon
  room : 0 < r.room
  left : r.room ≤ f.left.getD r.group 0
  walk : Walk c all f (spotOf c r.group) r.moves r.spot r.room
  ends : ∀ m ∈ r.moves, has l (endsOf c m).1 ∧ has l (endsOf c m).2
structure Inv (c : Case) (all : Nat) (f : Flow) (l : List Reached) : Prop where
  good : ∀ r ∈ l, Good c all f l r
  inr : ∀ r ∈ l, inR c r.spot
  nodup : (l.map (fun r => r.spot)).Nodup

theorem Inv.add {c : Case} {all : Nat} {f : Flow} {l : List Reached} (h : Inv c all f l) {r : Reached} (hr : Good c all f (l ++ [r]) r) (hi : inR c r.spot) (hn : ¬ has l r.spot) : Inv c all f (l ++ [r]) where
  good := by
    intro q hq
    rcases List.mem_append.mp hq with h1 | h1
    · have g := h.good q h1
      exact ⟨g.grp, g.minute, g.room, g.left, g.walk, fun m hm => ⟨has_append.mpr (Or.inl (g.ends m hm).1), has_append.mpr (Or.inl (g.ends m hm).2)⟩⟩
    · rw [List.mem_singleton] at h1; subst h1; exact hr
  inr := by
    intro q hq
    rcases List.mem_append.mp hq with h1 | h1
    · exact h.inr q h1
    · rw [List.mem_singleton] at h1; subst h1; exact hi
  nodup := by
    rw [List.map_append, List.nodup_append]
    refine ⟨h.nodup, by simp, ?_⟩
    intro a ha b hb
    simp only [List.map_cons, List.map_nil, List.mem_singleton] at hb
    subst hb
    intro e
    obtain ⟨q, hq, e2⟩ := List.mem_map.mp ha
    exact hn ⟨q, hq, e2.trans e⟩

theorem Mv.inR {c : Case} (ok : CaseOk c) {f : Flow} (h : FI c f) {m : Move} {x y : Spot} (hx : inR c x) (hm : Mv c f m x y) : inR c y :=
  (apply_ok ok (all := 0) (k := 0) h hx hm (Nat.zero_le _)).2.2
theorem roomOf_pos {c : Case} {all : Nat} {f : Flow} {m : Move} {x y : Spot} (ha : 0 < all) (hm : Mv c f m x y) : 0 < roomOf c all f m := by
  cases m with
  | go a t => have := hm.2.2.2.2.2.2; show 0 < rateAt (wy c a) t - getAt f.sent a t; omega
  | back a t => exact hm.2.2.2
  | wait v t => exact ha
  | unwait v t => exact hm.2.2

/-- the moves of one spot -/
def stepOne (seen : List Reached) (r : Reached) (n : List Reached) (m : Move × (Spot × Nat)) : List Reached :=
  if isReached seen m.2.1 = true ∨ isReached n m.2.1 = true then n else n ++ [⟨m.2.1, r.group, r.moves ++ [m.1], min r.room m.2.2⟩]
theorem stepOne_ok {c : Case} (ok : CaseOk c) {all : Nat} (hall : 0 < all) {f : Flow} (hf : FI c f) {seen : List Reached} {r : Reached} (hr : r ∈ seen) {n : List Reached} (h : Inv c all f (seen ++ n))
    {m : Move × (Spot × Nat)} (hm : Mv c f m.1 r.spot m.2.1 ∧ m.2.2 = roomOf c all f m.1) :
    Inv c all f (seen ++ stepOne seen r n m) ∧ (∀ s, has n s → has (stepOne seen r n m) s) ∧ has (seen ++ stepOne seen r n m) m.2.1 := by
  unfold stepOne
  by_cases e : isReached seen m.2.1 = true ∨ isReached n m.2.1 = true
  · rw [if_pos e]
    refine ⟨h, fun s q => q, ?_⟩
    rw [isReached_iff, isReached_iff] at e
    exact has_append.mpr e
  · rw [if_neg e]
    rw [isReached_iff, isReached_iff] at e
    have hn : ¬ has (seen ++ n) m.2.1 := fun q => e (has_append.mp q)
    have g := h.good r (List.mem_append.mpr (Or.inl hr))
    have hrs : has (seen ++ n) r.spot := ⟨r, List.mem_append.mpr (Or.inl hr), rfl⟩
    have hin := Mv.inR ok hf (h.inr r (List.mem_append.mpr (Or.inl hr))) hm.1
    rw [← List.append_assoc]
    refine ⟨h.add ?_ hin hn, fun s q => has_append.mpr (Or.inl q), has_append.mpr (Or.inr ⟨_, List.mem_singleton.mpr rfl, rfl⟩)⟩
    have hrm := roomOf_pos hall hm.1
    refine ⟨g.grp, g.minute, ?_, ?_, ?_, ?_⟩
    · show 0 < min r.room m.2.2
      have := g.room; omega
    · show min r.room m.2.2 ≤ f.left.getD r.group 0
      have := g.left; omega
    · show Walk c all f (spotOf c r.group) (r.moves ++ [m.1]) m.2.1 (min r.room m.2.2)
      refine .snoc (g.walk.less (Nat.min_le_left _ _)) hm.1 (by omega) ?_
      intro q
      obtain ⟨m', hm', e'⟩ := List.mem_map.mp q
      have e2 := ends_of_arc (c := c) e'
      have e3 := g.ends m' hm'
      rw [e2] at e3
      rcases hm.1.ends with ⟨_, h2⟩ | ⟨_, h2⟩
      · rw [h2] at hn; exact hn e3.2
      · rw [h2] at hn; exact hn e3.1
    · intro m' hm'
      rcases List.mem_append.mp hm' with q | q
      · exact ⟨has_append.mpr (Or.inl (g.ends m' q).1), has_append.mpr (Or.inl (g.ends m' q).2)⟩
      · rw [List.mem_singleton] at q; subst q
        have a1 : has (seen ++ n ++ [⟨m.2.1, r.group, r.moves ++ [m.1], min r.room m.2.2⟩]) r.spot := has_append.mpr (Or.inl hrs)
        have a2 : has (seen ++ n ++ [⟨m.2.1, r.group, r.moves ++ [m.1], min r.room m.2.2⟩]) m.2.1 := has_append.mpr (Or.inr ⟨_, List.mem_singleton.mpr rfl, rfl⟩)
        rcases hm.1.ends with ⟨h1, h2⟩ | ⟨h1, h2⟩
        · rw [← h1, ← h2]; exact ⟨a1, a2⟩
        · rw [← h1, ← h2]; exact ⟨a2, a1⟩

theorem steps_ok {c : Case} (ok : CaseOk c) {all : Nat} (hall : 0 < all) {f : Flow} (hf : FI c f) {seen : List Reached} {r : Reached} (hr : r ∈ seen) (ms : List (Move × (Spot × Nat))) :
    ∀ {n : List Reached}, Inv c all f (seen ++ n) → (∀ m ∈ ms, Mv c f m.1 r.spot m.2.1 ∧ m.2.2 = roomOf c all f m.1) →
    Inv c all f (seen ++ ms.foldl (stepOne seen r) n) ∧ (∀ s, has n s → has (ms.foldl (stepOne seen r) n) s) ∧ ∀ m ∈ ms, has (seen ++ ms.foldl (stepOne seen r) n) m.2.1 := by
  induction ms with
  | nil => intro n h _; exact ⟨h, fun s q => q, fun m hm => by cases hm⟩
  | cons m ms ih =>
    intro n h hm
    obtain ⟨h1, h2, h3⟩ := stepOne_ok ok hall hf hr h (hm m (List.mem_cons_self ..))
    obtain ⟨g1, g2, g3⟩ := ih h1 (fun m' hm' => hm m' (List.mem_cons_of_mem _ hm'))
    rw [List.foldl_cons]
    refine ⟨g1, fun s q => g2 s (h2 s q), ?_⟩
    intro m' hm'
    rcases List.mem_cons.mp hm' with e | e
    · subst e
      rcases has_append.mp h3 with q | q
      · exact has_append.mpr (Or.inl q)
      · exact has_append.mpr (Or.inr (g2 _ q))
    · exact g3 m' e

def Expanded (c : Case) (f : Flow) (l : List Reached) (s : Spot) : Prop := ∀ m y, Mv c f m s y → has l y
theorem reachOn_ok {c : Case} (ok : CaseOk c) {all : Nat} (hall : 0 < all) {f : Flow} (hf : FI c f) {seen : List Reached} (last : List Reached) :
    ∀ {n : List Reached}, Inv c all f (seen ++ n) → (∀ r ∈ last, r ∈ seen) →
    let new := last.foldl (fun new r => (movesFrom c all f r.spot).foldl (stepOne seen r) new) n
    Inv c all f (seen ++ new) ∧ (∀ s, has n s → has new s) ∧ ∀ r ∈ last, Expanded c f (seen ++ new) r.spot := by
  induction last with
  | nil => intro n h _; exact ⟨h, fun s q => q, fun r hr => by cases hr⟩
  | cons r last ih =>
    intro n h hl
    have hr := hl r (List.mem_cons_self ..)
    obtain ⟨h1, h2, h3⟩ := steps_ok ok hall hf hr (movesFrom c all f r.spot) h (by
      intro m hm; obtain ⟨m, y, k⟩ := m; exact mem_moves.mp hm)
    obtain ⟨g1, g2, g3⟩ := ih h1 (fun q hq => hl q (List.mem_cons_of_mem _ hq))
    simp only [List.foldl_cons]
    refine ⟨g1, fun s q => g2 s (h2 s q), ?_⟩
    intro q hq
    rcases List.mem_cons.mp hq with e | e
    · subst e
      intro m y hm
      have := h3 (m, (y, roomOf c all f m)) (mem_moves.mpr ⟨hm, rfl⟩)
      rcases has_append.mp this with z | z
      · exact has_append.mpr (Or.inl z)
      · exact has_append.mpr (Or.inr (g2 _ z))
    · exact g3 q e

/-- no more spots than there are -/
theorem nodup_lt : ∀ (n : Nat) (l : List Nat), l.Nodup → (∀ x ∈ l, x < n) → l.length ≤ n := by
  intro n
  induction n with
  | zero =>
    intro l _ h
    cases l with
    | nil => simp
    | cons x l => have := h x (List.mem_cons_self ..); omega
  | succ n ih =>
    intro l hd h
    have h1 := ih (l.filter (fun x => decide (x < n))) (hd.filter _) (by intro x hx; simpa using (List.mem_filter.mp hx).2)
    have h2 : (l.filter (fun x => !decide (x < n))).length ≤ 1 := by
      have hd2 : (l.filter (fun x => !decide (x < n))).Nodup := hd.filter _
      have hm : ∀ x ∈ l.filter (fun x => !decide (x < n)), x = n := by
        intro x hx
        have := h x (List.mem_filter.mp hx).1
        have := (List.mem_filter.mp hx).2
        simp at this; omega
      match hL : l.filter (fun x => !decide (x < n)), hd2, hm with
      | [], _, _ => simp
      | [a], _, _ => simp
      | a :: b :: r, hd2, hm =>
        have e1 := hm a (by simp)
        have e2 := hm b (by simp)
        rw [List.nodup_cons] at hd2
        exact absurd (by rw [e1, e2]; exact List.mem_cons_self ..) hd2.1
    have h3 : l.length = (l.filter (fun x => decide (x < n))).length + (l.filter (fun x => !decide (x < n))).length := by
      clear h hd h1 h2 ih
      induction l with
      | nil => rfl
      | cons x l ih => by_cases e : x < n <;> simp [List.filter_cons, e] <;> omega
    omega
theorem Inv.length_le {c : Case} {all : Nat} {f : Flow} {l : List Reached} (h : Inv c all f l) : l.length ≤ c.places * (c.horizon + 1) := by
  have key : (l.map (fun r => r.spot.1 * (c.horizon + 1) + r.spot.2)).Nodup := by
    have hn := h.nodup
    have hi := h.inr
    clear h
    induction l with
    | nil => simp
    | cons r l ih =>
      simp only [List.map_cons, List.nodup_cons] at hn ⊢
      refine ⟨?_, ih hn.2 (fun q hq => hi q (List.mem_cons_of_mem _ hq))⟩
      intro q
      obtain ⟨r', hr', e⟩ := List.mem_map.mp q
      apply hn.1
      refine List.mem_map.mpr ⟨r', hr', ?_⟩
      have i1 := (hi r (List.mem_cons_self ..)).2
      have i2 := (hi r' (List.mem_cons_of_mem _ hr')).2
      have e1 : r'.spot.2 = r.spot.2 := by
        have := congrArg (· % (c.horizon + 1)) e
        simp only [Nat.mul_add_mod_self_right] at this
        rwa [Nat.mod_eq_of_lt (by omega), Nat.mod_eq_of_lt (by omega)] at this
      have e2 : r'.spot.1 = r.spot.1 := by
        rw [e1] at e
        have := Nat.add_right_cancel e
        exact Nat.eq_of_mul_eq_mul_right (by omega) this
      exact Prod.ext e2 e1
  have := nodup_lt (c.places * (c.horizon + 1)) _ key (by
    intro x hx
    obtain ⟨r, hr, rfl⟩ := List.mem_map.mp hx
    obtain ⟨i1, i2⟩ := h.inr r hr
    calc r.spot.1 * (c.horizon + 1) + r.spot.2 < r.spot.1 * (c.horizon + 1) + (c.horizon + 1) := by omega
      _ = (r.spot.1 + 1) * (c.horizon + 1) := by rw [Nat.add_mul]; omega
      _ ≤ c.places * (c.horizon + 1) := Nat.mul_le_mul_right _ i1)
  rwa [List.length_map] at this

theorem reach_ok {c : Case} (ok : CaseOk c) {all : Nat} (hall : 0 < all) {f : Flow} (hf : FI c f) :
    ∀ (n : Nat) {seen last : List Reached}, Inv c all f seen → (∀ r ∈ last, r ∈ seen) → (∀ r ∈ seen, r ∈ last ∨ Expanded c f seen r.spot) →
    (last = [] ∨ c.places * (c.horizon + 1) < seen.length + n) →
    Inv c all f (reach c all f n seen last) ∧ (∀ s, has seen s → has (reach c all f n seen last) s) ∧ ∀ r ∈ reach c all f n seen last, Expanded c f (reach c all f n seen last) r.spot := by
  intro n
  induction n with
  | zero =>
    intro seen last h h1 h2 h3
    unfold reach
    refine ⟨h, fun s q => q, ?_⟩
    rcases h3 with h3 | h3
    · subst h3; intro r hr; rcases h2 r hr with q | q
      · cases q
      · exact q
    · have := h.length_le; omega
  | succ n ih =>
    intro seen last h h1 h2 h3
    have key := reachOn_ok ok hall hf (seen := seen) last (n := []) (by simpa using h) h1
    have e : reachOn c all f seen last = last.foldl (fun new r => (movesFrom c all f r.spot).foldl (stepOne seen r) new) [] := rfl
    rw [← e] at key
    obtain ⟨k1, _, k3⟩ := key
    unfold reach
    generalize hn : reachOn c all f seen last = new at k1 k3
    match new, k1, k3 with
    | [], k1, k3 =>
      dsimp only
      rw [List.append_nil] at k3
      refine ⟨h, fun s q => q, ?_⟩
      intro r hr
      rcases h2 r hr with q | q
      · exact k3 r q
      · exact q
    | x :: new, k1, k3 =>
      dsimp only
      obtain ⟨g1, g2, g3⟩ := ih (seen := seen ++ (x :: new)) (last := x :: new) k1 (fun r hr => List.mem_append.mpr (Or.inr hr))
        (by
          intro r hr
          rcases List.mem_append.mp hr with q | q
          · refine Or.inr ?_
            rcases h2 r q with z | z
            · exact k3 r z
            · intro m y hm; exact has_append.mpr (Or.inl (z m y hm))
          · exact Or.inl q)
        (by
          refine Or.inr ?_
          rcases h3 with z | z
          · subst z; unfold reachOn at hn; simp at hn
          · simp only [List.length_append, List.length_cons]; omega)
      exact ⟨g1, fun s q => g2 s (has_append.mpr (Or.inl q)), g3⟩
end Ev
namespace Ev
open Vbevzz (Case Plan Flow Move Spot Reached sumOf rateAt getAt setAt movesFrom applyMove isReached firstReached reachOn reach reached fill everybody emptyFlow flowBy bestPlan cutBy)

def firstOne (c : Case) (f : Flow) (l : List Reached) (g : Vbevzz.Group × Nat) : List Reached :=
  if 0 < f.left.getD g.2 0 ∧ g.1.minute ≤ c.horizon ∧ isReached l (g.1.place, g.1.minute) = false then l ++ [⟨(g.1.place, g.1.minute), g.2, [], f.left.getD g.2 0⟩] else l
theorem mem_zipIdx_gr {c : Case} {w : Vbevzz.Group} {a : Nat} (h : (w, a) ∈ c.groups.zipIdx) : a < c.groups.length ∧ gr c a = w := by
  rw [List.mem_zipIdx_iff_getElem?] at h
  have h2 : c.groups[a]? = some w := h
  have h3 : a < c.groups.length := by
    rcases Nat.lt_or_ge a c.groups.length with h | h
    · exact h
    · rw [List.getElem?_eq_none h] at h2; cases h2
  refine ⟨h3, ?_⟩
  unfold gr
  rw [List.getD_eq_getElem?_getD, h2]; rfl
theorem gr_mem_zipIdx {c : Case} {a : Nat} (h : a < c.groups.length) : (gr c a, a) ∈ c.groups.zipIdx := by
  rw [List.mem_zipIdx_iff_getElem?]
  show c.groups[a]? = some (gr c a)
  unfold gr
  rw [List.getD_eq_getElem?_getD, List.getElem?_eq_getElem h]; rfl

theorem first_ok {c : Case} (ok : CaseOk c) (all : Nat) (f : Flow) :
    Inv c all f (firstReached c f) ∧ ∀ g, g < c.groups.length → 0 < f.left.getD g 0 → has (firstReached c f) (spotOf c g) := by
  have key : ∀ (gs : List (Vbevzz.Group × Nat)) (l : List Reached), (∀ g ∈ gs, g.2 < c.groups.length ∧ gr c g.2 = g.1) → Inv c all f l →
      Inv c all f (gs.foldl (firstOne c f) l) ∧ (∀ s, has l s → has (gs.foldl (firstOne c f) l) s) ∧ ∀ g ∈ gs, 0 < f.left.getD g.2 0 → has (gs.foldl (firstOne c f) l) (spotOf c g.2) := by
    intro gs
    induction gs with
    | nil => intro l _ h; exact ⟨h, fun s q => q, fun g hg => by cases hg⟩
    | cons g gs ih =>
      intro l hg h
      obtain ⟨h1, h2⟩ := hg g (List.mem_cons_self ..)
      have gok := ok.groups _ (gr_mem h1)
      have es : spotOf c g.2 = (g.1.place, g.1.minute) := by unfold spotOf; rw [h2]
      have main : Inv c all f (firstOne c f l g) ∧ (∀ s, has l s → has (firstOne c f l g) s) ∧ (0 < f.left.getD g.2 0 → has (firstOne c f l g) (spotOf c g.2)) := by
        unfold firstOne
        by_cases e : 0 < f.left.getD g.2 0 ∧ g.1.minute ≤ c.horizon ∧ isReached l (g.1.place, g.1.minute) = false
        · rw [if_pos e]
          refine ⟨h.add ?_ ?_ ?_, fun s q => has_append.mpr (Or.inl q), fun _ => has_append.mpr (Or.inr ⟨_, List.mem_singleton.mpr rfl, es.symm⟩)⟩
          · refine ⟨h1, gok.2, e.1, Nat.le_refl _, ?_, fun m hm => by cases hm⟩
            show Walk c all f (spotOf c g.2) [] (g.1.place, g.1.minute) (f.left.getD g.2 0)
            rw [es]; exact .nil _
          · rw [h2] at gok; exact gok
          · intro q
            have := isReached_iff.mpr q
            rw [e.2.2] at this; cases this
        · rw [if_neg e]
          refine ⟨h, fun s q => q, fun hl => ?_⟩
          rw [es]
          apply isReached_iff.mp
          cases hq : isReached l (g.1.place, g.1.minute) with
          | true => rfl
          | false => exact absurd ⟨hl, by rw [h2] at gok; exact gok.2, hq⟩ e
      obtain ⟨m1, m2, m3⟩ := main
      obtain ⟨i1, i2, i3⟩ := ih _ (fun q hq => hg q (List.mem_cons_of_mem _ hq)) m1
      rw [List.foldl_cons]
      refine ⟨i1, fun s q => i2 s (m2 s q), ?_⟩
      intro q hq hl
      rcases List.mem_cons.mp hq with e | e
      · subst e; exact i2 _ (m3 hl)
      · exact i3 q e hl
  obtain ⟨k1, _, k3⟩ := key c.groups.zipIdx [] (fun g hg => by obtain ⟨w, a⟩ := g; exact mem_zipIdx_gr hg) ⟨(fun r hr => by cases hr), (fun r hr => by cases hr), by simp⟩
  exact ⟨k1, fun g hg hl => k3 _ (gr_mem_zipIdx hg) hl⟩

theorem reached_ok {c : Case} (ok : CaseOk c) {all : Nat} {f : Flow} (hf : FI c f) (hall : ∀ g, g < c.groups.length → 0 < f.left.getD g 0 → 0 < all) :
    (∀ r ∈ reached c all f, Good c all f (reached c all f) r) ∧ Closed c f (has (reached c all f)) ∧
    ∀ g, g < c.groups.length → 0 < f.left.getD g 0 → has (reached c all f) (spotOf c g) := by
  obtain ⟨h1, h2⟩ := first_ok ok all f
  unfold reached
  dsimp only
  generalize firstReached c f = l at h1 h2
  by_cases ha : 0 < all
  · obtain ⟨k1, k2, k3⟩ := reach_ok ok ha hf (c.places * (c.horizon + 1)) h1 (fun r hr => hr) (fun r hr => Or.inl hr) (by
      match l with
      | [] => exact Or.inl rfl
      | r :: l => refine Or.inr ?_; simp only [List.length_cons]; omega)
    refine ⟨k1.good, ?_, fun g hg hl => k2 _ (h2 g hg hl)⟩
    intro m x y hx hm
    obtain ⟨r, hr, rfl⟩ := hx
    exact k3 r hr m y hm
  · have e : l = [] := by
      match l, h1 with
      | [], _ => rfl
      | r :: l, h1 =>
        have g := h1.good r (List.mem_cons_self ..)
        exact absurd (hall _ g.grp (Nat.lt_of_lt_of_le g.room g.left)) ha
    subst e
    have e2 : reach c all f (c.places * (c.horizon + 1)) [] [] = [] := by
      cases c.places * (c.horizon + 1) with
      | zero => rfl
      | succ n => rfl
    rw [e2]
    refine ⟨?_, ?_, fun g hg hl => absurd (hall g hg hl) ha⟩
    · intro r hr; cases hr
    · intro m x y hx; obtain ⟨r, hr, _⟩ := hx; cases hr

theorem reached_sub {c : Case} {all : Nat} {f : Flow} {L : List Reached} (h : ∀ r ∈ L, Good c all f L r) {R : Spot → Prop} (hR : Closed c f R) (hg : ∀ g, g < c.groups.length → 0 < f.left.getD g 0 → R (spotOf c g))
    {s : Spot} (hs : has L s) : R s := by
  obtain ⟨r, hr, rfl⟩ := hs
  have g := h r hr
  exact (g.walk.closed hR (hg _ g.grp (Nat.lt_of_lt_of_le g.room g.left))).1

/-! Filling -/
def leftBy (c : Case) (f : Flow) (v t : Nat) : Nat := sm c.groups.length (fun g => if (gr c g).place = v ∧ (gr c g).minute ≤ t then f.left.getD g 0 else 0)
def leftAll (c : Case) (f : Flow) : Nat := sm c.groups.length (fun g => f.left.getD g 0)

structure FillInv (c : Case) (t : Nat) (f : Flow) : Prop where
  fi : FI c f
  cons : ∀ v, v ≠ 0 → ∀ s, Cx c f v s = (leftBy c f v s : Int)
  late : ∀ a s, 0 < getAt f.sent a s → (wy c a).to_ = 0 → s + (wy c a).span ≤ t
  cut : ∃ R, Closed c f R ∧ (∀ g, g < c.groups.length → 0 < f.left.getD g 0 → R (spotOf c g)) ∧ ∀ s, s < t → ¬ R (0, s)
  sum : leftAll c f ≤ everybody c

theorem FillInv.hall {c : Case} {t : Nat} {f : Flow} (h : FillInv c t f) : ∀ g, g < c.groups.length → 0 < f.left.getD g 0 → 0 < everybody c := by
  intro g hg hl
  have := h.sum
  have h2 := sm_mem_le (f := fun g => f.left.getD g 0) hg
  unfold leftAll at this
  omega

theorem fill_ok {c : Case} (ok : CaseOk c) {t : Nat} : ∀ (n : Nat) (f : Flow), FillInv c t f → leftAll c f < n →
    FillInv c t (fill c (everybody c) t n f) ∧ ¬ has (reached c (everybody c) (fill c (everybody c) t n f)) (0, t) ∧
    ∀ a s, a < c.ways.length → (wy c a).to_ = 0 → s + (wy c a).span < t → getAt (fill c (everybody c) t n f).sent a s = getAt f.sent a s := by
  intro n
  induction n with
  | zero => intro f _ h; omega
  | succ n ih =>
    intro f h hn
    obtain ⟨r1, r2, r3⟩ := reached_ok ok h.fi h.hall
    unfold fill
    cases hfind : (reached c (everybody c) f).find? fun r => r.spot == (0, t) with
    | none =>
      dsimp only
      refine ⟨h, ?_, fun a s _ _ _ => rfl⟩
      rintro ⟨r, hr, e⟩
      have := List.find?_eq_none.mp hfind r hr
      simp [e] at this
    | some r =>
      dsimp only
      have hr : r ∈ reached c (everybody c) f := List.mem_of_find?_eq_some hfind
      have he : r.spot = (0, t) := by simpa using List.find?_some hfind
      have g := r1 r hr
      have hne : ¬ r.room = 0 := by have := g.room; omega
      rw [if_neg hne]
      have gin : inR c (spotOf c r.group) := ok.groups _ (gr_mem g.grp)
      obtain ⟨p1, p2, p3, p4⟩ := push_ok ok h.fi gin g.walk
      have el : ∀ q, (f.left.set r.group (f.left.getD r.group 0 - r.room)).getD q 0 = if q = r.group then f.left.getD r.group 0 - r.room else f.left.getD q 0 := by
        intro q
        simp only [List.getD_eq_getElem?_getD, List.getElem?_set]
        have gl : r.group < f.left.length := by rw [h.fi.sh.left]; exact g.grp
        by_cases e : r.group = q
        · subst e; simp [gl]
        · have e' : ¬ q = r.group := fun z => e z.symm
          simp [e, e']
      generalize hf1 : ({ (r.moves.foldl (applyMove r.room) f) with left := f.left.set r.group (f.left.getD r.group 0 - r.room) } : Flow) = f1
      have s1 : f1.sent = (push r.room r.moves f).sent := by rw [← hf1]; rfl
      have s2 : f1.waits = (push r.room r.moves f).waits := by rw [← hf1]; rfl
      have s3 : f1.left = f.left.set r.group (f.left.getD r.group 0 - r.room) := by rw [← hf1]
      have gl := g.left
      have gp := g.room
      have hl1 : ∀ q, 0 < f1.left.getD q 0 → 0 < f.left.getD q 0 := by
        intro q; rw [s3, el]
        by_cases e : q = r.group
        · rw [if_pos e, e]; omega
        · rw [if_neg e]; exact id
      have mvEq : ∀ m x y, Mv c f1 m x y ↔ Mv c (push r.room r.moves f) m x y := by
        intro m x y
        constructor <;> intro z
        · exact z.congr (fun a t _ => by rw [s1]) (fun a t _ => by rw [s2])
        · exact z.congr (fun a t _ => by rw [s1]) (fun a t _ => by rw [s2])
      obtain ⟨R, c1, c2, c3⟩ := h.cut
      have walkR := g.walk.closed c1 (c2 _ g.grp (by omega))
      have dead : ∀ s, t < s → ∀ m y, ¬ Mv c f m (0, s) y := by
        intro s hs m y hm
        cases m with
        | go a q =>
          have h1 := hm.2.1
          have := (ok.ways _ (wy_mem hm.1)).2.2.1
          simp only [Prod.mk.injEq] at h1; exact this h1.1.symm
        | wait v q =>
          have h1 := hm.1
          simp only [Prod.mk.injEq] at h1; exact hm.2.2.1 h1.1.symm
        | back a q =>
          have h1 := hm.2.1
          simp only [Prod.mk.injEq] at h1
          have := h.late a q hm.2.2.2 h1.1.symm
          omega
        | unwait v q =>
          have h1 := hm.1
          simp only [Prod.mk.injEq] at h1
          exact (h.fi.wdom v q hm.2.2).1 h1.1.symm
      have inv1 : FillInv c t f1 := by
        refine ⟨⟨⟨?_, ?_, ?_, ?_, ?_⟩, ?_, ?_, ?_⟩, ?_, ?_, ?_, ?_⟩
        · rw [s1]; exact p1.sh.sent
        · rw [s1]; exact p1.sh.sentRow
        · rw [s2]; exact p1.sh.waits
        · rw [s2]; exact p1.sh.waitsRow
        · rw [s3, List.length_set]; exact h.fi.sh.left
        · rw [s1]; exact p1.cap
        · rw [s1]; exact p1.dom
        · rw [s2]; exact p1.wdom
        · intro v hv s
          have e1 : Cx c f1 v s = Cx c (push r.room r.moves f) v s := by unfold Cx; rw [s1, s2]
          rw [e1, p2, h.cons v hv s, he]
          have e2 : at_ (0, t) r.room v s = 0 := by unfold at_; rw [if_neg (fun z => hv z.1.symm)]
          rw [e2]
          have e3 := sm_one (n := c.groups.length) (k := r.group)
            (f := fun q => if (gr c q).place = v ∧ (gr c q).minute ≤ s then f1.left.getD q 0 else 0)
            (g := fun q => if (gr c q).place = v ∧ (gr c q).minute ≤ s then f.left.getD q 0 else 0) g.grp
            (by
              intro q _ hq
              show (if _ then _ else _) = if _ then _ else _
              rw [s3, el, if_neg hq])
          rw [s3, el, if_pos rfl, ← s3] at e3
          unfold leftBy at_ spotOf
          dsimp only
          split at e3
          · rename_i hc
            rw [if_pos hc]; omega
          · rename_i hc
            rw [if_neg hc]; omega
        · intro a s
          rw [s1]
          intro hp h0
          by_cases e : (true, a, s) ∈ r.moves.map arcId
          · obtain ⟨m, hm, e2⟩ := List.mem_map.mp e
            have e3 : endsOf c m = endsOf c (.go a s) := ends_of_arc e2
            rcases Nat.lt_or_ge t (s + (wy c a).span) with q | q
            · have := g.walk.dead (dead _ q) m hm (Or.inr (by rw [e3]; show ((wy c a).to_, s + (wy c a).span) = _; rw [h0]))
              rw [he] at this
              simp only [Prod.mk.injEq] at this
              omega
            · exact q
          · rw [push_sent e] at hp; exact h.late a s hp h0
        · refine ⟨R, ?_, fun q hq hl => c2 q hq (hl1 q hl), c3⟩
          have := p4 R c1 (c2 _ g.grp (by omega))
          intro m x y hx hm
          exact this m x y hx ((mvEq m x y).mp hm)
        · have e3 := sm_one (n := c.groups.length) (k := r.group) (f := fun q => f1.left.getD q 0) (g := fun q => f.left.getD q 0) g.grp
            (by
              intro q _ hq
              show f1.left.getD q 0 = f.left.getD q 0
              rw [s3, el, if_neg hq])
          have e4 : f1.left.getD r.group 0 = f.left.getD r.group 0 - r.room := by rw [s3, el, if_pos rfl]
          have := h.sum
          unfold leftAll at this ⊢
          omega
      have less : leftAll c f1 < n := by
        have e3 := sm_one (n := c.groups.length) (k := r.group) (f := fun q => f1.left.getD q 0) (g := fun q => f.left.getD q 0) g.grp
            (by
              intro q _ hq
              show f1.left.getD q 0 = f.left.getD q 0
              rw [s3, el, if_neg hq])
        have e4 : f1.left.getD r.group 0 = f.left.getD r.group 0 - r.room := by rw [s3, el, if_pos rfl]
        unfold leftAll at hn ⊢
        omega
      obtain ⟨i1, i2, i3⟩ := ih f1 inv1 less
      refine ⟨i1, i2, ?_⟩
      intro a s ha h0 hlt
      rw [i3 a s ha h0 hlt, s1, push_sent]
      intro e
      obtain ⟨m, hm, e2⟩ := List.mem_map.mp e
      have e3 : endsOf c m = endsOf c (.go a s) := ends_of_arc e2
      have := (walkR.2 m hm).2
      rw [e3] at this
      apply c3 _ hlt
      rw [← h0]; exact this

theorem getAt_zero_rows (l : List (List Nat)) (h : ∀ r ∈ l, ∀ x ∈ r, x = 0) (i t : Nat) : getAt l i t = 0 := by
  unfold getAt
  rcases Nat.lt_or_ge i l.length with hi | hi
  · have e : l.getD i [] = l[i] := by simp [List.getD_eq_getElem?_getD, hi]
    rw [e]
    rcases Nat.lt_or_ge t l[i].length with ht | ht
    · have e2 : l[i].getD t 0 = l[i][t] := by simp [List.getD_eq_getElem?_getD, ht]
      rw [e2]; exact h _ (List.getElem_mem hi) _ (List.getElem_mem ht)
    · simp [List.getD_eq_getElem?_getD, List.getElem?_eq_none ht]
  · simp [List.getD_eq_getElem?_getD, List.getElem?_eq_none hi]

theorem empty_ok (c : Case) : FillInv c 0 (emptyFlow c) := by
  have z1 : ∀ a t, getAt (emptyFlow c).sent a t = 0 := by
    intro a t
    apply getAt_zero_rows
    intro r hr x hx
    obtain ⟨w, _, rfl⟩ := List.mem_map.mp hr
    exact (List.mem_replicate.mp hx).2
  have z2 : ∀ a t, getAt (emptyFlow c).waits a t = 0 := by
    intro a t
    apply getAt_zero_rows
    intro r hr x hx
    rw [(List.mem_replicate.mp hr).2] at hx
    exact (List.mem_replicate.mp hx).2
  have z3 : ∀ g, (emptyFlow c).left.getD g 0 = if g < c.groups.length then (gr c g).count else 0 := by
    intro g
    show (c.groups.map fun g => g.count).getD g 0 = _
    unfold gr
    by_cases e : g < c.groups.length
    · simp [List.getD_eq_getElem?_getD, e]
    · simp [List.getD_eq_getElem?_getD, e]
  refine ⟨⟨⟨?_, ?_, ?_, ?_, ?_⟩, ?_, ?_, ?_⟩, ?_, ?_, ?_, ?_⟩
  · simp [emptyFlow]
  · intro a ha; simp [emptyFlow, List.getD_eq_getElem?_getD, ha]
  · simp [emptyFlow]
  · intro v hv; simp [emptyFlow, List.getD_eq_getElem?_getD, hv]
  · simp [emptyFlow]
  · intro a t; rw [z1]; exact Nat.zero_le _
  · intro a t; rw [z1]; intro h; omega
  · intro a t; rw [z2]; intro h; omega
  · intro v hv s
    unfold Cx Net.came
    have e1 : (netOf c).into (getAt (emptyFlow c).sent) v (s + 1) = 0 := by
      apply sm_zero; intro a _
      split
      · apply sm_zero; intro t _; split
        · exact z1 _ _
        · rfl
      · rfl
    have e2 : (netOf c).left (getAt (emptyFlow c).sent) v (s + 1) = 0 := by
      apply sm_zero; intro a _
      split
      · apply sm_zero; intro t _; split
        · exact z1 _ _
        · rfl
      · rfl
    rw [e1, e2, z2]
    have e3 : (netOf c).cum v (s + 1) = leftBy c (emptyFlow c) v s := by
      apply sm_congr; intro g hg
      show (if (gr c g).place = v ∧ (gr c g).minute < s + 1 then (gr c g).count else 0) = _
      rw [z3, if_pos hg]
      by_cases e : (gr c g).place = v ∧ (gr c g).minute ≤ s
      · rw [if_pos e, if_pos ⟨e.1, by omega⟩]
      · rw [if_neg e, if_neg (by omega)]
    rw [e3]; omega
  · intro a s; rw [z1]; intro h; omega
  · exact ⟨fun _ => True, fun _ _ _ _ _ => trivial, fun _ _ _ => trivial, fun s hs => by omega⟩
  · unfold leftAll everybody
    rw [sumOf_eq, sum_getD g0]
    apply Nat.le_of_eq; apply sm_congr; intro g hg
    rw [z3, if_pos hg]; rfl

theorem FillInv.next {c : Case} (ok : CaseOk c) {t : Nat} {f : Flow} (h : FillInv c t f) (hn : ¬ has (reached c (everybody c) f) (0, t)) :
    (∀ s, s < t + 1 → ¬ has (reached c (everybody c) f) (0, s)) ∧ FillInv c (t + 1) f := by
  obtain ⟨r1, r2, r3⟩ := reached_ok ok h.fi h.hall
  have key : ∀ s, s < t + 1 → ¬ has (reached c (everybody c) f) (0, s) := by
    intro s hs q
    rcases Nat.lt_or_ge s t with e | e
    · obtain ⟨R, c1, c2, c3⟩ := h.cut
      exact c3 s e (reached_sub r1 c1 c2 q)
    · have : s = t := by omega
      subst this; exact hn q
  exact ⟨key, h.fi, h.cons, fun a s hp h0 => Nat.le_trans (h.late a s hp h0) (by omega), ⟨_, r2, r3, key⟩, h.sum⟩

theorem flow_ok {c : Case} (ok : CaseOk c) (t : Nat) : FillInv c t (flowBy c t) ∧ (∀ s, s < t + 1 → ¬ has (reached c (everybody c) (flowBy c t)) (0, s)) := by
  induction t with
  | zero =>
    unfold flowBy
    have h0 := empty_ok c
    obtain ⟨h1, h2, _⟩ := fill_ok ok (everybody c + 1) _ h0 (by have := h0.sum; omega)
    exact ⟨h1, (h1.next ok h2).1⟩
  | succ t ih =>
    unfold flowBy
    have h0 := (ih.1.next ok (ih.2 t (by omega))).2
    obtain ⟨h1, h2, _⟩ := fill_ok ok (everybody c + 1) _ h0 (by have := h0.sum; omega)
    exact ⟨h1, (h1.next ok h2).1⟩
theorem flow_fixed {c : Case} (ok : CaseOk c) {t T : Nat} (h : t ≤ T) (a s : Nat) (ha : a < c.ways.length) (h0 : (wy c a).to_ = 0) (hs : s + (wy c a).span ≤ t) :
    getAt (flowBy c T).sent a s = getAt (flowBy c t).sent a s := by
  induction T with
  | zero => have : t = 0 := by omega
            subst this; rfl
  | succ T ih =>
    by_cases e : t = T + 1
    · subst e; rfl
    · rw [← ih (by omega)]
      have i1 := flow_ok ok T
      have h1 := (i1.1.next ok (i1.2 T (by omega))).2
      exact (fill_ok ok (everybody c + 1) _ h1 (by have := h1.sum; omega)).2.2 a s ha h0 (by omega)

theorem find_range (n : Nat) (p : Nat → Bool) : (∀ s, s < ((List.range n).find? p).getD n → p s = false) ∧ (((List.range n).find? p).getD n < n → p (((List.range n).find? p).getD n) = true) ∧ ((List.range n).find? p).getD n ≤ n := by
  induction n with
  | zero => simp
  | succ n ih =>
    rw [List.range_succ, List.find?_append]
    cases h : (List.range n).find? p with
    | some x =>
      rw [h] at ih
      simp only [Option.getD_some, Option.some_or] at ih ⊢
      have hx : x < n := List.mem_range.mp (List.mem_of_find?_eq_some h)
      exact ⟨ih.1, fun _ => ih.2.1 hx, by omega⟩
    | none =>
      rw [h] at ih
      simp only [Option.getD_none, Option.none_or] at ih ⊢
      cases hp : p n with
      | true => simp [hp]; exact ih.1
      | false =>
        simp [hp]
        intro s hs
        by_cases e : s = n
        · subst e; exact hp
        · exact ih.1 s (by omega)

/-- **the greatest numbers and the cuts** -/
theorem cut_ok {c : Case} (ok : CaseOk c) {t : Nat} (ht : t ≤ c.horizon) :
    (netOf c).through (Vbevzz.late (cutBy c t) t) ≤ (netOf c).came (getAt (flowBy c t).sent) 0 (t + 1) := by
  obtain ⟨h, hn⟩ := flow_ok ok t
  obtain ⟨_, r2, r3⟩ := reached_ok ok h.fi h.hall
  generalize hL : has (reached c (everybody c) (flowBy c t)) = L at hn r2 r3
  have hK0 : Vbevzz.late (cutBy c t) t 0 = t + 1 := rfl
  have hK : ∀ v, v ≠ 0 → v < c.places → (∀ s, s < Vbevzz.late (cutBy c t) t v → ¬ L (v, s)) ∧ (Vbevzz.late (cutBy c t) t v ≤ c.horizon → L (v, Vbevzz.late (cutBy c t) t v)) ∧ Vbevzz.late (cutBy c t) t v ≤ c.horizon + 1 := by
    intro v hv hvP
    have e : Vbevzz.late (cutBy c t) t v = ((List.range (c.horizon + 1)).find? fun s => isReached (reached c (everybody c) (flowBy c t)) (v, s)).getD (c.horizon + 1) := by
      unfold Vbevzz.late cutBy
      rw [if_neg hv]
      simp [List.getD_eq_getElem?_getD, hvP, hv]
    have k := find_range (c.horizon + 1) (fun s => isReached (reached c (everybody c) (flowBy c t)) (v, s))
    rw [← e] at k
    refine ⟨?_, ?_, k.2.2⟩
    · intro s hs q
      have := k.1 s hs
      rw [← hL] at q
      have q := isReached_iff.mpr q
      rw [this] at q; cases q
    · intro hs
      have := k.2.1 (by omega)
      rw [← hL]; exact isReached_iff.mp this
  generalize Vbevzz.late (cutBy c t) t = K at hK0 hK
  have hup : ∀ v, v ≠ 0 → v < c.places → ∀ s, K v ≤ s → s ≤ c.horizon → L (v, s) := by
    intro v hv hvP s
    induction s with
    | zero => intro h1 h2; have := (hK v hv hvP).2.1 (by omega); rwa [show K v = 0 by omega] at this
    | succ s ih =>
      intro h1 h2
      by_cases e : K v = s + 1
      · have := (hK v hv hvP).2.1 (by omega); rwa [e] at this
      · exact r2 (.wait v s) (v, s) (v, s + 1) (ih (by omega) (by omega)) ⟨rfl, rfl, hv, by omega⟩
  rw [← hK0]
  apply Net.strong ok.wf
  · intro v hv hvP
    have hvP : v < c.places := hvP
    by_cases e : K v = 0
    · rw [e]
      have : (netOf c).came (getAt (flowBy c t).sent) v 0 = 0 := by
        unfold Net.came Net.into
        have e1 : (netOf c).cum v 0 = 0 := by apply sm_zero; intro g _; rw [if_neg (by omega)]
        rw [e1, sm_zero]
        intro a _
        split
        · apply sm_zero; intro s _; rw [if_neg (by omega)]
        · rfl
      omega
    · have hc := h.cons v hv (K v - 1)
      unfold Cx at hc
      rw [show K v - 1 + 1 = K v by omega] at hc
      have e1 : leftBy c (flowBy c t) v (K v - 1) = 0 := by
        apply sm_zero; intro g hg
        split
        · rename_i hq
          rcases Nat.eq_zero_or_pos ((flowBy c t).left.getD g 0) with z | z
          · exact z
          · have := r3 g hg z
            unfold spotOf at this
            rw [hq.1] at this
            exact absurd this ((hK v hv hvP).1 _ (by omega))
        · rfl
      have e2 : getAt (flowBy c t).waits v (K v - 1) = 0 := by
        rcases Nat.eq_zero_or_pos (getAt (flowBy c t).waits v (K v - 1)) with z | z
        · exact z
        · have w := h.fi.wdom _ _ z
          have := (hK v hv hvP).2.1 (by omega)
          have := r2 (.unwait v (K v - 1)) (v, K v) (v, K v - 1) this ⟨by rw [show K v - 1 + 1 = K v by omega], rfl, z⟩
          exact absurd this ((hK v hv hvP).1 _ (by omega))
      rw [e1, e2] at hc
      omega
  · intro a ha s h1 h2 h3 h4
    have w := ok.ways _ (wy_mem ha)
    have w1 := w.2.2.1
    show rateAt (wy c a) s ≤ _
    rcases Nat.lt_or_ge (getAt (flowBy c t).sent a s) (rateAt (wy c a) s) with q | q
    · exfalso
      have h2 : s < c.horizon := h2
      have h3 : K (wy c a).from_ ≤ s := h3
      have h4 : s + (wy c a).span < K (wy c a).to_ := h4
      have l1 := hup _ w1 w.1 s h3 (by omega)
      have kle : K (wy c a).to_ ≤ c.horizon + 1 := by
        by_cases e : (wy c a).to_ = 0
        · rw [e, hK0]; omega
        · exact (hK _ e w.2.1).2.2
      have l2 := r2 (.go a s) _ ((wy c a).to_, s + (wy c a).span) l1 ⟨ha, rfl, rfl, h1, h2, by omega, q⟩
      by_cases e : (wy c a).to_ = 0
      · rw [e] at l2 h4; rw [hK0] at h4; exact hn _ h4 l2
      · exact (hK _ e w.2.1).1 _ h4 l2
    · exact q
  · intro a ha s h1 h2 h3 h4
    have w := ok.ways _ (wy_mem ha)
    have w1 := w.2.2.1
    rcases Nat.eq_zero_or_pos (getAt (flowBy c t).sent a s) with z | z
    · exact z
    · exfalso
      have h3 : s < K (wy c a).from_ := h3
      have h4 : ¬ s + (wy c a).span < K (wy c a).to_ := h4
      obtain ⟨_, _, _, d4⟩ := h.fi.dom _ _ z
      by_cases e : (wy c a).to_ = 0
      · have := h.late a s z e
        rw [e, hK0] at h4; omega
      · have l1 := hup _ e w.2.1 (s + (wy c a).span) (by omega) d4
        have l2 := r2 (.back a s) _ ((wy c a).from_, s) l1 ⟨ha, rfl, rfl, z⟩
        exact (hK _ w1 w.1).1 _ h3 l2

theorem best_plan_ok {c : Case} (ok : CaseOk c) : (netOf c).Ok (getAt (bestPlan c)) := by
  obtain ⟨h, _⟩ := flow_ok ok c.horizon
  refine ⟨fun a _ s _ _ => h.fi.cap a s, ?_⟩
  intro v hv s _ _
  by_cases e : v = 0
  · subst e; rw [Net.left_exit ok.wf]; exact Nat.zero_le _
  · have := h.cons v e s
    unfold Cx at this
    unfold bestPlan
    omega
theorem best_came {c : Case} (ok : CaseOk c) {t : Nat} (ht : t ≤ c.horizon) :
    (netOf c).came (getAt (bestPlan c)) 0 (t + 1) = (netOf c).through (Vbevzz.late (cutBy c t) t) := by
  have e : (netOf c).came (getAt (bestPlan c)) 0 (t + 1) = (netOf c).came (getAt (flowBy c t).sent) 0 (t + 1) := by
    unfold Net.came Net.into bestPlan
    congr 1
    apply sm_congr; intro a ha
    by_cases e0 : (netOf c).to a = 0
    · rw [if_pos e0, if_pos e0]; apply sm_congr; intro s _
      by_cases e1 : (netOf c).now ≤ s ∧ s + (netOf c).sp a < t + 1
      · rw [if_pos e1, if_pos e1]; exact flow_fixed ok ht a s ha e0 (by have := e1.2; show s + (netOf c).sp a ≤ t; omega)
      · rw [if_neg e1, if_neg e1]
    · rw [if_neg e0, if_neg e0]
  have h1 := cut_ok ok ht
  have h2 := Net.weak ok.wf (best_plan_ok ok) (Vbevzz.late (cutBy c t) t)
  rw [show Vbevzz.late (cutBy c t) t 0 = t + 1 from rfl] at h2
  omega
/-- by every minute no plan has more out than the best one -/
theorem best_most {c : Case} (ok : CaseOk c) {p : Pl} (hp : (netOf c).Ok p) {t : Nat} (ht : t ≤ c.horizon) :
    (netOf c).came p 0 (t + 1) ≤ (netOf c).came (getAt (bestPlan c)) 0 (t + 1) := by
  rw [best_came ok ht]
  have h2 := Net.weak ok.wf hp (Vbevzz.late (cutBy c t) t)
  rwa [show Vbevzz.late (cutBy c t) t 0 = t + 1 from rfl] at h2
end Ev
namespace Ev
open Vbevzz (Case Plan House sumOf rateAt getAt setAt caseOf bestPlan cutBy)
open VbevzzLaw (Building hereAt rateOf)

/-! Nets that are the same -/
structure Net.Same (N M : Net) : Prop where
  P : N.P = M.P
  T : N.T = M.T
  now : N.now = M.now
  n : N.n = M.n
  fr : ∀ a, a < M.n → N.fr a = M.fr a
  to : ∀ a, a < M.n → N.to a = M.to a
  sp : ∀ a, a < M.n → N.sp a = M.sp a
  rate : ∀ a, a < M.n → ∀ t, M.now ≤ t → N.rate a t = M.rate a t
  cum : ∀ v, v < M.P → ∀ k, N.cum v k = M.cum v k
theorem Net.Same.into {N M : Net} (h : N.Same M) (p : Pl) (v k : Nat) : N.into p v k = M.into p v k := by
  unfold Net.into
  rw [h.n]; apply sm_congr; intro a ha
  rw [h.to a ha, h.sp a ha, h.T, h.now]
theorem Net.Same.left {N M : Net} (h : N.Same M) (p : Pl) (v k : Nat) : N.left p v k = M.left p v k := by
  unfold Net.left
  rw [h.n]; apply sm_congr; intro a ha
  rw [h.fr a ha, h.T, h.now]
theorem Net.Same.came {N M : Net} (h : N.Same M) (p : Pl) {v : Nat} (hv : v < M.P) (k : Nat) : N.came p v k = M.came p v k := by
  unfold Net.came; rw [h.into, h.cum v hv]
theorem Net.Same.ok {N M : Net} (h : N.Same M) {p : Pl} : N.Ok p ↔ M.Ok p := by
  unfold Net.Ok
  constructor
  · rintro ⟨h1, h2⟩
    refine ⟨?_, ?_⟩
    · intro a ha s hs ht
      rw [← h.rate a ha s hs]; exact h1 a (by rw [h.n]; exact ha) s (by rw [h.now]; exact hs) (by rw [h.T]; exact ht)
    · intro v hv s hs ht
      rw [← h.left, ← h.came p hv]; exact h2 v (by rw [h.P]; exact hv) s (by rw [h.now]; exact hs) (by rw [h.T]; exact ht)
  · rintro ⟨h1, h2⟩
    refine ⟨?_, ?_⟩
    · intro a ha s hs ht
      rw [h.n] at ha; rw [h.now] at hs; rw [h.T] at ht
      rw [h.rate a ha s hs]; exact h1 a ha s hs ht
    · intro v hv s hs ht
      rw [h.P] at hv; rw [h.now] at hs; rw [h.T] at ht
      rw [h.left, h.came p hv]; exact h2 v hv s hs ht
theorem Net.Same.through {N M : Net} (h : N.Same M) (K : Nat → Nat) : N.through K = M.through K := by
  unfold Net.through
  rw [h.P, h.n, h.T]
  congr 1
  · apply sm_congr; intro v hv; exact h.cum v hv _
  · apply sm_congr; intro a ha
    rw [h.fr a ha, h.to a ha, h.sp a ha]
    apply sm_congr; intro s _
    rw [h.now]
    split
    · rename_i hc; exact h.rate a ha s hc.1
    · rfl

/-! The net of a house -/
theorem sum_flatMap {α : Type} (n : Nat) (G : Nat → List α) (F : α → Nat) : (((List.range n).flatMap G).map F).sum = sm n (fun u => ((G u).map F).sum) := by
  induction n with
  | zero => rfl
  | succ n ih => rw [List.range_succ]; simp [List.flatMap_append, sm, ih]
theorem sum_filter_zero {α : Type} (l : List α) (p : α → Bool) (F : α → Nat) (h : ∀ x, p x = false → F x = 0) : ((l.filter p).map F).sum = (l.map F).sum := by
  induction l with
  | nil => rfl
  | cons x l ih =>
    cases hp : p x with
    | true => simp [hp, ih]
    | false => simp [hp, ih, h x hp]

def cumH (h : House) (v k : Nat) : Nat := (if h.now < k then h.here.getD v 0 else 0) + sm (h.horizon + 1) (fun t => if h.now < t ∧ t < k then getAt h.coming v t else 0)
theorem cum_caseOf (h : House) (v : Nat) (hv : v < h.places) (k : Nat) : (netOf (caseOf h)).cum v k = cumH h v k := by
  have e1 : (netOf (caseOf h)).cum v k = ((caseOf h).groups.map (fun g => if g.place = v ∧ g.minute < k then g.count else 0)).sum := by
    rw [sum_getD g0]; rfl
  rw [e1]
  unfold caseOf
  dsimp only
  rw [sum_filter_zero _ _ _ (by
    intro g hg
    have : g.count = 0 := by simpa using hg
    rw [this]; simp), sum_flatMap]
  have e2 : ∀ u, ((({ place := u, minute := h.now, count := h.here.getD u 0 } : Vbevzz.Group) :: List.map (fun t => ({ place := u, minute := t, count := getAt h.coming u t } : Vbevzz.Group)) (List.filter (fun t => decide (h.now < t)) (List.range (h.horizon + 1)))).map (fun g => if g.place = v ∧ g.minute < k then g.count else 0)).sum
      = if v = u then cumH h u k else 0 := by
    intro u
    simp only [List.map_cons, List.sum_cons, List.map_map]
    unfold cumH
    by_cases e : v = u
    · subst e
      rw [if_pos rfl]
      congr 1
      · by_cases e3 : h.now < k
        · rw [if_pos ⟨rfl, e3⟩, if_pos e3]
        · rw [if_neg (fun z => e3 z.2), if_neg e3]
      · rw [sum_filter, sum_range]
        apply sm_congr; intro t _
        simp only [Function.comp_def, true_and, decide_eq_true_eq]
        by_cases e4 : h.now < t <;> by_cases e5 : t < k <;> simp [e4, e5]
    · have e' : ¬ u = v := fun z => e z.symm
      rw [if_neg e, if_neg (fun z => e' z.1)]
      have : ∀ l : List Nat, (List.map ((fun g : Vbevzz.Group => if g.place = v ∧ g.minute < k then g.count else 0) ∘ fun t => ({ place := u, minute := t, count := getAt h.coming u t } : Vbevzz.Group)) l).sum = 0 := by
        intro l
        induction l with
        | nil => rfl
        | cons x l ih =>
          simp only [List.map_cons, List.sum_cons]; rw [ih]
          simp only [Function.comp_def]; rw [if_neg (fun z => e' z.1)]
      rw [this]
  simp only [e2]
  rw [sm_pick h.places v (fun u => cumH h u k), if_pos hv]

/-- A house as it must be. -/
structure HouseOk (h : House) : Prop where
  pos : 0 < h.places
  nowle : h.now ≤ h.horizon
  way : ∀ w ∈ h.ways, w.from_ < h.places ∧ w.to_ < h.places ∧ w.from_ ≠ 0 ∧ 1 ≤ w.span ∧ w.rates.length = h.horizon
  hlen : h.here.length = h.places
  clen : h.coming.length = h.places
  crow : ∀ v, v < h.places → (h.coming.getD v []).length = h.horizon + 1
theorem HouseOk.case {h : House} (ok : HouseOk h) : CaseOk (caseOf h) where
  pos := ok.pos
  ways := fun w hw => ⟨(ok.way w hw).1, (ok.way w hw).2.1, (ok.way w hw).2.2.1, (ok.way w hw).2.2.2.1⟩
  groups := by
    intro g hg
    have hg := (List.mem_filter.mp hg).1
    obtain ⟨v, hv, hg⟩ := List.mem_flatMap.mp hg
    rw [List.mem_range] at hv
    rcases List.mem_cons.mp hg with e | e
    · subst e; exact ⟨hv, ok.nowle⟩
    · obtain ⟨t, ht, e⟩ := List.mem_map.mp e
      subst e
      have := List.mem_range.mp (List.mem_filter.mp ht).1
      exact ⟨hv, by show t ≤ h.horizon; omega⟩

/-! The net of a building -/
def u0 : VbevzzLaw.Way := ⟨0, 0, 0, []⟩
def uy (b : Building) (a : Nat) : VbevzzLaw.Way := b.ways.getD a u0
def hy (h : House) (a : Nat) : Vbevzz.Way := h.ways.getD a w0
def netB (T : Nat) (b : Building) : Net where
  P := b.here.length
  T := T
  now := b.now
  n := b.ways.length
  fr := fun a => (uy b a).from_
  to := fun a => (uy b a).to_
  sp := fun a => (uy b a).span
  rate := fun a t => rateOf (uy b a) t
  cum := fun v k => (if b.now < k then hereAt b v else 0) + sm (T + 1) (fun t => if b.now < t ∧ t < k then b.coming v t else 0)

/-- A house shows a building. -/
structure Rel (P T : Nat) (h : House) (b : Building) : Prop where
  ok : HouseOk h
  places : h.places = P
  horizon : h.horizon = T
  now : h.now = b.now
  nways : h.ways.length = b.ways.length
  way : ∀ a, a < b.ways.length → (hy h a).from_ = (uy b a).from_ ∧ (hy h a).to_ = (uy b a).to_ ∧ (hy h a).span = (uy b a).span ∧ (uy b a).rates.length = T ∧ ∀ t, b.now ≤ t → rateAt (hy h a) t = rateOf (uy b a) t
  here : h.here = b.here
  coming : ∀ v t, v < P → b.now < t → t ≤ T → getAt h.coming v t = b.coming v t
  out : h.out = b.gone
  told : Vbevzz.total h = b.told
  few : b.told ≤ 30

theorem Rel.same {P T : Nat} {h : House} {b : Building} (r : Rel P T h b) : (netOf (caseOf h)).Same (netB T b) where
  P := by show h.places = b.here.length; rw [← r.here, r.ok.hlen]
  T := r.horizon
  now := r.now
  n := r.nways
  fr := fun a ha => (r.way a ha).1
  to := fun a ha => (r.way a ha).2.1
  sp := fun a ha => (r.way a ha).2.2.1
  rate := fun a ha => (r.way a ha).2.2.2.2
  cum := by
    intro v hv k
    have hv : v < b.here.length := hv
    rw [cum_caseOf h v (by rw [← r.ok.hlen, r.here]; exact hv)]
    unfold cumH
    show _ = (if b.now < k then hereAt b v else 0) + sm (T + 1) (fun t => if b.now < t ∧ t < k then b.coming v t else 0)
    rw [r.now, r.here, r.horizon]
    congr 1
    apply sm_congr; intro t ht
    split
    · rename_i hc; exact r.coming v t (by rw [← r.places, ← r.ok.hlen, r.here]; exact hv) hc.1 (by omega)
    · rfl

theorem mem_zipIdx_uy {b : Building} {w : VbevzzLaw.Way} {a : Nat} (h : (w, a) ∈ b.ways.zipIdx) : a < b.ways.length ∧ uy b a = w := by
  rw [List.mem_zipIdx_iff_getElem?] at h
  have h2 : b.ways[a]? = some w := h
  have h3 : a < b.ways.length := by
    rcases Nat.lt_or_ge a b.ways.length with h | h
    · exact h
    · rw [List.getElem?_eq_none h] at h2; cases h2
  refine ⟨h3, ?_⟩
  unfold uy
  rw [List.getD_eq_getElem?_getD, h2]; rfl
theorem uy_mem_zipIdx {b : Building} {a : Nat} (h : a < b.ways.length) : (uy b a, a) ∈ b.ways.zipIdx := by
  rw [List.mem_zipIdx_iff_getElem?]
  show b.ways[a]? = some (uy b a)
  unfold uy
  rw [List.getD_eq_getElem?_getD, List.getElem?_eq_getElem h]; rfl
theorem mem_minutesB {b : Building} {T t : Nat} : t ∈ VbevzzLaw.minutes b T ↔ b.now ≤ t ∧ t < T := by
  unfold VbevzzLaw.minutes
  simp only [List.mem_filter, List.mem_range, decide_eq_true_eq]
  omega

theorem sm_cut {n m : Nat} (f : Nat → Nat) (h : m ≤ n) : sm n (fun t => if t < m then f t else 0) = sm m f := by
  induction n with
  | zero => have : m = 0 := by omega
            subst this; rfl
  | succ n ih =>
    simp only [sm]
    by_cases e : m = n + 1
    · subst e
      rw [if_pos (by omega)]
      show _ = sm n f + f n
      congr 1
      apply sm_congr; intro i hi; rw [if_pos (by omega)]
    · rw [ih (by omega), if_neg (by omega)]; omega

theorem cameBy_eq (b : Building) (T : Nat) (p : Pl) (v t : Nat) (h1 : b.now ≤ t) (h2 : t ≤ T) : VbevzzLaw.cameBy b T p v t = (netB T b).came p v (t + 1) := by
  unfold VbevzzLaw.cameBy Net.came Net.into
  congr 1
  · show _ = (if b.now < t + 1 then hereAt b v else 0) + sm (T + 1) (fun s => if b.now < s ∧ s < t + 1 then b.coming v s else 0)
    rw [if_pos (by omega), sum_range]
    congr 1
    rw [← sm_cut (n := T + 1) (m := t + 1) _ (by omega)]
    apply sm_congr; intro s _
    by_cases e1 : b.now < s <;> by_cases e2 : s < t + 1 <;> simp [e1, e2]
  · rw [sum_zipIdx u0]
    apply sm_congr; intro a _
    show (if (uy b a).to_ = v then _ else 0) = if (uy b a).to_ = v then _ else 0
    by_cases e : (uy b a).to_ = v
    · rw [if_pos e, if_pos e]
      unfold VbevzzLaw.minutes
      rw [sum_minutes]
      apply sm_congr; intro s _
      show (if b.now ≤ s then (if s + (uy b a).span ≤ t then p a s else 0) else 0) = if b.now ≤ s ∧ s + (uy b a).span < t + 1 then p a s else 0
      by_cases e1 : b.now ≤ s
      · by_cases e2 : s + (uy b a).span ≤ t
        · rw [if_pos e1, if_pos e2, if_pos ⟨e1, by omega⟩]
        · rw [if_pos e1, if_neg e2, if_neg (by omega)]
      · rw [if_neg e1, if_neg (by omega)]
    · rw [if_neg e, if_neg e]
theorem leftBy_eq (b : Building) (T : Nat) (p : Pl) (v t : Nat) : VbevzzLaw.leftBy b T p v t = (netB T b).left p v (t + 1) := by
  unfold VbevzzLaw.leftBy Net.left
  rw [sum_zipIdx u0]
  apply sm_congr; intro a _
  show (if (uy b a).from_ = v then _ else 0) = if (uy b a).from_ = v then _ else 0
  by_cases e : (uy b a).from_ = v
  · rw [if_pos e, if_pos e]
    unfold VbevzzLaw.minutes
    rw [sum_minutes]
    apply sm_congr; intro s _
    show (if b.now ≤ s then (if s ≤ t then p a s else 0) else 0) = if b.now ≤ s ∧ s < t + 1 then p a s else 0
    by_cases e1 : b.now ≤ s
    · by_cases e2 : s ≤ t
      · rw [if_pos e1, if_pos e2, if_pos ⟨e1, by omega⟩]
      · rw [if_pos e1, if_neg e2, if_neg (by omega)]
    · rw [if_neg e1, if_neg (by omega)]
  · rw [if_neg e, if_neg e]
theorem isPossible_iff (b : Building) (T : Nat) (p : Pl) : VbevzzLaw.IsPossible b T p ↔ (netB T b).Ok p := by
  unfold VbevzzLaw.IsPossible Net.Ok
  constructor
  · intro h
    refine ⟨?_, ?_⟩
    · intro a ha s h1 h2
      exact (h s (mem_minutesB.mpr ⟨h1, h2⟩)).1 _ (uy_mem_zipIdx ha)
    · intro v hv s h1 h2
      have := (h s (mem_minutesB.mpr ⟨h1, h2⟩)).2 v hv
      have h1 : b.now ≤ s := h1
      have h2 : s < T := h2
      rwa [leftBy_eq, cameBy_eq b T p v s h1 (by omega)] at this
  · rintro ⟨g1, g2⟩ s hs
    obtain ⟨h1, h2⟩ := mem_minutesB.mp hs
    refine ⟨?_, ?_⟩
    · intro x hx
      obtain ⟨w, a⟩ := x
      obtain ⟨ha, hw⟩ := mem_zipIdx_uy hx
      have := g1 a ha s h1 h2
      subst hw; exact this
    · intro v hv
      rw [leftBy_eq, cameBy_eq b T p v s h1 (by omega)]
      exact g2 v hv s h1 h2
theorem boundOf_eq (b : Building) (T : Nat) (cut : List Int) (t : Nat) : VbevzzLaw.boundOf b T cut t = b.gone + (netB T b).through (VbevzzLaw.lateFrom cut t) := by
  unfold VbevzzLaw.boundOf Net.through
  rw [Nat.add_assoc]
  congr 2
  · rw [sum_range]
    apply sm_congr; intro v _
    show _ = (if b.now < VbevzzLaw.lateFrom cut t v then hereAt b v else 0) + sm (T + 1) (fun s => if b.now < s ∧ s < VbevzzLaw.lateFrom cut t v then b.coming v s else 0)
    rw [sum_range]
  · rw [sum_getD u0]
    apply sm_congr; intro a _
    unfold VbevzzLaw.minutes
    rw [sum_minutes]
    apply sm_congr; intro s _
    show (if b.now ≤ s then (if VbevzzLaw.lateFrom cut t (uy b a).from_ ≤ s ∧ s + (uy b a).span < VbevzzLaw.lateFrom cut t (uy b a).to_ then rateOf (uy b a) s else 0) else 0) = if b.now ≤ s ∧ VbevzzLaw.lateFrom cut t (uy b a).from_ ≤ s ∧ s + (uy b a).span < VbevzzLaw.lateFrom cut t (uy b a).to_ then rateOf (uy b a) s else 0
    by_cases e1 : b.now ≤ s
    · by_cases e2 : VbevzzLaw.lateFrom cut t (uy b a).from_ ≤ s ∧ s + (uy b a).span < VbevzzLaw.lateFrom cut t (uy b a).to_
      · rw [if_pos e1, if_pos e2, if_pos ⟨e1, e2⟩]
      · rw [if_pos e1, if_neg e2, if_neg (fun q => e2 q.2)]
    · rw [if_neg e1, if_neg (fun q => e1 q.1)]
end Ev
namespace Ev
open Vbevzz (Case Plan House sumOf rateAt getAt setAt caseOf bestPlan cutBy enters shut canEnter canWalk walkOver nextMinute total)
open VbevzzLaw (Building hereAt rateOf)

/-! Rows again -/
theorem set_getD_self {l : List Nat} {i : Nat} (h : i < l.length) : l.set i (l.getD i 0) = l := by
  apply List.ext_getElem?
  intro j
  rw [List.getElem?_set]
  by_cases e : i = j
  · subst e; simp [List.getD_eq_getElem?_getD, h]
  · simp [e]
theorem getD_set {α : Type} (l : List α) (i j : Nat) (x d : α) : (l.set i x).getD j d = if j = i ∧ i < l.length then x else l.getD j d := by
  simp only [List.getD_eq_getElem?_getD, List.getElem?_set]
  by_cases e : i = j
  · subst e
    by_cases e2 : i < l.length
    · simp [e2]
    · have : l[i]? = none := by simp; omega
      simp [e2, this]
  · have e' : ¬ j = i := fun z => e z.symm
    simp [e, e']
theorem setAt_self (l : List (List Nat)) (i t : Nat) (h : i < l.length) (h2 : t < (l.getD i []).length) : setAt l i t (getAt l i t) = l := by
  unfold setAt getAt
  rw [set_getD_self h2]
  apply List.ext_getElem?
  intro j
  rw [List.getElem?_set]
  by_cases e : i = j
  · subst e; simp [List.getD_eq_getElem?_getD, h]
  · simp [e]
theorem hy_mem {h : House} {a : Nat} (ha : a < h.ways.length) : hy h a ∈ h.ways := by
  unfold hy; rw [List.getD_eq_getElem?_getD, List.getElem?_eq_getElem ha]; simp
theorem hy_get {h : House} {a : Nat} (ha : a < h.ways.length) : h.ways[a]? = some (hy h a) := by
  unfold hy; rw [List.getD_eq_getElem?_getD, List.getElem?_eq_getElem ha]; rfl
theorem mem_hy {h : House} {w : Vbevzz.Way} (hw : w ∈ h.ways) : ∃ a, a < h.ways.length ∧ hy h a = w := by
  obtain ⟨a, ha, e⟩ := List.getElem_of_mem hw
  refine ⟨a, ha, ?_⟩
  unfold hy; rw [List.getD_eq_getElem?_getD, List.getElem?_eq_getElem ha]; exact e

/-! Entering -/
def single (a x : Nat) : Nat → Nat := fun i => if a = i then x else 0
def Lv (h : House) (ys : Nat → Nat) (v : Nat) : Nat := sm h.ways.length (fun a => if (hy h a).from_ = v then ys a else 0)
def Rc (h : House) (ys : Nat → Nat) (v t : Nat) : Nat := sm h.ways.length (fun a => if (hy h a).to_ = v ∧ h.now + (hy h a).span = t then ys a else 0)
def Aw (h : House) (ys : Nat → Nat) : Nat := sm h.ways.length (fun a => if h.horizon < h.now + (hy h a).span then ys a else 0)

structure Ent (h g : House) (ys zs : Nat → Nat) : Prop where
  ok : HouseOk g
  places : g.places = h.places
  horizon : g.horizon = h.horizon
  now : g.now = h.now
  out : g.out = h.out
  n : g.ways.length = h.ways.length
  way : ∀ a, a < h.ways.length → (hy g a).from_ = (hy h a).from_ ∧ (hy g a).to_ = (hy h a).to_ ∧ (hy g a).span = (hy h a).span ∧ (∀ t, t ≠ h.now → rateAt (hy g a) t = rateAt (hy h a) t) ∧ rateAt (hy g a) h.now = zs a
  here : ∀ v, g.here.getD v 0 + Lv h ys v = h.here.getD v 0
  coming : ∀ v t, t ≤ h.horizon → getAt g.coming v t = getAt h.coming v t + Rc h ys v t
  away : g.away = h.away + Aw h ys

theorem Lv_single {h : House} {a x : Nat} (ha : a < h.ways.length) (v : Nat) : Lv h (single a x) v = if (hy h a).from_ = v then x else 0 := by
  unfold Lv single
  have := sm_pick h.ways.length a (fun i => if (hy h i).from_ = v then x else 0)
  rw [if_pos ha] at this
  rw [← this]
  apply sm_congr; intro i _
  by_cases e : a = i
  · subst e; simp
  · simp [e]
theorem Rc_single {h : House} {a x : Nat} (ha : a < h.ways.length) (v t : Nat) : Rc h (single a x) v t = if (hy h a).to_ = v ∧ h.now + (hy h a).span = t then x else 0 := by
  unfold Rc single
  have := sm_pick h.ways.length a (fun i => if (hy h i).to_ = v ∧ h.now + (hy h i).span = t then x else 0)
  rw [if_pos ha] at this
  rw [← this]
  apply sm_congr; intro i _
  by_cases e : a = i
  · subst e; simp
  · simp [e]
theorem Aw_single {h : House} {a x : Nat} (ha : a < h.ways.length) : Aw h (single a x) = if h.horizon < h.now + (hy h a).span then x else 0 := by
  unfold Aw single
  have := sm_pick h.ways.length a (fun i => if h.horizon < h.now + (hy h i).span then x else 0)
  rw [if_pos ha] at this
  rw [← this]
  apply sm_congr; intro i _
  by_cases e : a = i
  · subst e; simp
  · simp [e]

theorem enters_ok {h : House} (ok : HouseOk h) (hnow : h.now < h.horizon) {a x : Nat} (ha : a < h.ways.length) (h2 : x ≤ h.here.getD (hy h a).from_ 0) :
    Ent h (enters h a x) (single a x) (fun i => if i = a then rateAt (hy h a) h.now - x else rateAt (hy h i) h.now) := by
  have w := ok.way _ (hy_mem ha)
  have e0 : enters h a x = { h with here := h.here.set (hy h a).from_ (h.here.getD (hy h a).from_ 0 - x), coming := if h.now + (hy h a).span ≤ h.horizon then setAt h.coming (hy h a).to_ (h.now + (hy h a).span) (getAt h.coming (hy h a).to_ (h.now + (hy h a).span) + x) else h.coming, away := if h.now + (hy h a).span ≤ h.horizon then h.away else h.away + x, ways := h.ways.set a { (hy h a) with rates := (hy h a).rates.set h.now (rateAt (hy h a) h.now - x) } } := by
    unfold enters; rw [hy_get ha]
  rw [e0]
  have ew : ∀ i, hy { h with here := h.here.set (hy h a).from_ (h.here.getD (hy h a).from_ 0 - x), coming := if h.now + (hy h a).span ≤ h.horizon then setAt h.coming (hy h a).to_ (h.now + (hy h a).span) (getAt h.coming (hy h a).to_ (h.now + (hy h a).span) + x) else h.coming, away := if h.now + (hy h a).span ≤ h.horizon then h.away else h.away + x, ways := h.ways.set a { (hy h a) with rates := (hy h a).rates.set h.now (rateAt (hy h a) h.now - x) } } i = if i = a then { (hy h a) with rates := (hy h a).rates.set h.now (rateAt (hy h a) h.now - x) } else hy h i := by
    intro i
    show (h.ways.set a _).getD i w0 = _
    rw [getD_set]
    by_cases e : i = a
    · rw [if_pos ⟨e, ha⟩, if_pos e]
    · rw [if_neg (fun z => e z.1), if_neg e]; rfl
  refine ⟨⟨ok.pos, ok.nowle, ?_, ?_, ?_, ?_⟩, rfl, rfl, rfl, rfl, by simp, ?_, ?_, ?_, ?_⟩
  · intro u hu
    obtain ⟨i, hi, e⟩ := mem_hy hu
    rw [ew] at e
    have hi : i < h.ways.length := by simpa using hi
    by_cases ei : i = a
    · rw [if_pos ei] at e
      rw [← e]
      exact ⟨w.1, w.2.1, w.2.2.1, w.2.2.2.1, by rw [List.length_set]; exact w.2.2.2.2⟩
    · rw [if_neg ei] at e
      rw [← e]; exact ok.way _ (hy_mem hi)
  · show (h.here.set _ _).length = _
    rw [List.length_set]; exact ok.hlen
  · show List.length (if _ then _ else _) = _
    split
    · rw [setAt_len]; exact ok.clen
    · exact ok.clen
  · intro v hv
    show List.length (List.getD (if _ then _ else _) v []) = _
    split
    · rw [setAt_row]; exact ok.crow v hv
    · exact ok.crow v hv
  · intro i hi
    rw [ew]
    by_cases ei : i = a
    · subst ei
      rw [if_pos rfl]
      refine ⟨rfl, rfl, rfl, ?_, ?_⟩
      · intro t ht
        unfold rateAt
        dsimp only
        rw [getD_set, if_neg (fun z => ht z.1)]
      · unfold rateAt
        dsimp only
        rw [getD_set, if_pos ⟨rfl, by rw [w.2.2.2.2]; exact hnow⟩, if_pos rfl]
    · rw [if_neg ei]
      refine ⟨rfl, rfl, rfl, fun _ _ => rfl, ?_⟩
      rw [if_neg ei]
  · intro v
    rw [Lv_single ha]
    show (h.here.set _ _).getD v 0 + _ = _
    rw [getD_set]
    by_cases e : v = (hy h a).from_
    · subst e
      rw [if_pos ⟨rfl, by rw [ok.hlen]; exact w.1⟩, if_pos rfl]; omega
    · rw [if_neg (fun z => e z.1), if_neg (fun z => e z.symm)]; omega
  · intro v t ht
    rw [Rc_single ha]
    show getAt (if _ then _ else _) v t = _
    by_cases e : h.now + (hy h a).span ≤ h.horizon
    · rw [if_pos e, getAt_setAt _ _ _ _ _ _ (by rw [ok.clen]; exact w.2.1) (by rw [ok.crow _ w.2.1]; omega)]
      by_cases e2 : v = (hy h a).to_ ∧ t = h.now + (hy h a).span
      · obtain ⟨rfl, rfl⟩ := e2
        rw [if_pos ⟨rfl, rfl⟩, if_pos ⟨rfl, rfl⟩]
      · rw [if_neg e2, if_neg (fun z => e2 ⟨z.1.symm, z.2.symm⟩)]; omega
    · rw [if_neg e, if_neg (fun z => e (by omega))]; omega
  · rw [Aw_single ha]
    show (if _ then _ else _) = _
    by_cases e : h.now + (hy h a).span ≤ h.horizon
    · rw [if_pos e, if_neg (by omega)]; omega
    · rw [if_neg e, if_pos (by omega)]

theorem enters_zero {h : House} (ok : HouseOk h) (hnow : h.now < h.horizon) (a : Nat) : enters h a 0 = h := by
  unfold enters
  rcases Nat.lt_or_ge a h.ways.length with ha | ha
  · have w := ok.way _ (hy_mem ha)
    rw [hy_get ha]
    dsimp only
    rw [Nat.sub_zero, Nat.sub_zero, Nat.add_zero, Nat.add_zero]
    rw [set_getD_self (by rw [ok.hlen]; exact w.1)]
    have e1 : (if h.now + (hy h a).span ≤ h.horizon then setAt h.coming (hy h a).to_ (h.now + (hy h a).span) (getAt h.coming (hy h a).to_ (h.now + (hy h a).span)) else h.coming) = h.coming := by
      split
      · exact setAt_self _ _ _ (by rw [ok.clen]; exact w.2.1) (by rw [ok.crow _ w.2.1]; omega)
      · rfl
    have e2 : (if h.now + (hy h a).span ≤ h.horizon then h.away else h.away) = h.away := by split <;> rfl
    have e3 : (hy h a).rates.set h.now (rateAt (hy h a) h.now) = (hy h a).rates := set_getD_self (by rw [w.2.2.2.2]; exact hnow)
    rw [e1, e2, e3]
    have e4 : h.ways.set a { (hy h a) with rates := (hy h a).rates } = h.ways := by
      apply List.ext_getElem?
      intro j
      rw [List.getElem?_set]
      by_cases e : a = j
      · subst e; rw [if_pos rfl, if_pos ha]; exact (hy_get ha).symm
      · rw [if_neg e]
    show { h with ways := h.ways.set a { (hy h a) with rates := (hy h a).rates } } = h
    rw [e4]
  · rw [List.getElem?_eq_none ha]

theorem Ent.refl {h : House} (ok : HouseOk h) : Ent h h (fun _ => 0) (fun i => rateAt (hy h i) h.now) where
  ok := ok
  places := rfl
  horizon := rfl
  now := rfl
  out := rfl
  n := rfl
  way := fun _ _ => ⟨rfl, rfl, rfl, fun _ _ => rfl, rfl⟩
  here := by intro v; unfold Lv; rw [sm_zero]; omega; intro i _; simp
  coming := by intro v t _; unfold Rc; rw [sm_zero]; omega; intro i _; simp
  away := by unfold Aw; rw [sm_zero]; omega; intro i _; simp
theorem Ent.trans {h g k : House} {ys zs ys' zs' : Nat → Nat} (e1 : Ent h g ys zs) (e2 : Ent g k ys' zs') : Ent h k (fun i => ys i + ys' i) zs' where
  ok := e2.ok
  places := e2.places.trans e1.places
  horizon := e2.horizon.trans e1.horizon
  now := e2.now.trans e1.now
  out := e2.out.trans e1.out
  n := e2.n.trans e1.n
  way := by
    intro a ha
    have h1 := e1.way a ha
    have h2 := e2.way a (by rw [e1.n]; exact ha)
    refine ⟨h2.1.trans h1.1, h2.2.1.trans h1.2.1, h2.2.2.1.trans h1.2.2.1, ?_, ?_⟩
    · intro t ht; rw [h2.2.2.2.1 t (by rw [e1.now]; exact ht), h1.2.2.2.1 t ht]
    · rw [← e1.now]; exact h2.2.2.2.2
  here := by
    intro v
    have h1 := e1.here v
    have h2 := e2.here v
    have h3 : Lv h (fun i => ys i + ys' i) v = Lv h ys v + Lv g ys' v := by
      unfold Lv
      rw [e1.n, ← sm_add]
      apply sm_congr; intro i hi
      rw [(e1.way i hi).1]
      split <;> rfl
    omega
  coming := by
    intro v t ht
    have h1 := e1.coming v t ht
    have h2 := e2.coming v t (by rw [e1.horizon]; exact ht)
    have h3 : Rc h (fun i => ys i + ys' i) v t = Rc h ys v t + Rc g ys' v t := by
      unfold Rc
      rw [e1.n, ← sm_add]
      apply sm_congr; intro i hi
      rw [(e1.way i hi).2.1, (e1.way i hi).2.2.1, e1.now]
      split <;> rfl
    omega
  away := by
    have h1 := e1.away
    have h2 := e2.away
    have h3 : Aw h (fun i => ys i + ys' i) = Aw h ys + Aw g ys' := by
      unfold Aw
      rw [e1.n, ← sm_add]
      apply sm_congr; intro i hi
      rw [(e1.way i hi).2.2.1, e1.now, e1.horizon]
      split <;> rfl
    omega

/-- the numbers of a list, from a way on -/
def from_ (a : Nat) (l : List Nat) : Nat → Nat := fun i => if a ≤ i then l.getD (i - a) 0 else 0
theorem from_cons (a x : Nat) (l : List Nat) : from_ a (x :: l) = fun i => single a x i + from_ (a + 1) l i := by
  funext i
  unfold from_ single
  by_cases e : a ≤ i
  · rw [if_pos e]
    by_cases e2 : a = i
    · subst e2; rw [if_pos rfl, if_neg (by omega), Nat.sub_self]; rfl
    · rw [if_neg e2, if_pos (by omega)]
      obtain ⟨j, hj⟩ : ∃ j, i - a = j + 1 := ⟨i - a - 1, by omega⟩
      rw [hj, show i - (a + 1) = j by omega]
      simp
  · rw [if_neg e, if_neg (by omega), if_neg (by omega)]
theorem from_nil (a : Nat) : from_ a [] = fun _ => 0 := by
  funext i; unfold from_; simp

theorem walkOver_cons {h : House} (ok : HouseOk h) (hnow : h.now < h.horizon) (a x : Nat) (l : List Nat) : walkOver h a (x :: l) = walkOver (enters h a x) (a + 1) l := by
  show walkOver (if x = 0 then h else enters h a x) (a + 1) l = _
  by_cases e : x = 0
  · rw [if_pos e, e, enters_zero ok hnow]
  · rw [if_neg e]

theorem Lv_add (h : House) (f g : Nat → Nat) (v : Nat) : Lv h (fun i => f i + g i) v = Lv h f v + Lv h g v := by
  unfold Lv
  rw [← sm_add]
  apply sm_congr; intro i _; split <;> rfl
theorem Lv_ent {h g : House} {ys zs : Nat → Nat} (e : Ent h g ys zs) (f : Nat → Nat) (v : Nat) : Lv g f v = Lv h f v := by
  unfold Lv
  rw [e.n]; apply sm_congr; intro i hi; rw [(e.way i hi).1]

theorem canWalk_iff : ∀ (l : List Nat) {h : House} (_ : HouseOk h) (_ : h.now < h.horizon) (a : Nat), a + l.length ≤ h.ways.length →
    (canWalk h a l = true ↔ (∀ i, i < h.ways.length → from_ a l i ≤ rateAt (hy h i) h.now) ∧ ∀ v, Lv h (from_ a l) v ≤ h.here.getD v 0) := by
  intro l
  induction l with
  | nil =>
    intro h ok hnow a _
    rw [from_nil]
    refine ⟨fun _ => ⟨fun _ _ => Nat.zero_le _, ?_⟩, fun _ => rfl⟩
    intro v; unfold Lv; rw [sm_zero]; exact Nat.zero_le _; intro i _; simp
  | cons x l ih =>
    intro h ok hnow a hl
    rw [List.length_cons] at hl
    have ha : a < h.ways.length := by omega
    have hcan : (x == 0 || canEnter h a x) = true ↔ x = 0 ∨ (x ≤ rateAt (hy h a) h.now ∧ x ≤ h.here.getD (hy h a).from_ 0) := by
      unfold canEnter
      rw [hy_get ha]
      simp [hnow]
    have step : x ≤ rateAt (hy h a) h.now → x ≤ h.here.getD (hy h a).from_ 0 → (canWalk (enters h a x) (a + 1) l = true ↔ (∀ i, i < h.ways.length → from_ a (x :: l) i ≤ rateAt (hy h i) h.now) ∧ ∀ v, Lv h (from_ a (x :: l)) v ≤ h.here.getD v 0) := by
      intro h1 h2
      have e := enters_ok ok hnow ha h2
      rw [ih e.ok (by rw [e.now, e.horizon]; exact hnow) (a + 1) (by rw [e.n]; omega), e.n]
      rw [from_cons]
      constructor
      · rintro ⟨g1, g2⟩
        refine ⟨?_, ?_⟩
        · intro i hi
          have q := g1 i hi
          rw [e.now, (e.way i hi).2.2.2.2] at q
          show single a x i + from_ (a + 1) l i ≤ _
          unfold single
          by_cases ei : a = i
          · subst ei
            have z : from_ (a + 1) l a = 0 := by unfold from_; rw [if_neg (by omega)]
            rw [if_pos rfl] at q
            rw [z, if_pos rfl]; omega
          · rw [if_neg ei]
            rw [if_neg (fun z => ei z.symm)] at q
            omega
        · intro v
          have q := g2 v
          have q2 := e.here v
          rw [Lv_ent e] at q
          rw [Lv_add]; omega
      · rintro ⟨g1, g2⟩
        refine ⟨?_, ?_⟩
        · intro i hi
          have q : single a x i + from_ (a + 1) l i ≤ _ := g1 i hi
          rw [e.now, (e.way i hi).2.2.2.2]
          by_cases ei : i = a
          · subst ei
            have z : from_ (i + 1) l i = 0 := by unfold from_; rw [if_neg (by omega)]
            rw [z]; exact Nat.zero_le _
          · rw [if_neg ei]; exact Nat.le_trans (Nat.le_add_left _ _) q
        · intro v
          have q := g2 v
          have q2 := e.here v
          rw [Lv_add] at q
          rw [Lv_ent e]; omega
    show ((x == 0 || canEnter h a x) && canWalk (enters h a x) (a + 1) l) = true ↔ _
    rw [Bool.and_eq_true, hcan]
    constructor
    · rintro ⟨g1, g2⟩
      rcases g1 with g1 | g1
      · subst g1; exact (step (Nat.zero_le _) (Nat.zero_le _)).mp g2
      · exact (step g1.1 g1.2).mp g2
    · intro g
      have g1 : x ≤ rateAt (hy h a) h.now := by
        have := g.1 a ha
        rw [from_cons] at this
        have this : single a x a + from_ (a + 1) l a ≤ _ := this
        unfold single at this
        rw [if_pos rfl] at this
        omega
      have g2 : x ≤ h.here.getD (hy h a).from_ 0 := by
        have := g.2 (hy h a).from_
        rw [from_cons, Lv_add, Lv_single ha, if_pos rfl] at this
        omega
      exact ⟨Or.inr ⟨g1, g2⟩, (step g1 g2).mpr g⟩

theorem walkOver_ok : ∀ (l : List Nat) {h : House} (_ : HouseOk h) (_ : h.now < h.horizon) (a : Nat), a + l.length ≤ h.ways.length → canWalk h a l = true →
    ∃ zs, Ent h (walkOver h a l) (from_ a l) zs := by
  intro l
  induction l with
  | nil => intro h ok hnow a _ _; rw [from_nil]; exact ⟨_, Ent.refl ok⟩
  | cons x l ih =>
    intro h ok hnow a hl hc
    rw [List.length_cons] at hl
    have ha : a < h.ways.length := by omega
    have hw := (canWalk_iff (x :: l) ok hnow a (by rw [List.length_cons]; omega)).mp hc
    have g2 : x ≤ h.here.getD (hy h a).from_ 0 := by
      have := hw.2 (hy h a).from_
      rw [from_cons, Lv_add, Lv_single ha, if_pos rfl] at this
      omega
    have e := enters_ok ok hnow ha g2
    have hc2 : canWalk (enters h a x) (a + 1) l = true := by
      have hc : ((x == 0 || canEnter h a x) && canWalk (enters h a x) (a + 1) l) = true := hc
      rw [Bool.and_eq_true] at hc; exact hc.2
    obtain ⟨zs, q⟩ := ih e.ok (by rw [e.now, e.horizon]; exact hnow) (a + 1) (by rw [e.n]; omega) hc2
    rw [walkOver_cons ok hnow, from_cons]
    exact ⟨zs, e.trans q⟩
end Ev
namespace Ev
open Vbevzz (Case Plan House sumOf rateAt getAt setAt caseOf bestPlan cutBy enters shut canEnter canWalk walkOver nextMinute total mostsOf minutesOn)
open VbevzzLaw (Building hereAt rateOf)

/-! Plans before and behind entering, before and behind a minute -/
def Net.lv (N : Net) (ys : Nat → Nat) (v : Nat) : Nat := sm N.n (fun a => if N.fr a = v then ys a else 0)
structure Entn (N M : Net) (ys : Nat → Nat) : Prop where
  P : M.P = N.P
  T : M.T = N.T
  now : M.now = N.now
  n : M.n = N.n
  fr : ∀ a, a < N.n → M.fr a = N.fr a
  to : ∀ a, a < N.n → M.to a = N.to a
  sp : ∀ a, a < N.n → M.sp a = N.sp a
  rate : ∀ a, a < N.n → ∀ t, t ≠ N.now → M.rate a t = N.rate a t
  cum : ∀ v, v < N.P → ∀ k, k ≤ N.T + 1 → M.cum v k + (if N.now < k then N.lv ys v else 0) = N.cum v k + sm N.n (fun a => if N.to a = v ∧ N.now + N.sp a < k then ys a else 0)

def Linked (N : Net) (ys : Nat → Nat) (p q : Pl) : Prop := ∀ a, a < N.n → ∀ t, p a t = q a t + (if t = N.now then ys a else 0)

theorem sm_at {n now : Nat} (hn : now < n) (C : Nat → Prop) [DecidablePred C] (f : Nat → Nat) (y : Nat) :
    sm n (fun s => if now ≤ s ∧ C s then f s + (if s = now then y else 0) else 0) = sm n (fun s => if now ≤ s ∧ C s then f s else 0) + (if C now then y else 0) := by
  have h := sm_pick n now (fun s => if C s then y else 0)
  rw [if_pos hn] at h
  rw [← h, ← sm_add]
  apply sm_congr; intro s _
  by_cases e : now = s
  · subst e
    by_cases e2 : C now <;> simp [e2]
  · have e' : ¬ s = now := fun z => e z.symm
    by_cases e2 : now ≤ s ∧ C s <;> simp [e, e', e2]

theorem Entn.left {N M : Net} {ys : Nat → Nat} (e : Entn N M ys) (hT : N.now < N.T) {p q : Pl} (l : Linked N ys p q) (v k : Nat) :
    N.left p v k = M.left q v k + (if N.now < k then N.lv ys v else 0) := by
  unfold Net.left Net.lv
  rw [e.n, ← sm_if, ← sm_add]
  apply sm_congr; intro a ha
  rw [e.fr a ha, e.T, e.now]
  by_cases e1 : N.fr a = v
  · rw [if_pos e1, if_pos e1, if_pos e1, ← sm_at hT (fun s => s < k)]
    apply sm_congr; intro s _; rw [l a ha s]
  · rw [if_neg e1, if_neg e1, if_neg e1]; simp
theorem Entn.came {N M : Net} {ys : Nat → Nat} (e : Entn N M ys) (hT : N.now < N.T) {p q : Pl} (l : Linked N ys p q) {v : Nat} (hv : v < N.P) {k : Nat} (hk : k ≤ N.T + 1) :
    N.came p v k = M.came q v k + (if N.now < k then N.lv ys v else 0) := by
  have h1 : N.into p v k = M.into q v k + sm N.n (fun a => if N.to a = v ∧ N.now + N.sp a < k then ys a else 0) := by
    unfold Net.into
    rw [e.n, ← sm_add]
    apply sm_congr; intro a ha
    rw [e.to a ha, e.sp a ha, e.T, e.now]
    by_cases e1 : N.to a = v
    · rw [if_pos e1, if_pos e1]
      have := sm_at hT (fun s => s + N.sp a < k) (q a) (ys a)
      rw [show (if N.to a = v ∧ N.now + N.sp a < k then ys a else 0) = (if N.now + N.sp a < k then ys a else 0) by simp [e1]]
      rw [← this]
      apply sm_congr; intro s _; rw [l a ha s]
    · rw [if_neg e1, if_neg e1, if_neg (fun z => e1 z.1)]
  have h2 := e.cum v hv k hk
  unfold Net.came
  omega
/-- behind entering -/
theorem Entn.lower {N M : Net} {ys : Nat → Nat} (e : Entn N M ys) (hT : N.now < N.T) {p q : Pl} (l : Linked N ys p q) (hp : N.Ok p) (hr : ∀ a, a < N.n → q a N.now ≤ M.rate a N.now) : M.Ok q := by
  refine ⟨?_, ?_⟩
  · intro a ha s h1 h2
    rw [e.n] at ha; rw [e.now] at h1; rw [e.T] at h2
    by_cases e1 : s = N.now
    · subst e1; exact hr a ha
    · rw [e.rate a ha s e1]
      have := hp.1 a ha s h1 h2
      rw [l a ha s, if_neg e1] at this; exact this
  · intro v hv s h1 h2
    rw [e.P] at hv; rw [e.now] at h1; rw [e.T] at h2
    have := hp.2 v hv s h1 h2
    rw [e.left hT l, e.came hT l hv (by omega)] at this
    omega
theorem Entn.lift {N M : Net} {ys : Nat → Nat} (e : Entn N M ys) (hT : N.now < N.T) {p q : Pl} (l : Linked N ys p q) (hq : M.Ok q) (hr : ∀ a, a < N.n → p a N.now ≤ N.rate a N.now) : N.Ok p := by
  refine ⟨?_, ?_⟩
  · intro a ha s h1 h2
    by_cases e1 : s = N.now
    · subst e1; exact hr a ha
    · rw [← e.rate a ha s e1]
      have := hq.1 a (by rw [e.n]; exact ha) s (by rw [e.now]; exact h1) (by rw [e.T]; exact h2)
      rw [l a ha s, if_neg e1]; exact this
  · intro v hv s h1 h2
    have := hq.2 v (by rw [e.P]; exact hv) s (by rw [e.now]; exact h1) (by rw [e.T]; exact h2)
    rw [e.left hT l, e.came hT l hv (by omega)]
    omega

structure Nextn (N M : Net) : Prop where
  P : M.P = N.P
  T : M.T = N.T
  now : M.now = N.now + 1
  n : M.n = N.n
  fr : ∀ a, a < N.n → M.fr a = N.fr a
  to : ∀ a, a < N.n → M.to a = N.to a
  sp : ∀ a, a < N.n → M.sp a = N.sp a
  rate : ∀ a, a < N.n → ∀ t, t ≠ N.now → M.rate a t = N.rate a t
  cum : ∀ v, v < N.P → ∀ k, k ≤ N.T + 1 → N.now + 1 < k → M.cum v k + (if v = 0 then N.cum 0 (N.now + 1) else 0) = N.cum v k

theorem Nextn.left {N M : Net} (e : Nextn N M) {p : Pl} (h0 : ∀ a, a < N.n → p a N.now = 0) (v k : Nat) : N.left p v k = M.left p v k := by
  unfold Net.left
  rw [e.n]
  apply sm_congr; intro a ha
  rw [e.fr a ha, e.T, e.now]
  split
  · apply sm_congr; intro s _
    by_cases e1 : s = N.now
    · subst e1
      rw [if_neg (show ¬ (N.now + 1 ≤ N.now ∧ _) by omega), h0 a ha]; simp
    · by_cases e2 : N.now ≤ s ∧ s < k
      · rw [if_pos e2, if_pos ⟨by omega, e2.2⟩]
      · rw [if_neg e2, if_neg (by omega)]
  · rfl
theorem Nextn.came {N M : Net} (e : Nextn N M) {p : Pl} (h0 : ∀ a, a < N.n → p a N.now = 0) {v : Nat} (hv : v < N.P) {k : Nat} (hk : k ≤ N.T + 1) (hk2 : N.now + 1 < k) :
    N.came p v k = M.came p v k + (if v = 0 then N.cum 0 (N.now + 1) else 0) := by
  have h1 : N.into p v k = M.into p v k := by
    unfold Net.into
    rw [e.n]
    apply sm_congr; intro a ha
    rw [e.to a ha, e.sp a ha, e.T, e.now]
    split
    · apply sm_congr; intro s _
      by_cases e1 : s = N.now
      · subst e1
        rw [if_neg (show ¬ (N.now + 1 ≤ N.now ∧ _) by omega), h0 a ha]; simp
      · by_cases e2 : N.now ≤ s ∧ s + N.sp a < k
        · rw [if_pos e2, if_pos ⟨by omega, e2.2⟩]
        · rw [if_neg e2, if_neg (by omega)]
    · rfl
  have h2 := e.cum v hv k hk hk2
  unfold Net.came
  omega
theorem Nextn.lower {N M : Net} (w : N.Wf) (e : Nextn N M) {p : Pl} (h0 : ∀ a, a < N.n → p a N.now = 0) (hp : N.Ok p) : M.Ok p := by
  refine ⟨?_, ?_⟩
  · intro a ha s h1 h2
    rw [e.n] at ha; rw [e.now] at h1; rw [e.T] at h2
    rw [e.rate a ha s (by omega)]; exact hp.1 a ha s (by omega) h2
  · intro v hv s h1 h2
    rw [e.P] at hv; rw [e.now] at h1; rw [e.T] at h2
    have := hp.2 v hv s (by omega) h2
    rw [e.left h0, e.came h0 hv (by omega) (by omega)] at this
    by_cases e1 : v = 0
    · subst e1
      have z := N.left_exit w p (s + 1)
      rw [e.left h0] at z
      omega
    · rw [if_neg e1] at this; omega
theorem Nextn.lift {N M : Net} (e : Nextn N M) {p : Pl} (h0 : ∀ a, a < N.n → p a N.now = 0) (hp : M.Ok p) : N.Ok p := by
  refine ⟨?_, ?_⟩
  · intro a ha s h1 h2
    by_cases e1 : s = N.now
    · subst e1; rw [h0 a ha]; exact Nat.zero_le _
    · rw [← e.rate a ha s (by omega)]; exact hp.1 a (by rw [e.n]; exact ha) s (by rw [e.now]; omega) (by rw [e.T]; exact h2)
  · intro v hv s h1 h2
    by_cases e1 : s = N.now
    · subst e1
      have : N.left p v (N.now + 1) = 0 := by
        apply sm_zero; intro a ha
        split
        · apply sm_zero; intro s _
          split
          · rename_i hc
            have : s = N.now := by omega
            subst this; exact h0 a ha
          · rfl
        · rfl
      omega
    · have := hp.2 v (by rw [e.P]; exact hv) s (by rw [e.now]; omega) (by rw [e.T]; exact h2)
      rw [e.left h0, e.came h0 hv (by omega) (by omega)]
      omega

/-! The greatest numbers of a house -/
def mostAt (h : House) (t : Nat) : Nat := h.out + (netOf (caseOf h)).came (getAt (bestPlan (caseOf h))) 0 (t + 1)
theorem mostsOf_eq (h : House) : mostsOf h = (minutesOn h).map (mostAt h) := by
  unfold mostsOf minutesOn
  dsimp only
  apply List.map_congr_left; intro t _
  unfold Vbevzz.outBy mostAt
  rw [come_eq]; rfl
theorem mem_minutesOn {h : House} {t : Nat} : t ∈ minutesOn h ↔ h.now ≤ t ∧ t ≤ h.horizon := by
  unfold minutesOn
  simp only [List.mem_filter, List.mem_range, decide_eq_true_eq]
  omega
theorem mosts_ext {h g : House} (e1 : g.now = h.now) (e2 : g.horizon = h.horizon) : mostsOf g = mostsOf h ↔ ∀ t, h.now ≤ t → t ≤ h.horizon → mostAt g t = mostAt h t := by
  rw [mostsOf_eq, mostsOf_eq]
  have : minutesOn g = minutesOn h := by unfold minutesOn; rw [e1, e2]
  rw [this]
  constructor
  · intro h1 t h2 h3
    exact List.map_inj_left.mp h1 t (mem_minutesOn.mpr ⟨h2, h3⟩)
  · intro h1
    apply List.map_congr_left; intro t ht
    obtain ⟨h2, h3⟩ := mem_minutesOn.mp ht
    exact h1 t h2 h3
theorem most_le {h : House} (ok : HouseOk h) {p : Pl} (hp : (netOf (caseOf h)).Ok p) {t : Nat} (ht : t ≤ h.horizon) : h.out + (netOf (caseOf h)).came p 0 (t + 1) ≤ mostAt h t := by
  have := best_most ok.case hp (t := t) ht
  unfold mostAt; omega

theorem Lv_net (h : House) (ys : Nat → Nat) (v : Nat) : (netOf (caseOf h)).lv ys v = Lv h ys v := rfl

theorem sum_Rc {h : House} (ok : HouseOk h) (ys : Nat → Nat) (v k : Nat) (hk : k ≤ h.horizon + 1) :
    sm (h.horizon + 1) (fun t => if h.now < t ∧ t < k then Rc h ys v t else 0) = sm h.ways.length (fun a => if (hy h a).to_ = v ∧ h.now + (hy h a).span < k then ys a else 0) := by
  unfold Rc
  have e : ∀ t, (if h.now < t ∧ t < k then sm h.ways.length (fun a => if (hy h a).to_ = v ∧ h.now + (hy h a).span = t then ys a else 0) else 0) = sm h.ways.length (fun a => if h.now + (hy h a).span = t then (if (hy h a).to_ = v ∧ h.now < t ∧ t < k then ys a else 0) else 0) := by
    intro t
    rw [← sm_if]
    apply sm_congr; intro a _
    by_cases e1 : h.now < t ∧ t < k <;> by_cases e2 : (hy h a).to_ = v <;> by_cases e3 : h.now + (hy h a).span = t <;> simp [e1, e2, e3]
  simp only [e]
  rw [sm_comm]
  apply sm_congr; intro a ha
  have w := ok.way _ (hy_mem ha)
  rw [sm_pick (h.horizon + 1) (h.now + (hy h a).span) (fun t => if (hy h a).to_ = v ∧ h.now < t ∧ t < k then ys a else 0)]
  by_cases e1 : (hy h a).to_ = v ∧ h.now + (hy h a).span < k
  · rw [if_pos (by omega), if_pos ⟨e1.1, by omega, e1.2⟩, if_pos e1]
  · rw [if_neg e1]
    split
    · rw [if_neg (fun z => e1 ⟨z.1, z.2.2⟩)]
    · rfl

theorem Ent.net {h g : House} {ys zs : Nat → Nat} (ok : HouseOk h) (e : Ent h g ys zs) : Entn (netOf (caseOf h)) (netOf (caseOf g)) ys where
  P := e.places
  T := e.horizon
  now := e.now
  n := e.n
  fr := fun a ha => (e.way a ha).1
  to := fun a ha => (e.way a ha).2.1
  sp := fun a ha => (e.way a ha).2.2.1
  rate := fun a ha => (e.way a ha).2.2.2.1
  cum := by
    intro v hv k hk
    have hk : k ≤ h.horizon + 1 := hk
    rw [cum_caseOf h v hv, cum_caseOf g v (by rw [e.places]; exact hv)]
    show cumH g v k + (if h.now < k then Lv h ys v else 0) = cumH h v k + sm h.ways.length (fun a => if (hy h a).to_ = v ∧ h.now + (hy h a).span < k then ys a else 0)
    rw [← sum_Rc ok ys v k hk]
    unfold cumH
    rw [e.now, e.horizon]
    have h1 : sm (h.horizon + 1) (fun t => if h.now < t ∧ t < k then getAt g.coming v t else 0) = sm (h.horizon + 1) (fun t => if h.now < t ∧ t < k then getAt h.coming v t else 0) + sm (h.horizon + 1) (fun t => if h.now < t ∧ t < k then Rc h ys v t else 0) := by
      rw [← sm_add]
      apply sm_congr; intro t ht
      split
      · exact e.coming v t (by omega)
      · rfl
    rw [h1]
    have h2 := e.here v
    by_cases e1 : h.now < k
    · rw [if_pos e1, if_pos e1, if_pos e1]; omega
    · rw [if_neg e1, if_neg e1, if_neg e1]; omega

theorem getD_map_range (n : Nat) (f : Nat → Nat) (v : Nat) (hv : v < n) : ((List.range n).map f).getD v 0 = f v := by
  simp [List.getD_eq_getElem?_getD, hv]

theorem next_ok {g : House} (ok : HouseOk g) (hT : g.now < g.horizon) : HouseOk (nextMinute g) where
  pos := ok.pos
  nowle := hT
  way := ok.way
  hlen := by show ((List.range g.places).map _).length = g.places; simp
  clen := ok.clen
  crow := ok.crow
theorem next_net {g : House} (ok : HouseOk g) (hT : g.now < g.horizon) : Nextn (netOf (caseOf g)) (netOf (caseOf (nextMinute g))) where
  P := rfl
  T := rfl
  now := rfl
  n := rfl
  fr := fun _ _ => rfl
  to := fun _ _ => rfl
  sp := fun _ _ => rfl
  rate := fun _ _ _ _ => rfl
  cum := by
    intro v hv k hk hk2
    have hk2 : g.now + 1 < k := hk2
    have hk : k ≤ g.horizon + 1 := hk
    rw [cum_caseOf g v hv, cum_caseOf (nextMinute g) v hv, cum_caseOf g 0 ok.pos]
    unfold cumH
    have e1 : (nextMinute g).here.getD v 0 = (if v = 0 then 0 else g.here.getD v 0) + getAt g.coming v (g.now + 1) := getD_map_range g.places _ v hv
    rw [e1]
    show ((if g.now + 1 < k then _ else 0) + sm (g.horizon + 1) (fun t => if g.now + 1 < t ∧ t < k then getAt g.coming v t else 0)) + (if v = 0 then (if g.now < g.now + 1 then g.here.getD 0 0 else 0) + sm (g.horizon + 1) (fun t => if g.now < t ∧ t < g.now + 1 then getAt g.coming 0 t else 0) else 0) = _
    have e2 : sm (g.horizon + 1) (fun t => if g.now < t ∧ t < g.now + 1 then getAt g.coming 0 t else 0) = 0 := by
      apply sm_zero; intro t _; rw [if_neg (by omega)]
    have e3 : sm (g.horizon + 1) (fun t => if g.now < t ∧ t < k then getAt g.coming v t else 0) = getAt g.coming v (g.now + 1) + sm (g.horizon + 1) (fun t => if g.now + 1 < t ∧ t < k then getAt g.coming v t else 0) := by
      have := sm_pick (g.horizon + 1) (g.now + 1) (fun t => getAt g.coming v t)
      rw [if_pos (by omega)] at this
      rw [← this, ← sm_add]
      apply sm_congr; intro t _
      by_cases e4 : g.now + 1 = t
      · rw [if_pos (by omega), if_pos e4, if_neg (by omega)]; omega
      · rw [if_neg e4]
        by_cases e5 : g.now < t ∧ t < k
        · rw [if_pos e5, if_pos (by omega)]; omega
        · rw [if_neg e5, if_neg (by omega)]
    rw [e2, e3, if_pos hk2, if_pos (show g.now < g.now + 1 by omega), if_pos (show g.now < k by omega)]
    by_cases e4 : v = 0
    · subst e4; rw [if_pos rfl, if_pos rfl]; omega
    · rw [if_neg e4, if_neg e4]; omega

/-- walking so for a minute never makes a number greater; and leaves them all if a best plan begins so -/
theorem walk_most {h g : House} {ys zs : Nat → Nat} (ok : HouseOk h) (hT : h.now < h.horizon) (e : Ent h g ys zs) (hr : ∀ a, a < h.ways.length → ys a ≤ rateAt (hy h a) h.now) (t : Nat) (h1 : h.now < t) (h2 : t ≤ h.horizon) :
    mostAt (nextMinute g) t ≤ mostAt h t ∧
    ((∃ p, (netOf (caseOf h)).Ok p ∧ h.out + (netOf (caseOf h)).came p 0 (t + 1) = mostAt h t ∧ ∀ a, a < h.ways.length → p a h.now = ys a) → mostAt (nextMinute g) t = mostAt h t) := by
  have en := e.net ok
  have gT : g.now < g.horizon := by rw [e.now, e.horizon]; exact hT
  have nn := next_net e.ok gT
  have okn := next_ok e.ok gT
  have out : (nextMinute g).out = h.out + (netOf (caseOf g)).cum 0 (g.now + 1) := by
    show g.out + g.here.getD 0 0 = _
    rw [e.out, cum_caseOf g 0 e.ok.pos]
    unfold cumH
    rw [if_pos (by omega), sm_zero (by intro t _; rw [if_neg (by omega)])]
    rfl
  have lv0 : (netOf (caseOf h)).lv ys 0 = 0 := by
    apply sm_zero; intro a ha; rw [if_neg (ok.case.wf.fr_ne a ha)]
  have hv0 : 0 < (netOf (caseOf h)).P := ok.pos
  have hv0' : 0 < (netOf (caseOf g)).P := e.ok.pos
  have eqs : ∀ p q : Pl, Linked (netOf (caseOf h)) ys p q → (∀ a, a < h.ways.length → q a h.now = 0) →
      (nextMinute g).out + (netOf (caseOf (nextMinute g))).came q 0 (t + 1) = h.out + (netOf (caseOf h)).came p 0 (t + 1) := by
    intro p q l hq
    have c1 := en.came hT l hv0 (k := t + 1) (by show t + 1 ≤ h.horizon + 1; omega)
    have c2 := nn.came (p := q) (by intro a ha; show q a g.now = 0; rw [e.now]; exact hq a (by rw [← e.n]; exact ha)) hv0' (k := t + 1) (by show t + 1 ≤ g.horizon + 1; rw [e.horizon]; omega) (by show g.now + 1 < t + 1; rw [e.now]; omega)
    rw [lv0] at c1
    rw [if_pos rfl] at c2
    rw [out, c1, c2]
    show h.out + (netOf (caseOf g)).cum 0 (g.now + 1) + _ = h.out + (_ + (netOf (caseOf g)).cum 0 (g.now + 1) + _)
    split <;> omega
  have first : mostAt (nextMinute g) t ≤ mostAt h t := by
    have hb := best_plan_ok okn.case
    let q : Pl := fun a s => if s = h.now then 0 else getAt (bestPlan (caseOf (nextMinute g))) a s
    let p' : Pl := fun a s => q a s + (if s = h.now then ys a else 0)
    have l : Linked (netOf (caseOf h)) ys p' q := fun a _ s => rfl
    have hq0 : ∀ a, a < h.ways.length → q a h.now = 0 := fun a _ => if_pos rfl
    have agree : ∀ a s, h.now + 1 ≤ s → q a s = getAt (bestPlan (caseOf (nextMinute g))) a s := fun a s hs => if_neg (by omega)
    have hnn : (netOf (caseOf (nextMinute g))).now = h.now + 1 := by show g.now + 1 = _; rw [e.now]
    have lc : ∀ v k, (netOf (caseOf (nextMinute g))).came q v k = (netOf (caseOf (nextMinute g))).came (getAt (bestPlan (caseOf (nextMinute g)))) v k := by
      intro v k
      unfold Net.came; congr 1
      apply sm_congr; intro a _
      split
      · apply sm_congr; intro z _
        split
        · rename_i hc; exact agree a z (by rw [← hnn]; exact hc.1)
        · rfl
      · rfl
    have ll : ∀ v k, (netOf (caseOf (nextMinute g))).left q v k = (netOf (caseOf (nextMinute g))).left (getAt (bestPlan (caseOf (nextMinute g)))) v k := by
      intro v k
      apply sm_congr; intro a _
      split
      · apply sm_congr; intro z _
        split
        · rename_i hc; exact agree a z (by rw [← hnn]; exact hc.1)
        · rfl
      · rfl
    have hqn : (netOf (caseOf (nextMinute g))).Ok q := by
      refine ⟨?_, ?_⟩
      · intro a ha s h3 h4; rw [hnn] at h3; rw [agree a s h3]; exact hb.1 a ha s (by rw [hnn]; exact h3) h4
      · intro v hv s h3 h4
        rw [ll, lc]; exact hb.2 v hv s h3 h4
    have hqg := nn.lift (p := q) (by intro a ha; show q a g.now = 0; rw [e.now]; exact hq0 a (by rw [← e.n]; exact ha)) hqn
    have hp := en.lift hT l hqg (by
      intro a ha
      show q a h.now + (if h.now = h.now then ys a else 0) ≤ rateAt (hy h a) h.now
      rw [hq0 a ha, if_pos rfl]
      have := hr a ha; omega)
    have m := most_le ok hp h2
    rw [← eqs p' q l hq0, lc] at m
    exact m
  refine ⟨first, ?_⟩
  · rintro ⟨p, hp, hm, hy_⟩
    apply Nat.le_antisymm first
    · rw [← hm]
      let q : Pl := fun a s => if s = h.now then 0 else p a s
      have l : Linked (netOf (caseOf h)) ys p q := by
        intro a ha s
        show p a s = (if s = h.now then 0 else p a s) + (if s = h.now then ys a else 0)
        by_cases e1 : s = h.now
        · rw [if_pos e1, if_pos e1, e1, hy_ a ha]; omega
        · rw [if_neg e1, if_neg e1]; omega
      have hq0 : ∀ a, a < h.ways.length → q a h.now = 0 := fun a _ => if_pos rfl
      have hqg := en.lower hT l hp (by intro a ha; show q a h.now ≤ _; rw [hq0 a ha]; exact Nat.zero_le _)
      have hqn := nn.lower e.ok.case.wf (p := q) (by intro a ha; show q a g.now = 0; rw [e.now]; exact hq0 a (by rw [← e.n]; exact ha)) hqg
      have m := most_le okn hqn (t := t) (by show t ≤ g.horizon; rw [e.horizon]; exact h2)
      rw [← eqs p q l hq0]
      exact m
end Ev
namespace Ev
open Vbevzz (Case Plan House sumOf rateAt getAt setAt caseOf bestPlan cutBy enters shut canEnter canWalk walkOver nextMinute total mostsOf minutesOn greatest ordersFrom orders)
open VbevzzLaw (Building hereAt rateOf)

theorem shut_ok {h g : House} {ys zs : Nat → Nat} (e : Ent h g ys zs) (hnow : h.now < h.horizon) {a : Nat} (ha : a < h.ways.length) : Ent h (shut g a) ys (fun i => if i = a then 0 else zs i) := by
  have ha' : a < g.ways.length := by rw [e.n]; exact ha
  have w := e.ok.way _ (hy_mem ha')
  have e0 : shut g a = { g with ways := g.ways.set a { (hy g a) with rates := (hy g a).rates.set g.now 0 } } := by
    unfold shut; rw [hy_get ha']
  have ew : ∀ i, hy (shut g a) i = if i = a then { (hy g a) with rates := (hy g a).rates.set g.now 0 } else hy g i := by
    intro i
    rw [e0]
    show (g.ways.set a _).getD i w0 = _
    rw [getD_set]
    by_cases ei : i = a
    · rw [if_pos ⟨ei, ha'⟩, if_pos ei]
    · rw [if_neg (fun z => ei z.1), if_neg ei]; rfl
  have en : (shut g a).ways.length = g.ways.length := by rw [e0]; simp
  refine ⟨⟨?_, ?_, ?_, ?_, ?_, ?_⟩, ?_, ?_, ?_, ?_, ?_, ?_, ?_, ?_, ?_⟩
  · rw [e0]; exact e.ok.pos
  · rw [e0]; exact e.ok.nowle
  · intro u hu
    obtain ⟨i, hi, eu⟩ := mem_hy hu
    rw [ew] at eu
    rw [en] at hi
    have eh : (shut g a).horizon = g.horizon := by rw [e0]
    have ep : (shut g a).places = g.places := by rw [e0]
    rw [eh, ep]
    by_cases ei : i = a
    · rw [if_pos ei] at eu
      rw [← eu]
      exact ⟨w.1, w.2.1, w.2.2.1, w.2.2.2.1, by rw [List.length_set]; exact w.2.2.2.2⟩
    · rw [if_neg ei] at eu
      rw [← eu]; exact e.ok.way _ (hy_mem hi)
  · rw [e0]; exact e.ok.hlen
  · rw [e0]; exact e.ok.clen
  · rw [e0]; exact e.ok.crow
  · rw [e0]; exact e.places
  · rw [e0]; exact e.horizon
  · rw [e0]; exact e.now
  · rw [e0]; exact e.out
  · rw [en]; exact e.n
  · intro i hi
    have q := e.way i hi
    rw [ew]
    by_cases ei : i = a
    · subst ei
      rw [if_pos rfl, if_pos rfl]
      refine ⟨q.1, q.2.1, q.2.2.1, ?_, ?_⟩
      · intro t ht
        rw [← q.2.2.2.1 t ht]
        unfold rateAt
        dsimp only
        rw [getD_set, if_neg (fun z => ht (by rw [z.1, e.now]))]
      · unfold rateAt
        dsimp only
        rw [getD_set, if_pos ⟨e.now.symm, by rw [w.2.2.2.2, e.now, e.horizon]; exact hnow⟩]
    · rw [if_neg ei, if_neg ei]; exact q
  · rw [e0]; exact e.here
  · rw [e0]; exact e.coming
  · rw [e0]; exact e.away

theorem lv0 {h : House} (ok : HouseOk h) (ys : Nat → Nat) : (netOf (caseOf h)).lv ys 0 = 0 := by
  apply sm_zero; intro a ha; rw [if_neg (ok.case.wf.fr_ne a ha)]
theorem ent_lift {h g : House} {ys zs : Nat → Nat} (ok : HouseOk h) (hT : h.now < h.horizon) (e : Ent h g ys zs) (hr : ∀ i, i < h.ways.length → ys i + zs i ≤ rateAt (hy h i) h.now) {q : Pl} (hq : (netOf (caseOf g)).Ok q) :
    (netOf (caseOf h)).Ok (fun a s => q a s + (if s = h.now then ys a else 0)) ∧
    ∀ t, t ≤ h.horizon → h.out + (netOf (caseOf h)).came (fun a s => q a s + (if s = h.now then ys a else 0)) 0 (t + 1) = g.out + (netOf (caseOf g)).came q 0 (t + 1) := by
  have en := e.net ok
  have l : Linked (netOf (caseOf h)) ys (fun a s => q a s + (if s = h.now then ys a else 0)) q := fun a _ s => rfl
  refine ⟨en.lift hT l hq ?_, ?_⟩
  · intro a ha
    have ha : a < h.ways.length := ha
    have h1 := hq.1 a (by show a < g.ways.length; rw [e.n]; exact ha) h.now (by show g.now ≤ h.now; rw [e.now]; exact Nat.le_refl _) (by show h.now < g.horizon; rw [e.horizon]; exact hT)
    have h2 : rateAt (hy g a) h.now = zs a := (e.way a ha).2.2.2.2
    have h1 : q a h.now ≤ rateAt (hy g a) h.now := h1
    have h3 := hr a ha
    show q a h.now + (if h.now = h.now then ys a else 0) ≤ rateAt (hy h a) h.now
    rw [if_pos rfl]; omega
  · intro t ht
    have c1 := en.came hT l (show 0 < (netOf (caseOf h)).P from ok.pos) (k := t + 1) (by show t + 1 ≤ h.horizon + 1; omega)
    rw [lv0 ok] at c1
    rw [c1, e.out]
    split <;> omega
theorem ent_lower {h g : House} {ys zs : Nat → Nat} (ok : HouseOk h) (hT : h.now < h.horizon) (e : Ent h g ys zs) {p q : Pl} (l : Linked (netOf (caseOf h)) ys p q) (hp : (netOf (caseOf h)).Ok p) (hq : ∀ i, i < h.ways.length → q i h.now ≤ zs i) :
    (netOf (caseOf g)).Ok q ∧
    ∀ t, t ≤ h.horizon → h.out + (netOf (caseOf h)).came p 0 (t + 1) = g.out + (netOf (caseOf g)).came q 0 (t + 1) := by
  have en := e.net ok
  refine ⟨en.lower hT l hp ?_, ?_⟩
  · intro a ha
    have ha : a < h.ways.length := ha
    have h2 : rateAt (hy g a) h.now = zs a := (e.way a ha).2.2.2.2
    show q a h.now ≤ rateAt (hy g a) h.now
    rw [h2]; exact hq a ha
  · intro t ht
    have c1 := en.came hT l (show 0 < (netOf (caseOf h)).P from ok.pos) (k := t + 1) (by show t + 1 ≤ h.horizon + 1; omega)
    rw [lv0 ok] at c1
    rw [c1, e.out]
    split <;> omega

/-- who leaves now was here -/
theorem leaves_now {h : House} (ok : HouseOk h) (hT : h.now < h.horizon) {p : Pl} (hp : (netOf (caseOf h)).Ok p) (v : Nat) : Lv h (fun a => p a h.now) v ≤ h.here.getD v 0 := by
  by_cases hv : v < h.places
  · have h1 := hp.2 v hv h.now (Nat.le_refl _) hT
    have h2 : (netOf (caseOf h)).left p v (h.now + 1) = Lv h (fun a => p a h.now) v := by
      apply sm_congr; intro a _
      show (if (hy h a).from_ = v then sm h.horizon (fun s => if h.now ≤ s ∧ s < h.now + 1 then p a s else 0) else 0) = if (hy h a).from_ = v then p a h.now else 0
      split
      · have := sm_pick h.horizon h.now (fun s => p a s)
        rw [if_pos hT] at this
        rw [← this]
        apply sm_congr; intro s _
        by_cases e : h.now = s
        · rw [if_pos e, if_pos (by omega)]
        · rw [if_neg e, if_neg (by omega)]
      · rfl
    have h3 : (netOf (caseOf h)).came p v (h.now + 1) = h.here.getD v 0 := by
      unfold Net.came Net.into
      rw [cum_caseOf h v hv]
      unfold cumH
      rw [if_pos (by omega), sm_zero (by intro t _; rw [if_neg (by omega)]), sm_zero]
      · rfl
      · intro a ha
        have w := ok.way _ (hy_mem ha)
        split
        · apply sm_zero; intro s _
          rw [if_neg]
          show ¬ (h.now ≤ s ∧ s + (hy h a).span < h.now + 1)
          omega
        · rfl
    rw [h2, h3] at h1; exact h1
  · have : Lv h (fun a => p a h.now) v = 0 := by
      apply sm_zero; intro a ha
      have w := ok.way _ (hy_mem ha)
      rw [if_neg (by omega)]
    omega
theorem Lv_mem {h : House} {a : Nat} (ha : a < h.ways.length) (ys : Nat → Nat) : ys a ≤ Lv h ys (hy h a).from_ := by
  have := sm_mem_le (f := fun i => if (hy h i).from_ = (hy h a).from_ then ys i else 0) ha
  rw [if_pos rfl] at this
  exact this

theorem greatest_spec (f : Nat → Bool) : ∀ (n x : Nat), x ≤ n → f x = true → f (greatest f n) = true ∧ greatest f n ≤ n ∧ x ≤ greatest f n := by
  intro n
  induction n with
  | zero => intro x hx hf; have : x = 0 := by omega
            subst this; exact ⟨hf, Nat.le_refl _, Nat.le_refl _⟩
  | succ n ih =>
    intro x hx hf
    unfold greatest
    by_cases e : f (n + 1) = true
    · rw [if_pos e]; exact ⟨e, Nat.le_refl _, hx⟩
    · rw [if_neg e]
      have : x ≠ n + 1 := by intro z; rw [z] at hf; exact e hf
      obtain ⟨i1, i2, i3⟩ := ih x (by omega) hf
      exact ⟨i1, by omega, i3⟩

theorem one_ok {h : House} (ok : HouseOk h) (hT : h.now < h.horizon) {a : Nat} (ha : a < h.ways.length) {x : Nat} (h2 : x ≤ h.here.getD (hy h a).from_ 0) :
    Ent h (shut (enters h a x) a) (single a x) (fun i => if i = a then 0 else rateAt (hy h i) h.now) := by
  have e := shut_ok (enters_ok ok hT ha h2) hT ha
  have : (fun i => if i = a then 0 else (fun i => if i = a then rateAt (hy h a) h.now - x else rateAt (hy h i) h.now) i) = (fun i => if i = a then 0 else rateAt (hy h i) h.now) := by
    funext i
    by_cases ei : i = a
    · rw [if_pos ei, if_pos ei]
    · rw [if_neg ei, if_neg ei]; dsimp only; rw [if_neg ei]
  rw [this] at e
  exact e

theorem best_is_most (h : House) (t : Nat) : h.out + (netOf (caseOf h)).came (getAt (bestPlan (caseOf h))) 0 (t + 1) = mostAt h t := rfl

theorem ordersFrom_ok (best : List Nat) : ∀ (n : Nat) (h : House) (a : Nat), HouseOk h → h.now < h.horizon → a + n = h.ways.length → mostsOf h = best →
    (ordersFrom best n h a).length = n ∧ ∃ p, (netOf (caseOf h)).Ok p ∧ (∀ t, h.now ≤ t → t ≤ h.horizon → h.out + (netOf (caseOf h)).came p 0 (t + 1) = mostAt h t) ∧
      ∀ i, i < n → p (a + i) h.now = (ordersFrom best n h a).getD i 0 := by
  intro n
  induction n with
  | zero =>
    intro h a ok hT hn hb
    exact ⟨rfl, _, best_plan_ok ok.case, fun t _ _ => rfl, fun i hi => by omega⟩
  | succ n ih =>
    intro h a ok hT hn hb
    have ha : a < h.ways.length := by omega
    have e0 : ordersFrom best (n + 1) h a = greatest (fun x => mostsOf (shut (enters h a x) a) == best) (min (rateAt (hy h a) h.now) (h.here.getD (hy h a).from_ 0)) :: ordersFrom best n (shut (enters h a (greatest (fun x => mostsOf (shut (enters h a x) a) == best) (min (rateAt (hy h a) h.now) (h.here.getD (hy h a).from_ 0)))) a) (a + 1) := by
      show (match h.ways[a]? with | none => [] | some w => _) = _
      rw [hy_get ha]
    have hp := best_plan_ok ok.case
    have x1 : getAt (bestPlan (caseOf h)) a h.now ≤ rateAt (hy h a) h.now := hp.1 a ha h.now (Nat.le_refl _) hT
    have x2 : getAt (bestPlan (caseOf h)) a h.now ≤ h.here.getD (hy h a).from_ 0 := by
      have q1 := leaves_now ok hT hp (hy h a).from_
      have q2 := Lv_mem ha (fun a => getAt (bestPlan (caseOf h)) a h.now)
      omega
    have fx : (mostsOf (shut (enters h a (getAt (bestPlan (caseOf h)) a h.now)) a) == best) = true := by
      have e := one_ok ok hT ha x2
      rw [beq_iff_eq, ← hb, mosts_ext e.now e.horizon]
      intro t h1 h2
      apply Nat.le_antisymm
      · obtain ⟨l1, l2⟩ := ent_lift ok hT e (by
          intro i hi
          unfold single
          by_cases ei : i = a
          · subst ei; rw [if_pos rfl, if_pos rfl]; omega
          · rw [if_neg (fun z => ei z.symm), if_neg ei]; omega) (best_plan_ok e.ok.case)
        have := most_le ok l1 h2
        rw [l2 t h2] at this
        exact this
      · obtain ⟨l1, l2⟩ := ent_lower ok hT e (p := getAt (bestPlan (caseOf h))) (q := fun i s => getAt (bestPlan (caseOf h)) i s - (if s = h.now then single a (getAt (bestPlan (caseOf h)) a h.now) i else 0)) (by
            intro i hi s
            show getAt (bestPlan (caseOf h)) i s = getAt (bestPlan (caseOf h)) i s - (if s = h.now then single a (getAt (bestPlan (caseOf h)) a h.now) i else 0) + (if s = h.now then single a (getAt (bestPlan (caseOf h)) a h.now) i else 0)
            by_cases es : s = h.now
            · rw [if_pos es, es]
              unfold single
              by_cases ei : a = i
              · subst ei; rw [if_pos rfl]; omega
              · rw [if_neg ei]; omega
            · rw [if_neg es]; omega) hp (by
            intro i hi
            show getAt (bestPlan (caseOf h)) i h.now - (if h.now = h.now then single a (getAt (bestPlan (caseOf h)) a h.now) i else 0) ≤ _
            rw [if_pos rfl]
            unfold single
            by_cases ei : i = a
            · subst ei; rw [if_pos rfl, if_pos rfl]; omega
            · rw [if_neg ei, if_neg (fun z => ei z.symm)]
              have := hp.1 i hi h.now (Nat.le_refl _) hT
              have this : getAt (bestPlan (caseOf h)) i h.now ≤ rateAt (hy h i) h.now := this
              omega)
        have := most_le e.ok l1 (t := t) (by rw [e.horizon]; exact h2)
        rw [← l2 t h2] at this
        exact this
    obtain ⟨s1, s2, _⟩ := greatest_spec (fun x => mostsOf (shut (enters h a x) a) == best) (min (rateAt (hy h a) h.now) (h.here.getD (hy h a).from_ 0)) _ (by omega) fx
    generalize greatest (fun x => mostsOf (shut (enters h a x) a) == best) (min (rateAt (hy h a) h.now) (h.here.getD (hy h a).from_ 0)) = x at e0 s1 s2
    have e := one_ok ok hT ha (x := x) (by omega)
    have s1 : mostsOf (shut (enters h a x) a) = best := by simpa using s1
    obtain ⟨i1, q, i2, i3, i4⟩ := ih (shut (enters h a x) a) (a + 1) e.ok (by rw [e.now, e.horizon]; exact hT) (by rw [e.n]; omega) s1
    rw [e0]
    refine ⟨by rw [List.length_cons, i1], ?_⟩
    obtain ⟨l1, l2⟩ := ent_lift ok hT e (by
      intro i hi
      unfold single
      by_cases ei : i = a
      · subst ei; rw [if_pos rfl, if_pos rfl]; omega
      · rw [if_neg (fun z => ei z.symm), if_neg ei]; omega) i2
    refine ⟨_, l1, ?_, ?_⟩
    · intro t h1 h2
      rw [l2 t h2, i3 t (by rw [e.now]; exact h1) (by rw [e.horizon]; exact h2)]
      exact (mosts_ext e.now e.horizon).mp (s1.trans hb.symm) t h1 h2
    · intro i hi
      show q (a + i) h.now + (if h.now = h.now then single a x (a + i) else 0) = _
      rw [if_pos rfl]
      unfold single
      cases i with
      | zero =>
        have h1 := i2.1 a (by show a < (shut (enters h a x) a).ways.length; rw [e.n]; exact ha) h.now (by show (shut (enters h a x) a).now ≤ h.now; rw [e.now]; exact Nat.le_refl _) (by show h.now < (shut (enters h a x) a).horizon; rw [e.horizon]; exact hT)
        have h2 : rateAt (hy (shut (enters h a x) a) a) h.now = if a = a then 0 else rateAt (hy h a) h.now := (e.way a ha).2.2.2.2
        have h1 : q a h.now ≤ rateAt (hy (shut (enters h a x) a) a) h.now := h1
        rw [if_pos rfl] at h2
        show q a h.now + (if a = a then x else 0) = x
        rw [if_pos rfl]; omega
      | succ i =>
        rw [if_neg (by omega)]
        have := i4 i (by omega)
        rw [e.now] at this
        show q (a + (i + 1)) h.now + 0 = (ordersFrom best n (shut (enters h a x) a) (a + 1)).getD i 0
        rw [← this, show a + 1 + i = a + (i + 1) by omega]
        rfl

/-- **the orders**: they can be walked, and a best plan begins so -/
theorem orders_ok {h : House} (ok : HouseOk h) (hT : h.now < h.horizon) :
    (orders h).length = h.ways.length ∧ canWalk h 0 (orders h) = true ∧
    ∃ p, (netOf (caseOf h)).Ok p ∧ (∀ t, h.now ≤ t → t ≤ h.horizon → h.out + (netOf (caseOf h)).came p 0 (t + 1) = mostAt h t) ∧ ∀ i, i < h.ways.length → p i h.now = from_ 0 (orders h) i := by
  have e0 : orders h = ordersFrom (mostsOf h) h.ways.length h 0 := by unfold orders; rw [if_pos hT]
  obtain ⟨h1, p, h2, h3, h4⟩ := ordersFrom_ok (mostsOf h) h.ways.length h 0 ok hT (by omega) rfl
  rw [← e0] at h1 h4
  have h5 : ∀ i, i < h.ways.length → p i h.now = from_ 0 (orders h) i := by
    intro i hi
    have := h4 i hi
    rw [Nat.zero_add] at this
    rw [this]; rfl
  refine ⟨h1, ?_, p, h2, h3, h5⟩
  rw [canWalk_iff _ ok hT 0 (by omega)]
  refine ⟨?_, ?_⟩
  · intro i hi; rw [← h5 i hi]; exact h2.1 i hi h.now (Nat.le_refl _) hT
  · intro v
    have : Lv h (from_ 0 (orders h)) v = Lv h (fun a => p a h.now) v := by
      apply sm_congr; intro i hi; rw [← h5 i hi]
    rw [this]; exact leaves_now ok hT h2 v
end Ev
namespace Ev
open Vbevzz (Case Plan House sumOf rateAt getAt setAt caseOf bestPlan cutBy enters shut canEnter canWalk walkOver nextMinute total mostsOf minutesOn greatest ordersFrom orders)
open VbevzzLaw (Building hereAt rateOf)

/-! Everybody, each once -/
theorem sm_succ_left (n : Nat) (f : Nat → Nat) : sm (n + 1) f = f 0 + sm n (fun i => f (i + 1)) := by
  induction n with
  | zero => simp [sm]
  | succ n ih => rw [sm, ih]; simp only [sm]; omega
theorem sum_drop (l : List Nat) (k : Nat) : (l.drop k).sum = sm l.length (fun t => if k ≤ t then l.getD t 0 else 0) := by
  induction l generalizing k with
  | nil => simp [sm]
  | cons x l ih =>
    rw [List.length_cons, sm_succ_left]
    cases k with
    | zero =>
      rw [List.drop_zero, List.sum_cons, if_pos (Nat.zero_le _)]
      have := ih 0
      rw [List.drop_zero] at this
      rw [this]; simp
    | succ k =>
      rw [List.drop_succ_cons, ih k, if_neg (by omega), Nat.zero_add]
      apply sm_congr; intro t _
      by_cases e : k ≤ t
      · rw [if_pos e, if_pos (by omega)]; simp
      · rw [if_neg e, if_neg (by omega)]
def later (h : House) : Nat := sm h.places (fun v => sm (h.horizon + 1) (fun t => if h.now < t then getAt h.coming v t else 0))
theorem total_eq {h : House} (ok : HouseOk h) : total h = h.out + sm h.places (fun v => h.here.getD v 0) + later h + h.away := by
  unfold total later
  have e1 : sumOf h.here = sm h.places (fun v => h.here.getD v 0) := by
    rw [sumOf_eq]
    have := sum_getD 0 h.here (fun x => x)
    rw [List.map_id'] at this
    rw [this, ok.hlen]
  have e2 : sumOf (h.coming.map fun l => sumOf (l.drop (h.now + 1))) = sm h.places (fun v => sm (h.horizon + 1) (fun t => if h.now < t then getAt h.coming v t else 0)) := by
    rw [sumOf_eq, sum_getD [], ok.clen]
    apply sm_congr; intro v hv
    rw [sumOf_eq, sum_drop, ok.crow v hv]
    rfl
  rw [e1, e2]

theorem ent_total {h g : House} {ys zs : Nat → Nat} (ok : HouseOk h) (e : Ent h g ys zs) : total g = total h := by
  rw [total_eq ok, total_eq e.ok]
  have h1 : sm g.places (fun v => g.here.getD v 0) + sm h.ways.length ys = sm h.places (fun v => h.here.getD v 0) := by
    have q : sm h.places (fun v => Lv h ys v) = sm h.ways.length ys := by
      unfold Lv
      rw [sm_comm]
      apply sm_congr; intro a ha
      rw [sm_pick h.places (hy h a).from_ (fun _ => ys a), if_pos (ok.way _ (hy_mem ha)).1]
    rw [← q, e.places, ← sm_add]
    apply sm_congr; intro v _; exact e.here v
  have h2 : later g + g.away = later h + h.away + sm h.ways.length ys := by
    have q : sm h.places (fun v => sm (h.horizon + 1) (fun t => if h.now < t then Rc h ys v t else 0)) = sm h.ways.length (fun a => if h.now + (hy h a).span ≤ h.horizon then ys a else 0) := by
      have q1 : ∀ v, sm (h.horizon + 1) (fun t => if h.now < t then Rc h ys v t else 0) = sm h.ways.length (fun a => if (hy h a).to_ = v ∧ h.now + (hy h a).span < h.horizon + 1 then ys a else 0) := by
        intro v
        rw [← sum_Rc ok ys v (h.horizon + 1) (Nat.le_refl _)]
        apply sm_congr; intro t ht
        by_cases e1 : h.now < t
        · rw [if_pos e1, if_pos ⟨e1, ht⟩]
        · rw [if_neg e1, if_neg (fun z => e1 z.1)]
      simp only [q1]
      rw [sm_comm]
      apply sm_congr; intro a ha
      have : ∀ v, (if (hy h a).to_ = v ∧ h.now + (hy h a).span < h.horizon + 1 then ys a else 0) = if (hy h a).to_ = v then (if h.now + (hy h a).span ≤ h.horizon then ys a else 0) else 0 := by
        intro v
        by_cases e1 : (hy h a).to_ = v
        · by_cases e2 : h.now + (hy h a).span ≤ h.horizon
          · rw [if_pos ⟨e1, by omega⟩, if_pos e1, if_pos e2]
          · rw [if_neg (by omega), if_pos e1, if_neg e2]
        · rw [if_neg (fun z => e1 z.1), if_neg e1]
      simp only [this]
      rw [sm_pick h.places (hy h a).to_ (fun _ => if h.now + (hy h a).span ≤ h.horizon then ys a else 0), if_pos (ok.way _ (hy_mem ha)).2.1]
    have q2 : later g = later h + sm h.places (fun v => sm (h.horizon + 1) (fun t => if h.now < t then Rc h ys v t else 0)) := by
      unfold later
      rw [e.places, e.horizon, e.now, ← sm_add]
      apply sm_congr; intro v _
      rw [← sm_add]
      apply sm_congr; intro t ht
      split
      · exact e.coming v t (by omega)
      · rfl
    have q3 : sm h.ways.length (fun a => if h.now + (hy h a).span ≤ h.horizon then ys a else 0) + Aw h ys = sm h.ways.length ys := by
      unfold Aw
      rw [← sm_add]
      apply sm_congr; intro a _
      by_cases e1 : h.now + (hy h a).span ≤ h.horizon
      · rw [if_pos e1, if_neg (by omega)]; omega
      · rw [if_neg e1, if_pos (by omega)]; omega
    have := e.away
    omega
  have := e.out
  omega
theorem sm_split_first {n : Nat} (hn : 0 < n) (f : Nat → Nat) : sm n f = f 0 + sm n (fun i => if i = 0 then 0 else f i) := by
  obtain ⟨m, rfl⟩ : ∃ m, n = m + 1 := ⟨n - 1, by omega⟩
  rw [sm_succ_left, sm_succ_left m (fun i => if i = 0 then 0 else f i)]
  simp
theorem next_total {g : House} (ok : HouseOk g) (hT : g.now < g.horizon) : total (nextMinute g) = total g := by
  rw [total_eq ok, total_eq (next_ok ok hT)]
  have h1 : sm (nextMinute g).places (fun v => (nextMinute g).here.getD v 0) + g.here.getD 0 0 = sm g.places (fun v => g.here.getD v 0) + sm g.places (fun v => getAt g.coming v (g.now + 1)) := by
    have q : sm (nextMinute g).places (fun v => (nextMinute g).here.getD v 0) = sm g.places (fun v => (if v = 0 then 0 else g.here.getD v 0) + getAt g.coming v (g.now + 1)) := by
      apply sm_congr; intro v hv; exact getD_map_range g.places _ v hv
    rw [q, sm_add, sm_split_first ok.pos (fun v => g.here.getD v 0)]
    omega
  have h2 : later g = sm g.places (fun v => getAt g.coming v (g.now + 1)) + later (nextMinute g) := by
    unfold later
    show _ = _ + sm g.places (fun v => sm (g.horizon + 1) (fun t => if g.now + 1 < t then getAt g.coming v t else 0))
    rw [← sm_add]
    apply sm_congr; intro v _
    have := sm_pick (g.horizon + 1) (g.now + 1) (fun t => getAt g.coming v t)
    rw [if_pos (by omega)] at this
    rw [← this, ← sm_add]
    apply sm_congr; intro t _
    by_cases e4 : g.now + 1 = t
    · rw [if_pos (by omega), if_pos e4, if_neg (by omega)]; omega
    · rw [if_neg e4]
      by_cases e5 : g.now < t
      · rw [if_pos e5, if_pos (by omega)]; omega
      · rw [if_neg e5, if_neg (by omega)]
  have h3 : (nextMinute g).out = g.out + g.here.getD 0 0 := rfl
  have h4 : (nextMinute g).away = g.away := rfl
  omega

/-! A minute passes -/
theorem leaving_eq {P T : Nat} {h : House} {b : Building} (r : Rel P T h b) (l : List Nat) (v : Nat) : VbevzzLaw.leaving b l v = Lv h (from_ 0 l) v := by
  unfold VbevzzLaw.leaving Lv
  rw [sum_zipIdx u0, r.nways]
  apply sm_congr; intro a ha
  show (if (uy b a).from_ = v then l.getD a 0 else 0) = _
  rw [(r.way a ha).1]; rfl
theorem reaching_eq {P T : Nat} {h : House} {b : Building} (r : Rel P T h b) (l : List Nat) (v t : Nat) : VbevzzLaw.reaching b l v t = Rc h (from_ 0 l) v t := by
  unfold VbevzzLaw.reaching Rc
  rw [sum_zipIdx u0, r.nways]
  apply sm_congr; intro a ha
  show (if (uy b a).to_ = v ∧ b.now + (uy b a).span = t then l.getD a 0 else 0) = _
  rw [(r.way a ha).2.1, (r.way a ha).2.2.1, r.now]; rfl

theorem walk_rel {P T : Nat} {h : House} {b : Building} (r : Rel P T h b) (hT : h.now < h.horizon) {l : List Nat} (hl : l.length = h.ways.length) (hc : canWalk h 0 l = true) :
    Rel P T (nextMinute (walkOver h 0 l)) (VbevzzLaw.walked b l) := by
  obtain ⟨zs, e⟩ := walkOver_ok l r.ok hT 0 (by omega) hc
  have gT : (walkOver h 0 l).now < (walkOver h 0 l).horizon := by rw [e.now, e.horizon]; exact hT
  have hg := e.here
  have hc' := e.coming
  have hbh : b.here = h.here := r.here.symm
  refine ⟨next_ok e.ok gT, ?_, ?_, ?_, ?_, ?_, ?_, ?_, ?_, ?_, ?_⟩
  · show (walkOver h 0 l).places = P; rw [e.places]; exact r.places
  · show (walkOver h 0 l).horizon = T; rw [e.horizon]; exact r.horizon
  · show (walkOver h 0 l).now + 1 = b.now + 1; rw [e.now, r.now]
  · show (walkOver h 0 l).ways.length = b.ways.length; rw [e.n]; exact r.nways
  · intro a ha
    have ha : a < b.ways.length := ha
    have q := e.way a (by rw [r.nways]; exact ha)
    have q2 := r.way a ha
    refine ⟨q.1.trans q2.1, q.2.1.trans q2.2.1, q.2.2.1.trans q2.2.2.1, q2.2.2.2.1, ?_⟩
    intro t ht
    have ht : b.now + 1 ≤ t := ht
    exact (q.2.2.2.1 t (by rw [r.now]; omega)).trans (q2.2.2.2.2 t (by omega))
  · show (List.range (walkOver h 0 l).places).map _ = (List.range b.here.length).map _
    rw [e.places, hbh, r.ok.hlen]
    apply List.map_congr_left
    intro v hv
    rw [List.mem_range] at hv
    rw [leaving_eq r, reaching_eq r, e.now, hc' v (h.now + 1) (by omega), r.coming v (h.now + 1) (by rw [← r.places]; exact hv) (by rw [r.now]; omega) (by rw [← r.horizon]; omega), r.now]
    have h1 := hg v
    unfold hereAt
    rw [hbh]
    by_cases ev : v = 0
    · rw [if_pos ev, if_pos ev]
    · rw [if_neg ev, if_neg ev]; omega
  · intro v t hv h1 h2
    have h1 : b.now + 1 < t := h1
    show getAt (walkOver h 0 l).coming v t = b.coming v t + VbevzzLaw.reaching b l v t
    rw [reaching_eq r, hc' v t (by rw [r.horizon]; exact h2), r.coming v t hv (by omega) h2]
  · show (walkOver h 0 l).out + (walkOver h 0 l).here.getD 0 0 = b.gone + hereAt b 0
    have h1 := hg 0
    have h2 : Lv h (from_ 0 l) 0 = 0 := lv0 r.ok _
    unfold hereAt
    rw [hbh, e.out, r.out]; omega
  · show total (nextMinute (walkOver h 0 l)) = b.told
    rw [next_total e.ok gT, ent_total r.ok e]; exact r.told
  · exact r.few
end Ev
namespace Ev
open Vbevzz (Case Plan House sumOf rateAt getAt setAt caseOf bestPlan cutBy enters shut canEnter canWalk walkOver nextMinute total mostsOf minutesOn orders natsIn isIn isPlaceZ isWayZ act stepRows told counted nat nats no step)
open VbevzzLaw (Building hereAt rateOf NoOpen changed)

theorem stepRows_act {h : House} {call : VbevzzLaw.Call} (hno : NoOpen call) : stepRows (some h) call = act h call := by
  unfold stepRows
  split
  · rename_i n t
    exact absurd rfl hno
  · contradiction
  · rename_i h' h1 h2
    cases h1; rfl

theorem orders_answer (h : House) : (((stepRows (some h) [[4]]).2).drop 2).map Int.toNat = orders h := by
  have : stepRows (some h) [[4]] = told h (counted (orders h)) := rfl
  rw [this]
  show ((0 :: nat (orders h).length :: nats (orders h)).drop 2).map Int.toNat = orders h
  show (nats (orders h)).map Int.toNat = orders h
  unfold nats
  rw [List.map_map]
  have : (Int.toNat ∘ fun (n : Nat) => (n : Int)) = id := by funext x; simp
  rw [this, List.map_id]

theorem natsIn_some {l : List Int} {hi : Int} {r : List Nat} (h : natsIn l hi = some r) : r = l.map Int.toNat ∧ ∀ x ∈ l, 0 ≤ x ∧ x ≤ hi := by
  unfold natsIn at h
  split at h
  · rename_i hc
    refine ⟨(Option.some.inj h).symm, ?_⟩
    intro x hx
    have := List.all_eq_true.mp hc x hx
    unfold isIn at this
    simpa using this
  · cases h
theorem natsIn_of {l : List Int} {hi : Int} (h : ∀ x ∈ l, 0 ≤ x ∧ x ≤ hi) : natsIn l hi = some (l.map Int.toNat) := by
  unfold natsIn
  rw [if_pos]
  rw [List.all_eq_true]
  intro x hx
  unfold isIn
  simpa using h x hx
theorem isIn_iff {n lo hi : Int} : isIn n lo hi = true ↔ lo ≤ n ∧ n ≤ hi := by unfold isIn; simp

/-- what a call makes of a house is what it makes of the building -/
def Shows (P T : Nat) (h : House) (b : Building) (call : VbevzzLaw.Call) (sa : Vbevzz.State × Vbevzz.Answer) : Prop :=
  ∃ g, sa.1 = some g ∧ Rel P T g (if sa.2.head? = some 0 then changed (stepRows (some h) [[4]]).2 b call else b)
theorem shows_no {P T : Nat} {h : House} {b : Building} (r : Rel P T h b) (call : VbevzzLaw.Call) {e : Int} (he : e ≠ 0) : Shows P T h b call (no h e) := by
  refine ⟨h, rfl, ?_⟩
  rw [if_neg]
  · exact r
  · show ¬ some e = some 0
    intro z; exact he (Option.some.inj z)
theorem shows_told {P T : Nat} {h g : House} {b : Building} {call : VbevzzLaw.Call} {l : List Int} (r : Rel P T g (changed (stepRows (some h) [[4]]).2 b call)) : Shows P T h b call (told g l) := by
  refine ⟨g, rfl, ?_⟩
  have e : (told g l).2.head? = some 0 := rfl
  rw [if_pos e]
  exact r

theorem way_rel {P T : Nat} {h : House} {b : Building} (r : Rel P T h b) {u v s : Int} {rates : List Int}
    (h1 : 0 ≤ u ∧ u < P) (h2 : 0 ≤ v ∧ v < P) (h3 : u ≠ 0) (h4 : u ≠ v) (h5 : 1 ≤ s) (h6 : rates.length = T) :
    Rel P T (step h (.way ⟨u.toNat, v.toNat, s.toNat, rates.map Int.toNat⟩)) { b with ways := b.ways ++ [⟨u.toNat, v.toNat, s.toNat, rates.map Int.toNat⟩] } := by
  have hw : Vbevzz.isWay ⟨h.places, h.horizon, [], [], h.now⟩ ⟨u.toNat, v.toNat, s.toNat, rates.map Int.toNat⟩ = true := by
    unfold Vbevzz.isWay
    simp only [decide_eq_true_eq, List.length_map]
    rw [r.places, r.horizon]
    omega
  have e0 : step h (.way ⟨u.toNat, v.toNat, s.toNat, rates.map Int.toNat⟩) = { h with ways := h.ways ++ [⟨u.toNat, v.toNat, s.toNat, rates.map Int.toNat⟩] } := by
    unfold step
    dsimp only
    rw [hw]; rfl
  rw [e0]
  refine ⟨⟨r.ok.pos, r.ok.nowle, ?_, r.ok.hlen, r.ok.clen, r.ok.crow⟩, r.places, r.horizon, r.now, ?_, ?_, r.here, r.coming, r.out, r.told, r.few⟩
  · intro w hw
    rcases List.mem_append.mp hw with q | q
    · exact r.ok.way w q
    · rw [List.mem_singleton] at q
      subst q
      show u.toNat < h.places ∧ v.toNat < h.places ∧ u.toNat ≠ 0 ∧ 1 ≤ s.toNat ∧ (rates.map Int.toNat).length = h.horizon
      rw [r.places, r.horizon, List.length_map]
      omega
  · show (h.ways ++ [_]).length = (b.ways ++ [_]).length
    simp [r.nways]
  · intro a ha
    have ha : a < (b.ways ++ ([⟨u.toNat, v.toNat, s.toNat, rates.map Int.toNat⟩] : List VbevzzLaw.Way)).length := ha
    rw [List.length_append] at ha
    have e1 : hy { h with ways := h.ways ++ [⟨u.toNat, v.toNat, s.toNat, rates.map Int.toNat⟩] } a = if a < h.ways.length then hy h a else ⟨u.toNat, v.toNat, s.toNat, rates.map Int.toNat⟩ := by
      show (h.ways ++ [_]).getD a w0 = _
      unfold hy
      simp only [List.getD_eq_getElem?_getD, List.getElem?_append]
      split
      · rfl
      · rename_i hc
        have : a = h.ways.length := by rw [r.nways] at hc ⊢; simp at ha; omega
        subst this; simp
    have e2 : uy { b with ways := b.ways ++ [⟨u.toNat, v.toNat, s.toNat, rates.map Int.toNat⟩] } a = if a < b.ways.length then uy b a else ⟨u.toNat, v.toNat, s.toNat, rates.map Int.toNat⟩ := by
      show (b.ways ++ [_]).getD a u0 = _
      unfold uy
      simp only [List.getD_eq_getElem?_getD, List.getElem?_append]
      split
      · rfl
      · rename_i hc
        have : a = b.ways.length := by simp at ha; omega
        subst this; simp
    rw [e1, e2, r.nways]
    by_cases q : a < b.ways.length
    · rw [if_pos q, if_pos q]; exact r.way a q
    · rw [if_neg q, if_neg q]
      exact ⟨rfl, rfl, rfl, by rw [List.length_map]; exact h6, fun _ _ => rfl⟩

theorem people_rel {P T : Nat} {h : House} {b : Building} (r : Rel P T h b) {v t n : Int}
    (h1 : 0 ≤ v ∧ v < P) (h2 : (h.now : Int) ≤ t ∧ t ≤ T) (h3 : 1 ≤ n) (h4 : total h + n.toNat ≤ 30) (ords : VbevzzLaw.Answer) :
    Rel P T (step h (.people v.toNat t.toNat n.toNat)) (changed ords b [[2, v, t, n]]) := by
  have e0 : step h (.people v.toNat t.toNat n.toNat) = if t.toNat = h.now then { h with here := h.here.set v.toNat (h.here.getD v.toNat 0 + n.toNat) } else { h with coming := setAt h.coming v.toNat t.toNat (getAt h.coming v.toNat t.toNat + n.toNat) } := by
    unfold step
    dsimp only
    rw [if_neg]
    rw [r.places, r.horizon]; omega
  have e1 : changed ords b [[2, v, t, n]] = if t.toNat = b.now then { b with here := b.here.set v.toNat (hereAt b v.toNat + n.toNat), told := b.told + n.toNat } else { b with coming := fun p m => if p = v.toNat ∧ m = t.toNat then b.coming p m + n.toNat else b.coming p m, told := b.told + n.toNat } := rfl
  have hv : v.toNat < h.places := by rw [r.places]; omega
  rw [e0, e1]
  by_cases ht : t.toNat = b.now
  · rw [if_pos (ht.trans r.now.symm), if_pos ht]
    have okg : HouseOk { h with here := h.here.set v.toNat (h.here.getD v.toNat 0 + n.toNat) } := ⟨r.ok.pos, r.ok.nowle, r.ok.way, by show (h.here.set _ _).length = _; rw [List.length_set]; exact r.ok.hlen, r.ok.clen, r.ok.crow⟩
    have htot : total { h with here := h.here.set v.toNat (h.here.getD v.toNat 0 + n.toNat) } = total h + n.toNat := by
      rw [total_eq r.ok, total_eq okg]
      have q : sm h.places (fun i => (h.here.set v.toNat (h.here.getD v.toNat 0 + n.toNat)).getD i 0) + h.here.getD v.toNat 0 = sm h.places (fun i => h.here.getD i 0) + (h.here.getD v.toNat 0 + n.toNat) := by
        have := sm_one (n := h.places) (k := v.toNat) (f := fun i => (h.here.set v.toNat (h.here.getD v.toNat 0 + n.toNat)).getD i 0) (g := fun i => h.here.getD i 0) hv (by
          intro i _ hi; show (h.here.set _ _).getD i 0 = _; rw [getD_set, if_neg (fun z => hi z.1)])
        rw [getD_set, if_pos ⟨rfl, by rw [r.ok.hlen]; exact hv⟩] at this
        exact this
      show h.out + sm h.places (fun i => (h.here.set v.toNat (h.here.getD v.toNat 0 + n.toNat)).getD i 0) + later h + h.away = _
      omega
    refine ⟨okg, r.places, r.horizon, r.now, r.nways, r.way, ?_, r.coming, r.out, ?_, ?_⟩
    · show h.here.set _ _ = b.here.set _ _
      unfold hereAt; rw [r.here]
    · rw [htot, r.told]
    · show b.told + n.toNat ≤ 30
      rw [← r.told]; exact h4
  · rw [if_neg (fun z => ht (z.trans r.now)), if_neg ht]
    have htb : b.now < t.toNat := by rw [r.now] at h2; omega
    have htT : t.toNat ≤ T := by omega
    have okg : HouseOk { h with coming := setAt h.coming v.toNat t.toNat (getAt h.coming v.toNat t.toNat + n.toNat) } := ⟨r.ok.pos, r.ok.nowle, r.ok.way, r.ok.hlen, by show (setAt _ _ _ _).length = _; rw [setAt_len]; exact r.ok.clen, by intro i hi; show ((setAt _ _ _ _).getD i []).length = _; rw [setAt_row]; exact r.ok.crow i hi⟩
    have hga : ∀ i s, getAt (setAt h.coming v.toNat t.toNat (getAt h.coming v.toNat t.toNat + n.toNat)) i s = if i = v.toNat ∧ s = t.toNat then getAt h.coming v.toNat t.toNat + n.toNat else getAt h.coming i s := by
      intro i s
      exact getAt_setAt _ _ _ _ _ _ (by rw [r.ok.clen]; exact hv) (by rw [r.ok.crow _ hv, r.horizon]; omega)
    have htot : total { h with coming := setAt h.coming v.toNat t.toNat (getAt h.coming v.toNat t.toNat + n.toNat) } = total h + n.toNat := by
      rw [total_eq r.ok, total_eq okg]
      have q : later { h with coming := setAt h.coming v.toNat t.toNat (getAt h.coming v.toNat t.toNat + n.toNat) } = later h + n.toNat := by
        unfold later
        show sm h.places (fun i => sm (h.horizon + 1) (fun s => if h.now < s then getAt (setAt h.coming v.toNat t.toNat (getAt h.coming v.toNat t.toNat + n.toNat)) i s else 0)) = _
        have z : ∀ i s, (if h.now < s then getAt (setAt h.coming v.toNat t.toNat (getAt h.coming v.toNat t.toNat + n.toNat)) i s else 0) = (if h.now < s then getAt h.coming i s else 0) + (if v.toNat = i then (if t.toNat = s then n.toNat else 0) else 0) := by
          intro i s
          rw [hga]
          by_cases z1 : i = v.toNat ∧ s = t.toNat
          · obtain ⟨rfl, rfl⟩ := z1
            have hlt : h.now < t.toNat := by rw [r.now]; exact htb
            simp [hlt]
          · rw [if_neg z1]
            by_cases z2 : v.toNat = i
            · have z3 : ¬ t.toNat = s := fun z3 => z1 ⟨z2.symm, z3.symm⟩
              simp [z2, z3]
            · simp [z2]
        simp only [z]
        have y : ∀ i, sm (h.horizon + 1) (fun s => (if h.now < s then getAt h.coming i s else 0) + (if v.toNat = i then (if t.toNat = s then n.toNat else 0) else 0)) = sm (h.horizon + 1) (fun s => if h.now < s then getAt h.coming i s else 0) + (if v.toNat = i then n.toNat else 0) := by
          intro i
          rw [sm_add, sm_if, sm_pick (h.horizon + 1) t.toNat (fun _ => n.toNat), if_pos (show t.toNat < h.horizon + 1 by rw [r.horizon]; omega)]
        simp only [y]
        rw [sm_add, sm_pick h.places v.toNat (fun _ => n.toNat), if_pos hv]
      show h.out + sm h.places (fun i => h.here.getD i 0) + _ + h.away = _
      rw [q]; omega
    refine ⟨okg, r.places, r.horizon, r.now, r.nways, r.way, r.here, ?_, r.out, ?_, ?_⟩
    · intro i s hi hs1 hs2
      have hs1 : b.now < s := hs1
      show getAt (setAt h.coming v.toNat t.toNat (getAt h.coming v.toNat t.toNat + n.toNat)) i s = if i = v.toNat ∧ s = t.toNat then b.coming i s + n.toNat else b.coming i s
      rw [hga]
      by_cases z1 : i = v.toNat ∧ s = t.toNat
      · obtain ⟨rfl, rfl⟩ := z1
        rw [if_pos ⟨rfl, rfl⟩, if_pos ⟨rfl, rfl⟩, r.coming _ _ hi hs1 hs2]
      · rw [if_neg z1, if_neg z1]; exact r.coming _ _ hi hs1 hs2
    · rw [htot, r.told]
    · show b.told + n.toNat ≤ 30
      rw [← r.told]; exact h4

theorem rate_rel {P T : Nat} {h : House} {b : Building} (r : Rel P T h b) {a t x : Int}
    (h1 : 0 ≤ a ∧ a < h.ways.length) (h2 : (h.now : Int) ≤ t ∧ t ≤ (T : Int) - 1) (ords : VbevzzLaw.Answer) :
    Rel P T (step h (.rate a.toNat t.toNat x.toNat)) (changed ords b [[3, a, t, x]]) := by
  have ha : a.toNat < h.ways.length := by omega
  have w := r.ok.way _ (hy_mem ha)
  have e0 : step h (.rate a.toNat t.toNat x.toNat) = { h with ways := h.ways.set a.toNat { (hy h a.toNat) with rates := (hy h a.toNat).rates.set t.toNat x.toNat } } := by
    unfold step
    dsimp only
    rw [hy_get ha]
    dsimp only
    rw [if_neg]
    rw [w.2.2.2.2, r.horizon]; omega
  have e1 : changed ords b [[3, a, t, x]] = { b with ways := b.ways.zipIdx.map fun y => if y.2 = a.toNat then { y.1 with rates := y.1.rates.set t.toNat x.toNat } else y.1 } := rfl
  rw [e0, e1]
  have ew : ∀ i, hy { h with ways := h.ways.set a.toNat { (hy h a.toNat) with rates := (hy h a.toNat).rates.set t.toNat x.toNat } } i = if i = a.toNat then { (hy h a.toNat) with rates := (hy h a.toNat).rates.set t.toNat x.toNat } else hy h i := by
    intro i
    show (h.ways.set _ _).getD i w0 = _
    rw [getD_set]
    by_cases e : i = a.toNat
    · rw [if_pos ⟨e, ha⟩, if_pos e]
    · rw [if_neg (fun z => e z.1), if_neg e]; rfl
  have eu : ∀ i, i < b.ways.length → uy { b with ways := b.ways.zipIdx.map fun y => if y.2 = a.toNat then { y.1 with rates := y.1.rates.set t.toNat x.toNat } else y.1 } i = if i = a.toNat then { (uy b a.toNat) with rates := (uy b a.toNat).rates.set t.toNat x.toNat } else uy b i := by
    intro i hi
    show (b.ways.zipIdx.map _).getD i u0 = _
    unfold uy
    simp only [List.getD_eq_getElem?_getD, List.getElem?_map, List.getElem?_zipIdx, List.getElem?_eq_getElem hi]
    by_cases e : i = a.toNat
    · subst e; simp [hi]
    · simp [e]
  refine ⟨⟨r.ok.pos, r.ok.nowle, ?_, r.ok.hlen, r.ok.clen, r.ok.crow⟩, r.places, r.horizon, r.now, ?_, ?_, r.here, r.coming, r.out, r.told, r.few⟩
  · intro u hu
    obtain ⟨i, hi, e⟩ := mem_hy hu
    rw [ew] at e
    have hi : i < h.ways.length := by simpa using hi
    by_cases ei : i = a.toNat
    · rw [if_pos ei] at e
      rw [← e]
      exact ⟨w.1, w.2.1, w.2.2.1, w.2.2.2.1, by rw [List.length_set]; exact w.2.2.2.2⟩
    · rw [if_neg ei] at e
      rw [← e]; exact r.ok.way _ (hy_mem hi)
  · show (h.ways.set _ _).length = (b.ways.zipIdx.map _).length
    simp [r.nways]
  · intro i hi
    have hi : i < b.ways.length := by simpa using hi
    rw [ew, eu i hi]
    have q := r.way i hi
    by_cases ei : i = a.toNat
    · subst ei
      rw [if_pos rfl, if_pos rfl]
      refine ⟨q.1, q.2.1, q.2.2.1, by rw [List.length_set]; exact q.2.2.2.1, ?_⟩
      intro s hs
      have hs : b.now ≤ s := hs
      unfold rateAt rateOf
      dsimp only
      rw [getD_set, getD_set, w.2.2.2.2, q.2.2.2.1, r.horizon]
      split
      · rfl
      · exact q.2.2.2.2 s hs
    · rw [if_neg ei, if_neg ei]; exact q

theorem act_rel {P T : Nat} {h : House} {b : Building} (r : Rel P T h b) (call : VbevzzLaw.Call) : Shows P T h b call (act h call) := by
  unfold act
  split
  · rename_i u v s l
    split
    · exact shows_no r _ (by decide)
    · rename_i rr hr
      obtain ⟨rfl, hl⟩ := natsIn_some hr
      split
      · exact shows_no r _ (by decide)
      · rename_i c1
        split
        · exact shows_no r _ (by decide)
        · rename_i c2
          split
          · exact shows_no r _ (by decide)
          · apply shows_told
            have c1a : isIn s 1 20 = true := by
              cases hq : isIn s 1 20 with
              | true => rfl
              | false => exact absurd (Or.inl hq) c1
            rw [isIn_iff] at c1a
            have c2a : (isPlaceZ h u && isPlaceZ h v) = true := by
              cases hq : (isPlaceZ h u && isPlaceZ h v) with
              | true => rfl
              | false => exact absurd (Or.inl hq) c2
            unfold isPlaceZ nat at c2a
            simp only [Bool.and_eq_true, decide_eq_true_eq] at c2a
            rw [r.places] at c2a
            exact way_rel r c2a.1 c2a.2 (fun z => c2 (Or.inr (Or.inl z))) (fun z => c2 (Or.inr (Or.inr z))) c1a.1 (by
              rw [← r.horizon]
              have := fun z => c1 (Or.inr z)
              simpa using this)
  · rename_i v t n
    split
    · exact shows_no r _ (by decide)
    · rename_i c1
      split
      · exact shows_no r _ (by decide)
      · rename_i c2
        split
        · exact shows_no r _ (by decide)
        · rename_i c3
          split
          · exact shows_no r _ (by decide)
          · rename_i c4
            apply shows_told
            have c1 : isIn n 1 (nat Vbevzz.PEOPLE) = true := by simpa using c1
            have c3 : isIn t (nat h.now) (nat h.horizon) = true := by simpa using c3
            rw [isIn_iff] at c1 c3
            have c2 : isPlaceZ h v = true := by simpa using c2
            unfold isPlaceZ nat at c2
            simp only [Bool.and_eq_true, decide_eq_true_eq] at c2
            rw [r.places] at c2
            have c4 : ¬ 30 < total h + n.toNat := c4
            unfold nat at c3
            rw [r.horizon] at c3
            exact people_rel r c2 c3 c1.1 (by omega) _
  · rename_i a t x
    split
    · exact shows_no r _ (by decide)
    · split
      · exact shows_no r _ (by decide)
      · rename_i c2
        split
        · exact shows_no r _ (by decide)
        · rename_i c3
          apply shows_told
          have c3 : isIn t (nat h.now) (nat h.horizon - 1) = true := by simpa using c3
          rw [isIn_iff] at c3
          have c2 : isWayZ h a = true := by simpa using c2
          unfold isWayZ nat at c2
          simp only [Bool.and_eq_true, decide_eq_true_eq] at c2
          unfold nat at c3
          rw [r.horizon] at c3
          exact rate_rel r c2 c3 _
  · exact shows_told r
  · split
    · exact shows_no r _ (by decide)
    · rename_i c1
      have hT : h.now < h.horizon := by omega
      obtain ⟨o1, o2, _⟩ := orders_ok r.ok hT
      apply shows_told
      have e0 : step h .follow = nextMinute (walkOver h 0 (orders h)) := by
        unfold step; dsimp only; rw [if_neg c1]
      rw [e0]
      have e1 : changed (stepRows (some h) [[4]]).2 b [[5]] = VbevzzLaw.walked b (orders h) := by
        rw [← orders_answer h]; rfl
      rw [e1]
      exact walk_rel r hT o1 o2
  · rename_i l
    split
    · exact shows_no r _ (by decide)
    · rename_i rr hr
      obtain ⟨rfl, hl⟩ := natsIn_some hr
      split
      · exact shows_no r _ (by decide)
      · rename_i c1
        split
        · exact shows_no r _ (by decide)
        · rename_i c2
          split
          · exact shows_no r _ (by decide)
          · rename_i c3
            have hT : h.now < h.horizon := by omega
            have c2 : (l.map Int.toNat).length = h.ways.length := by simpa using c2
            have c3 : canWalk h 0 (l.map Int.toNat) = true := by simpa using c3
            apply shows_told
            have e0 : step h (.walk (l.map Int.toNat)) = nextMinute (walkOver h 0 (l.map Int.toNat)) := by
              unfold step; dsimp only; rw [if_neg]; rintro (z | z | z)
              · omega
              · exact z c2
              · rw [c3] at z; cases z
            rw [e0]
            exact walk_rel r hT c2 c3
  · exact shows_told r
  · exact shows_told r
  · split
    · exact shows_no r _ (by decide)
    · exact shows_told r
  · exact shows_told r
  · split
    · exact shows_no r _ (by decide)
    · exact shows_told r
  · exact shows_told r
  · split
    · exact shows_no r _ (by decide)
    · exact shows_told r
  · split
    · exact shows_no r _ (by decide)
    · split
      · exact shows_no r _ (by decide)
      · split
        · exact shows_no r _ (by decide)
        · exact shows_told r
  · split
    · exact shows_no r _ (by decide)
    · split
      · exact shows_no r _ (by decide)
      · dsimp only
        split
        · exact shows_no r _ (by decide)
        · exact shows_told r
  · exact shows_no r _ (by decide)

theorem step_rel {P T : Nat} {h : House} {b : Building} (r : Rel P T h b) {call : VbevzzLaw.Call} (hno : NoOpen call) :
    Shows P T h b call (stepRows (some h) call) := by
  rw [stepRows_act hno]; exact act_rel r call
end Ev
namespace Ev
open Vbevzz (Case Plan House sumOf rateAt getAt setAt caseOf bestPlan cutBy enters shut canEnter canWalk walkOver nextMinute total mostsOf minutesOn orders natsIn isIn isPlaceZ isWayZ act stepRows told counted nat nats no step)
open VbevzzLaw (Building hereAt rateOf NoOpen changed made stateFrom answerTo after building CanOpen)

theorem opened_rel {P T : Nat} (h : CanOpen P T) : Rel P T (Vbevzz.opened P T) (VbevzzLaw.newBuilding P) := by
  obtain ⟨h1, h2, h3⟩ := h
  have z1 : ∀ v t, getAt (Vbevzz.opened P T).coming v t = 0 := by
    intro v t
    apply getAt_zero_rows
    intro r hr x hx
    rw [(List.mem_replicate.mp hr).2] at hx
    exact (List.mem_replicate.mp hx).2
  have okg : HouseOk (Vbevzz.opened P T) := by
    refine ⟨h1, Nat.zero_le _, ?_, ?_, ?_, ?_⟩
    · intro w hw; cases hw
    · exact List.length_replicate
    · exact List.length_replicate
    · intro v hv
      have hv : v < P := hv
      show ((List.replicate P (List.replicate (T + 1) 0)).getD v []).length = T + 1
      simp [List.getD_eq_getElem?_getD, hv]
  refine ⟨okg, rfl, rfl, rfl, rfl, ?_, rfl, ?_, rfl, ?_, Nat.zero_le _⟩
  · intro a ha; exact absurd ha (Nat.not_lt_zero _)
  · intro v t _ _ _; exact z1 v t
  · rw [total_eq okg]
    have e1 : sm (Vbevzz.opened P T).places (fun v => (Vbevzz.opened P T).here.getD v 0) = 0 := by
      apply sm_zero; intro i hi
      have hi : i < P := hi
      show (List.replicate P 0).getD i 0 = 0
      simp [List.getD_eq_getElem?_getD, hi]
    have e2 : later (Vbevzz.opened P T) = 0 := by
      apply sm_zero; intro v _; apply sm_zero; intro t _; rw [z1]; simp
    rw [e1, e2]; rfl

theorem run_rel {P T : Nat} : ∀ (calls : List VbevzzLaw.Call) {h : House} {b : Building}, Rel P T h b → (∀ call ∈ calls, NoOpen call) →
    ∃ g, stateFrom (some h) calls = some g ∧ Rel P T g (made (some h) calls b) := by
  intro calls
  induction calls with
  | nil => intro h b r _; exact ⟨h, rfl, r⟩
  | cons call calls ih =>
    intro h b r hno
    obtain ⟨g, g1, g2⟩ := step_rel r (hno call (List.mem_cons_self ..))
    obtain ⟨k, k1, k2⟩ := ih g2 (fun c hc => hno c (List.mem_cons_of_mem _ hc))
    refine ⟨k, ?_, ?_⟩
    · show stateFrom (stepRows (some h) call).1 calls = some k
      rw [g1]; exact k1
    · show Rel P T k (made (stepRows (some h) call).1 calls _)
      rw [g1]; exact k2

theorem opening_state {P T : Nat} (h : CanOpen P T) : stateFrom Vbevzz.start [VbevzzLaw.opening P T] = some (Vbevzz.opened P T) := by
  obtain ⟨h1, h2, h3⟩ := h
  show (stepRows none [[0, (P : Int), (T : Int)]]).1 = _
  have : stepRows none [[0, (P : Int), (T : Int)]] = if (isIn P 1 Vbevzz.PLACES && isIn T 0 Vbevzz.HORIZON) = false then (none, [-1]) else (some (Vbevzz.opened (P : Int).toNat (T : Int).toNat), [0]) := rfl
  rw [this, if_neg]
  · rfl
  · have e1 : isIn (P : Int) 1 Vbevzz.PLACES = true := by rw [isIn_iff]; show (1 : Int) ≤ P ∧ (P : Int) ≤ 5; omega
    have e2 : isIn (T : Int) 0 Vbevzz.HORIZON = true := by rw [isIn_iff]; show (0 : Int) ≤ T ∧ (T : Int) ≤ 8; omega
    rw [e1, e2]; decide
theorem after_rel {P T : Nat} (h : CanOpen P T) {calls : List VbevzzLaw.Call} (hno : ∀ call ∈ calls, NoOpen call) :
    ∃ g, after P T calls = some g ∧ Rel P T g (building P T calls) := by
  have e := opening_state h
  obtain ⟨g, g1, g2⟩ := run_rel calls (opened_rel h) hno
  refine ⟨g, ?_, ?_⟩
  · show stateFrom (stateFrom Vbevzz.start [VbevzzLaw.opening P T]) calls = some g
    rw [e]; exact g1
  · unfold building; rw [e]; exact g2

theorem made_append (l1 l2 : List VbevzzLaw.Call) : ∀ (s : Vbevzz.State) (b : Building), made s (l1 ++ l2) b = made (stateFrom s l1) l2 (made s l1 b) := by
  induction l1 with
  | nil => intro s b; rfl
  | cons c l1 ih => intro s b; exact ih _ _
theorem building_append (P T : Nat) (l1 l2 : List VbevzzLaw.Call) : building P T (l1 ++ l2) = made (after P T l1) l2 (building P T l1) := by
  unfold building
  rw [made_append]
  rfl

/-! Answers -/
theorem answer_act {h : House} {call : VbevzzLaw.Call} (hno : NoOpen call) : answerTo (some h) call = (act h call).2 := by
  unfold answerTo; rw [stepRows_act hno]
theorem range_filter (n now : Nat) (h : now ≤ n) : (List.range n).filter (fun t => decide (now ≤ t)) = (List.range (n - now)).map (fun i => now + i) := by
  induction n with
  | zero => simp
  | succ n ih =>
    rw [List.range_succ, List.filter_append]
    by_cases e : now ≤ n
    · rw [ih e, show n + 1 - now = n - now + 1 by omega, List.range_succ, List.map_append]
      congr 1
      simp [e]
    · have : now = n + 1 := by omega
      subst this
      rw [Nat.sub_self]
      have : (List.range n).filter (fun t => decide (n + 1 ≤ t)) = [] := by
        rw [List.filter_eq_nil_iff]; intro a ha; rw [List.mem_range] at ha; simp; omega
      rw [this]; simp
theorem minutesOn_eq {h : House} (hn : h.now ≤ h.horizon) : minutesOn h = (List.range (h.horizon + 1 - h.now)).map (fun i => h.now + i) := range_filter _ _ (by omega)
theorem getD_nats_map (n : Nat) (f : Nat → Nat) (now : Nat) (i : Nat) (hi : i < n) : (nats (((List.range n).map (fun i => now + i)).map f)).getD i (-1) = (f (now + i) : Int) := by
  unfold nats
  simp [List.getD_eq_getElem?_getD, hi]
theorem told_getD (h : House) (l : List Nat) (i : Nat) : ((told h (counted l)).2).getD (2 + i) (-1) = (nats l).getD i (-1) := by
  show ((0 : Int) :: nat l.length :: nats l).getD (2 + i) (-1) = _
  rw [show 2 + i = (i + 1) + 1 by omega]
  simp only [List.getD_cons_succ]
theorem greatest_eq {P T : Nat} {h : House} {b : Building} (r : Rel P T h b) {t : Nat} (h1 : b.now ≤ t) (h2 : t ≤ T) : VbevzzLaw.greatest (some h) b.now t = (mostAt h t : Int) := by
  unfold VbevzzLaw.greatest
  rw [answer_act (by unfold NoOpen; decide)]
  show ((told h (counted (mostsOf h))).2).getD (2 + (t - b.now)) (-1) = _
  rw [told_getD, mostsOf_eq, minutesOn_eq r.ok.nowle]
  rw [getD_nats_map _ _ _ _ (by rw [r.horizon, r.now]; omega), r.now, show b.now + (t - b.now) = t by omega]

theorem outBy_eq {P T : Nat} {h : House} {b : Building} (r : Rel P T h b) (p : Pl) {t : Nat} (h1 : b.now ≤ t) (h2 : t ≤ T) :
    VbevzzLaw.outBy b T p t = h.out + (netOf (caseOf h)).came p 0 (t + 1) := by
  unfold VbevzzLaw.outBy
  rw [cameBy_eq b T p 0 t h1 h2, r.same.came p (by show 0 < b.here.length; rw [← r.here, r.ok.hlen]; exact r.ok.pos), r.out]
theorem possible_iff {P T : Nat} {h : House} {b : Building} (r : Rel P T h b) (p : Pl) : VbevzzLaw.IsPossible b T p ↔ (netOf (caseOf h)).Ok p := by
  rw [isPossible_iff, r.same.ok]

theorem oneIsBest : VbevzzLaw.OneIsBestAtEveryMinute := by
  intro P T calls hc hno
  obtain ⟨h, e, r⟩ := after_rel hc hno
  dsimp only
  rw [e]
  refine ⟨⟨getAt (bestPlan (caseOf h)), (possible_iff r _).mpr (best_plan_ok r.ok.case), ?_⟩, ?_⟩
  · intro t h1 h2
    rw [outBy_eq r _ h1 h2, greatest_eq r h1 h2]; rfl
  · intro p t hp h1 h2
    rw [outBy_eq r _ h1 h2, greatest_eq r h1 h2]
    have := most_le r.ok ((possible_iff r p).mp hp) (t := t) (by rw [r.horizon]; exact h2)
    omega

theorem through_congr (N : Net) {K L : Nat → Nat} (h : ∀ v, K v = L v) : N.through K = N.through L := by
  have : K = L := funext h
  rw [this]
theorem cutBy_length (c : Case) (t : Nat) : (cutBy c t).length = c.places := by
  unfold cutBy; simp
theorem toNat_getD (l : List Int) (v : Nat) : (l.getD v 0).toNat = (l.map Int.toNat).getD v 0 := by
  simp only [List.getD_eq_getElem?_getD, List.getElem?_map]
  cases l[v]? <;> simp
theorem late_toNat (l : List Int) (t v : Nat) : VbevzzLaw.lateFrom l t v = Vbevzz.late (l.map Int.toNat) t v := by
  unfold VbevzzLaw.lateFrom Vbevzz.late
  rw [toNat_getD]
theorem nats_toNat (l : List Nat) : (nats l).map Int.toNat = l := by
  unfold nats
  rw [List.map_map]
  have : (Int.toNat ∘ fun (n : Nat) => (n : Int)) = id := by funext x; simp
  rw [this, List.map_id]
theorem boundOf_through {P T : Nat} {h : House} {b : Building} (r : Rel P T h b) (cut : List Int) (t : Nat) :
    VbevzzLaw.boundOf b T cut t = h.out + Vbevzz.through (caseOf h) (cut.map Int.toNat) t := by
  rw [boundOf_eq, through_eq _ _ _ (fun g hg => (r.ok.case.groups g hg).1), r.same.through, r.out]
  congr 1
  exact through_congr _ (late_toNat cut t)

theorem cutsProveIt : VbevzzLaw.CutsProveIt := by
  intro P T calls t hc hno
  obtain ⟨h, e, r⟩ := after_rel hc hno
  dsimp only
  rw [e]
  intro h1 h2
  have hin : isIn (t : Int) (nat h.now) (nat h.horizon) = true := by
    rw [isIn_iff]; unfold nat; rw [r.now, r.horizon]; omega
  have hbc := best_came r.ok.case (t := t) (by show t ≤ h.horizon; rw [r.horizon]; exact h2)
  have hthr : ∀ x, Vbevzz.through (caseOf h) x t = (netOf (caseOf h)).through (Vbevzz.late x t) := fun x => through_eq _ _ _ (fun g hg => (r.ok.case.groups g hg).1)
  refine ⟨⟨nats (cutBy (caseOf h) t), ?_, ?_, ?_⟩, ?_⟩
  · unfold nats; rw [List.length_map, cutBy_length]; exact r.places
  · rw [answer_act (by show (13 : Int) ≠ 0; decide)]
    have ea : act h [[13, (t : Int)]] = if isIn (t : Int) (nat h.now) (nat h.horizon) = false then no h (-4) else told h (nat (h.out + Vbevzz.through (caseOf h) (cutBy (caseOf h) (t : Int).toNat) (t : Int).toNat) :: counted (cutBy (caseOf h) (t : Int).toNat)) := rfl
    rw [ea, hin, if_neg (by decide), Int.toNat_natCast]
    rw [greatest_eq r h1 h2]
    show (0 : Int) :: nat (h.out + Vbevzz.through (caseOf h) (cutBy (caseOf h) t) t) :: nat (cutBy (caseOf h) t).length :: nats (cutBy (caseOf h) t) = (0 : Int) :: (mostAt h t : Int) :: (P : Int) :: nats (cutBy (caseOf h) t)
    rw [hthr, ← hbc, cutBy_length, ← r.places]; rfl
  · rw [boundOf_through r, nats_toNat, greatest_eq r h1 h2, hthr, ← hbc]; rfl
  · intro cut hl hx
    refine ⟨?_, ?_⟩
    · rw [answer_act (by unfold NoOpen; simp)]
      have ea : act h [[14, (t : Int)], cut] = match natsIn cut 100 with
        | none => no h (-1)
        | some x => if x.length ≠ h.places then no h (-1) else if isIn (t : Int) (nat h.now) (nat h.horizon) = false then no h (-4) else told h [nat (h.out + Vbevzz.through (caseOf h) x (t : Int).toNat)] := rfl
      rw [ea, natsIn_of hx]
      dsimp only
      rw [if_neg (by rw [List.length_map, hl, r.places]; simp), hin, if_neg (by decide), Int.toNat_natCast, boundOf_through r]
      rfl
    · rw [greatest_eq r h1 h2, boundOf_through r, hthr]
      have := Net.weak r.ok.case.wf (best_plan_ok r.ok.case) (Vbevzz.late (cut.map Int.toNat) t)
      rw [show Vbevzz.late (cut.map Int.toNat) t 0 = t + 1 from rfl] at this
      unfold mostAt; omega

/-! Plans told as lists -/
theorem Net.left_congr {N : Net} {p q : Pl} (h : ∀ a, a < N.n → ∀ s, N.now ≤ s → s < N.T → p a s = q a s) (v k : Nat) : N.left p v k = N.left q v k := by
  apply sm_congr; intro a ha
  split
  · apply sm_congr; intro s hs
    split
    · rename_i hc; exact h a ha s hc.1 hs
    · rfl
  · rfl
theorem Net.came_congr {N : Net} {p q : Pl} (h : ∀ a, a < N.n → ∀ s, N.now ≤ s → s < N.T → p a s = q a s) (v k : Nat) : N.came p v k = N.came q v k := by
  unfold Net.came
  congr 1
  apply sm_congr; intro a ha
  split
  · apply sm_congr; intro s hs
    split
    · rename_i hc; exact h a ha s hc.1 hs
    · rfl
  · rfl
theorem Net.ok_congr {N : Net} {p q : Pl} (h : ∀ a, a < N.n → ∀ s, N.now ≤ s → s < N.T → p a s = q a s) : N.Ok p ↔ N.Ok q := by
  unfold Net.Ok
  constructor
  · rintro ⟨h1, h2⟩
    refine ⟨fun a ha s hs hs2 => by rw [← h a ha s hs hs2]; exact h1 a ha s hs hs2, fun v hv s hs hs2 => ?_⟩
    rw [← N.left_congr h, ← N.came_congr h]; exact h2 v hv s hs hs2
  · rintro ⟨h1, h2⟩
    refine ⟨fun a ha s hs hs2 => by rw [h a ha s hs hs2]; exact h1 a ha s hs hs2, fun v hv s hs hs2 => ?_⟩
    rw [N.left_congr h, N.came_congr h]; exact h2 v hv s hs hs2

theorem readPlan_eq {P T : Nat} {h : House} {b : Building} (r : Rel P T h b) (numbers : List Int) {a : Nat} (ha : a < h.ways.length) {s : Nat} (h1 : h.now ≤ s) (h2 : s < h.horizon) :
    Vbevzz.sent (Vbevzz.readPlan h (numbers.map Int.toNat)) a s = VbevzzLaw.planIn b T numbers a s := by
  unfold Vbevzz.sent Vbevzz.readPlan VbevzzLaw.planIn
  rw [toNat_getD, ← r.horizon, ← r.now]
  have e1 : ((List.range h.ways.length).map fun a => List.replicate h.now 0 ++ ((numbers.map Int.toNat).drop (a * (h.horizon - h.now))).take (h.horizon - h.now)).getD a [] = List.replicate h.now 0 ++ ((numbers.map Int.toNat).drop (a * (h.horizon - h.now))).take (h.horizon - h.now) := by
    simp [List.getD_eq_getElem?_getD, ha]
  rw [e1]
  generalize numbers.map Int.toNat = l
  simp only [List.getD_eq_getElem?_getD]
  rw [List.getElem?_append_right (by rw [List.length_replicate]; exact h1), List.length_replicate, List.getElem?_take, if_pos (by omega), List.getElem?_drop]

theorem plansAreJudged : VbevzzLaw.PlansAreJudged := by
  intro P T calls numbers hc hno
  obtain ⟨h, e, r⟩ := after_rel hc hno
  dsimp only
  rw [e]
  intro hl hx
  have agree : ∀ a, a < (netOf (caseOf h)).n → ∀ s, (netOf (caseOf h)).now ≤ s → s < (netOf (caseOf h)).T → Vbevzz.sent (Vbevzz.readPlan h (numbers.map Int.toNat)) a s = VbevzzLaw.planIn (building P T calls) T numbers a s :=
    fun a ha s h1 h2 => readPlan_eq r numbers ha h1 h2
  have hplan : Vbevzz.isPlan (caseOf h) (Vbevzz.readPlan h (numbers.map Int.toNat)) = true ↔ VbevzzLaw.IsPossible (building P T calls) T (VbevzzLaw.planIn (building P T calls) T numbers) := by
    rw [isPlan_iff, possible_iff r, Net.ok_congr agree]
  have ea : act h [[15], numbers] = match natsIn numbers (nat Vbevzz.PEOPLE) with
    | none => no h (-1)
    | some x => if x.length ≠ h.ways.length * (h.horizon - h.now) then no h (-1) else
      if Vbevzz.isPlan (caseOf h) (Vbevzz.readPlan h x) = false then no h (-5) else told h (counted ((minutesOn h).map fun t => h.out + Vbevzz.outBy (caseOf h) (Vbevzz.readPlan h x) t)) := rfl
  rw [answer_act (by unfold NoOpen; simp), ea, natsIn_of (hi := nat Vbevzz.PEOPLE) hx]
  dsimp only
  rw [if_neg (by rw [List.length_map, hl, r.nways, r.horizon, r.now]; simp)]
  refine ⟨?_, ?_⟩
  · cases hq : Vbevzz.isPlan (caseOf h) (Vbevzz.readPlan h (numbers.map Int.toNat)) with
    | true =>
      rw [if_neg (by decide)]
      exact ⟨fun _ => hplan.mp hq, fun _ => rfl⟩
    | false =>
      rw [if_pos rfl]
      constructor
      · intro z; exact absurd z (by show ¬ some (-5 : Int) = some 0; decide)
      · intro z; have := hplan.mpr z; rw [hq] at this; cases this
  · intro hp t h1 h2
    rw [hplan.mpr hp, if_neg (by decide), told_getD, minutesOn_eq r.ok.nowle, getD_nats_map _ _ _ _ (by rw [r.horizon, r.now]; omega), r.now, show (building P T calls).now + (t - (building P T calls).now) = t by omega]
    rw [outBy_eq r _ h1 h2]
    show ((h.out + Vbevzz.come (caseOf h) _ 0 t : Nat) : Int) = _
    rw [come_eq, Net.came_congr agree]
end Ev
namespace Ev
open Vbevzz (Case Plan House sumOf rateAt getAt setAt caseOf bestPlan cutBy enters shut canEnter canWalk walkOver nextMinute total mostsOf minutesOn orders natsIn isIn isPlaceZ isWayZ act stepRows told counted nat nats no step)
open VbevzzLaw (Building hereAt rateOf NoOpen changed made stateFrom answerTo after building CanOpen)

/-! Minute by minute -/
theorem most_now {h : House} (ok : HouseOk h) : mostAt h h.now = h.out + h.here.getD 0 0 := by
  unfold mostAt Net.came Net.into
  congr 1
  rw [cum_caseOf h 0 ok.pos]
  unfold cumH
  rw [if_pos (by omega), sm_zero (by intro t _; rw [if_neg (by omega)]), sm_zero]
  · rfl
  · intro a ha
    have w := ok.way _ (hy_mem ha)
    split
    · apply sm_zero; intro s _
      rw [if_neg]
      show ¬ (h.now ≤ s ∧ s + (hy h a).span < h.now + 1)
      omega
    · rfl
theorem outNow_eq {P T : Nat} {h : House} {b : Building} (r : Rel P T h b) : VbevzzLaw.outNow b = mostAt h h.now := by
  rw [most_now r.ok, r.here, r.out]; rfl

theorem follow_step {P T : Nat} {h : House} {b : Building} (r : Rel P T h b) (hT : h.now < h.horizon) :
    stepRows (some h) [[5]] = told (nextMinute (walkOver h 0 (orders h))) [nat (nextMinute (walkOver h 0 (orders h))).now, nat (Vbevzz.outNow (nextMinute (walkOver h 0 (orders h))))] ∧
    Rel P T (nextMinute (walkOver h 0 (orders h))) (VbevzzLaw.walked b (orders h)) ∧
    ∀ t, h.now < t → t ≤ h.horizon → mostAt (nextMinute (walkOver h 0 (orders h))) t = mostAt h t := by
  obtain ⟨o1, o2, p, o3, o4, o5⟩ := orders_ok r.ok hT
  have e0 : step h .follow = nextMinute (walkOver h 0 (orders h)) := by
    unfold step; dsimp only; rw [if_neg (by omega)]
  refine ⟨?_, walk_rel r hT o1 o2, ?_⟩
  · have : stepRows (some h) [[5]] = if h.horizon ≤ h.now then no h (-4) else told (step h .follow) [nat (step h .follow).now, nat (Vbevzz.outNow (step h .follow))] := rfl
    rw [this, if_neg (by omega), e0]
  · intro t h1 h2
    obtain ⟨zs, en⟩ := walkOver_ok (orders h) r.ok hT 0 (by omega) o2
    have hr := ((canWalk_iff (orders h) r.ok hT 0 (by omega)).mp o2).1
    exact (walk_most r.ok hT en hr t h1 h2).2 ⟨p, o3, o4 t (by omega) h2, o5⟩
theorem made_follow {h : House} {b : Building} {P T : Nat} (r : Rel P T h b) (hT : h.now < h.horizon) (rest : List VbevzzLaw.Call) :
    made (some h) ([[5]] :: rest) b = made (some (nextMinute (walkOver h 0 (orders h)))) rest (VbevzzLaw.walked b (orders h)) := by
  obtain ⟨f1, f2, f3⟩ := follow_step r hT
  show made (stepRows (some h) [[5]]).1 rest (if ((stepRows (some h) [[5]]).2).head? = some 0 then changed (stepRows (some h) [[4]]).2 b [[5]] else b) = _
  have e1 : changed (stepRows (some h) [[4]]).2 b [[5]] = VbevzzLaw.walked b (orders h) := by
    rw [← orders_answer h]; rfl
  rw [f1, e1]
  rfl

theorem follows_ok {P T : Nat} : ∀ (n : Nat) {h : House} {b : Building}, Rel P T h b → b.now + n ≤ T →
    (made (some h) (VbevzzLaw.follows n) b).now = b.now + n ∧ VbevzzLaw.outNow (made (some h) (VbevzzLaw.follows n) b) = mostAt h (b.now + n) := by
  intro n
  induction n with
  | zero =>
    intro h b r hn
    refine ⟨rfl, ?_⟩
    show VbevzzLaw.outNow b = mostAt h (b.now + 0)
    rw [outNow_eq r, ← r.now]; rfl
  | succ n ih =>
    intro h b r hn
    have hT : h.now < h.horizon := by rw [r.now, r.horizon]; omega
    obtain ⟨f1, f2, f3⟩ := follow_step r hT
    have e : VbevzzLaw.follows (n + 1) = [[5]] :: VbevzzLaw.follows n := rfl
    rw [e, made_follow r hT]
    have hnow : (VbevzzLaw.walked b (orders h)).now = b.now + 1 := rfl
    obtain ⟨i1, i2⟩ := ih f2 (by rw [hnow]; omega)
    rw [hnow] at i1 i2
    refine ⟨by rw [i1]; omega, ?_⟩
    rw [i2, show b.now + 1 + n = b.now + (n + 1) by omega]
    exact f3 _ (by rw [r.now]; omega) (by rw [r.horizon]; omega)

/-- a minute however walked, or a refusal -/
theorem walk_call {P T : Nat} {h : House} {b : Building} (r : Rel P T h b) {call : VbevzzLaw.Call} (hc : call = [[5]] ∨ ∃ numbers, call = [[6], numbers]) :
    ∃ g, (stepRows (some h) call).1 = some g ∧ (∀ b', Rel P T g b' → h.now ≤ g.now) ∧ h.now ≤ g.now ∧ ∀ t, g.now ≤ t → t ≤ T → mostAt g t ≤ mostAt h t := by
  rcases hc with rfl | ⟨numbers, rfl⟩
  · by_cases hT : h.now < h.horizon
    · obtain ⟨f1, f2, f3⟩ := follow_step r hT
      have hn : (nextMinute (walkOver h 0 (orders h))).now = h.now + 1 := by rw [f2.now, r.now]; rfl
      refine ⟨nextMinute (walkOver h 0 (orders h)), by rw [f1]; rfl, fun _ _ => by rw [hn]; omega, by rw [hn]; omega, ?_⟩
      intro t h1 h2
      rw [hn] at h1
      exact Nat.le_of_eq (f3 t (by omega) (by rw [r.horizon]; exact h2))
    · have : stepRows (some h) [[5]] = if h.horizon ≤ h.now then no h (-4) else told (step h .follow) [nat (step h .follow).now, nat (Vbevzz.outNow (step h .follow))] := rfl
      rw [this, if_pos (by omega)]
      exact ⟨h, rfl, fun _ _ => Nat.le_refl _, Nat.le_refl _, fun _ _ _ => Nat.le_refl _⟩
  · have ea : stepRows (some h) [[6], numbers] = match natsIn numbers (nat Vbevzz.PEOPLE) with
      | none => no h (-1)
      | some x => if h.horizon ≤ h.now then no h (-4) else if x.length ≠ h.ways.length then no h (-1) else if canWalk h 0 x = false then no h (-5) else told (step h (.walk x)) [nat (step h (.walk x)).now, nat (Vbevzz.outNow (step h (.walk x)))] := rfl
    have same : ∃ g, some h = some g ∧ (∀ b', Rel P T g b' → h.now ≤ g.now) ∧ h.now ≤ g.now ∧ ∀ t, g.now ≤ t → t ≤ T → mostAt g t ≤ mostAt h t :=
      ⟨h, rfl, fun _ _ => Nat.le_refl _, Nat.le_refl _, fun _ _ _ => Nat.le_refl _⟩
    rw [ea]
    split
    · exact same
    · rename_i x _
      split
      · exact same
      · split
        · exact same
        · split
          · exact same
          · rename_i c1 c2 c3
            have hT : h.now < h.horizon := by omega
            have c2 : x.length = h.ways.length := by simpa using c2
            have c3 : canWalk h 0 x = true := by simpa using c3
            have e0 : step h (.walk x) = nextMinute (walkOver h 0 x) := by
              unfold step; dsimp only; rw [if_neg]; rintro (z | z | z)
              · omega
              · exact z c2
              · rw [c3] at z; cases z
            rw [e0]
            obtain ⟨zs, en⟩ := walkOver_ok x r.ok hT 0 (by omega) c3
            have hr := ((canWalk_iff x r.ok hT 0 (by omega)).mp c3).1
            have hn : (nextMinute (walkOver h 0 x)).now = h.now + 1 := by show (walkOver h 0 x).now + 1 = _; rw [en.now]
            refine ⟨_, rfl, fun _ _ => by rw [hn]; omega, by rw [hn]; omega, ?_⟩
            intro t h1 h2
            rw [hn] at h1
            exact (walk_most r.ok hT en hr t (by omega) (by rw [r.horizon]; exact h2)).1

theorem walks_ok {P T : Nat} : ∀ (walks : List VbevzzLaw.Call) {h : House} {b : Building}, Rel P T h b → (∀ call ∈ walks, call = [[5]] ∨ ∃ numbers, call = [[6], numbers]) →
    b.now ≤ (made (some h) walks b).now ∧ (made (some h) walks b).now ≤ T ∧ VbevzzLaw.outNow (made (some h) walks b) ≤ mostAt h (made (some h) walks b).now := by
  intro walks
  induction walks with
  | nil =>
    intro h b r _
    refine ⟨Nat.le_refl _, by show b.now ≤ T; rw [← r.now, ← r.horizon]; exact r.ok.nowle, ?_⟩
    show VbevzzLaw.outNow b ≤ mostAt h b.now
    rw [outNow_eq r, r.now]; exact Nat.le_refl _
  | cons call walks ih =>
    intro h b r hc
    have hc1 := hc call (List.mem_cons_self ..)
    have hno : NoOpen call := by
      rcases hc1 with rfl | ⟨l, rfl⟩
      · show (5 : Int) ≠ 0; decide
      · show (6 : Int) ≠ 0; decide
    obtain ⟨g, g1, g2⟩ := step_rel r hno
    obtain ⟨g', k1, _, k3, k4⟩ := walk_call r hc1
    rw [g1] at k1
    cases Option.some.inj k1
    have em : made (some h) (call :: walks) b = made (some g) walks (if (stepRows (some h) call).2.head? = some 0 then changed (stepRows (some h) [[4]]).2 b call else b) := by
      show made (stepRows (some h) call).1 walks _ = _
      rw [g1]; rfl
    rw [em]
    obtain ⟨i1, i2, i3⟩ := ih g2 (fun c q => hc c (List.mem_cons_of_mem _ q))
    rw [← g2.now] at i1
    refine ⟨by rw [← r.now]; omega, i2, Nat.le_trans i3 (k4 _ i1 i2)⟩

theorem whoFollowsIsBest : VbevzzLaw.WhoFollowsIsBest := by
  intro P T calls hc hno
  obtain ⟨h, e, r⟩ := after_rel hc hno
  dsimp only
  rw [e]
  refine ⟨?_, ?_⟩
  · intro n hn
    rw [building_append, e]
    obtain ⟨f1, f2⟩ := follows_ok n r hn
    refine ⟨f1, ?_⟩
    rw [f2, greatest_eq r (by omega) hn]
  · intro walks hw
    rw [building_append, e]
    obtain ⟨f1, f2, f3⟩ := walks_ok walks r hw
    rw [greatest_eq r f1 f2]
    omega

/-! The house shows the building -/
theorem filter_lt (T now : Nat) (h : now ≤ T) : (List.range (T + 1)).filter (fun t => decide (now < t)) = (List.range (T - now)).map (fun i => now + 1 + i) := by
  have := range_filter (T + 1) (now + 1) (by omega)
  rw [show T + 1 - (now + 1) = T - now by omega] at this
  exact this
theorem minutesOn_drop {h : House} (hn : h.now ≤ h.horizon) : (minutesOn h).drop 1 = (List.range (h.horizon - h.now)).map (fun i => h.now + 1 + i) := by
  rw [minutesOn_eq hn, show h.horizon + 1 - h.now = (h.horizon - h.now) + 1 by omega, List.range_succ_eq_map]
  simp only [List.map_cons, List.drop_succ_cons, List.drop_zero, List.map_map]
  apply List.map_congr_left; intro i _
  simp only [Function.comp_def]; omega
theorem minutesOn_take {h : House} (hn : h.now ≤ h.horizon) : (minutesOn h).take (h.horizon - h.now) = (List.range (h.horizon - h.now)).map (fun i => h.now + i) := by
  rw [minutesOn_eq hn, ← List.map_take, List.take_range, Nat.min_eq_left (by omega)]

theorem showsWhatWasMade : VbevzzLaw.ShowsWhatWasMade := by
  intro P T calls hc hno
  obtain ⟨h, e, r⟩ := after_rel hc hno
  dsimp only
  rw [e]
  have hn := r.ok.nowle
  generalize building P T calls = b at r ⊢
  refine ⟨?_, ?_, ?_, ?_, ?_⟩
  · rw [answer_act (by show (7 : Int) ≠ 0; decide)]
    show [(0 : Int), nat h.now, nat (Vbevzz.outNow h), nat (total h)] = _
    have : Vbevzz.outNow h = VbevzzLaw.outNow b := by
      unfold Vbevzz.outNow VbevzzLaw.outNow hereAt; rw [r.out, r.here]
    rw [this, r.told, r.now]; rfl
  · rw [answer_act (by show (8 : Int) ≠ 0; decide)]
    show (0 : Int) :: nat h.here.length :: nats h.here = _
    rw [r.ok.hlen, r.places, r.here]; rfl
  · intro v hv
    rw [answer_act (by show (9 : Int) ≠ 0; decide)]
    have ea : act h [[9, (v : Int)]] = if isPlaceZ h v = false then no h (-3) else told h (counted ((minutesOn h).drop 1 |>.map fun t => getAt h.coming (v : Int).toNat t)) := rfl
    have hp : isPlaceZ h (v : Int) = true := by
      unfold isPlaceZ nat; rw [r.places]; simp; omega
    rw [ea, hp, if_neg (by decide), minutesOn_drop hn, filter_lt T _ (by rw [← r.now, ← r.horizon]; exact hn), ← r.now, ← r.horizon, Int.toNat_natCast]
    show (0 : Int) :: nat (List.map _ (List.map _ _)).length :: nats (List.map _ (List.map _ _)) = (0 : Int) :: _ :: _
    rw [List.length_map, List.length_map, List.length_range]
    unfold nat nats
    congr 2
    rw [List.map_map, List.map_map, List.map_map]
    apply List.map_congr_left
    intro i hi
    rw [List.mem_range] at hi
    show ((getAt h.coming v (h.now + 1 + i) : Nat) : Int) = ((b.coming v (h.now + 1 + i) : Nat) : Int)
    rw [r.coming v _ hv (by rw [r.now]; omega) (by rw [← r.horizon]; omega)]
  · rw [answer_act (by show (10 : Int) ≠ 0; decide)]
    show (0 : Int) :: nat h.ways.length :: h.ways.flatMap (fun w => nats [w.from_, w.to_, w.span]) = _
    rw [r.nways]
    show (0 : Int) :: nat _ :: _ = (0 : Int) :: _ :: _
    congr 2
    have key : h.ways.map (fun w => nats [w.from_, w.to_, w.span]) = b.ways.map (fun way => [(way.from_ : Int), (way.to_ : Int), (way.span : Int)]) := by
      apply List.ext_getElem
      · rw [List.length_map, List.length_map]; exact r.nways
      · intro i h1 h2
        rw [List.length_map] at h1 h2
        rw [List.getElem_map, List.getElem_map]
        have q := r.way i h2
        have e1 : hy h i = h.ways[i] := by unfold hy; simp [List.getD_eq_getElem?_getD, h1]
        have e2 : uy b i = b.ways[i] := by unfold uy; simp [List.getD_eq_getElem?_getD, h2]
        rw [e1, e2] at q
        show [((h.ways[i].from_ : Nat) : Int), ((h.ways[i].to_ : Nat) : Int), ((h.ways[i].span : Nat) : Int)] = _
        rw [q.1, q.2.1, q.2.2.1]
    rw [List.flatMap_def, List.flatMap_def, key]
    rfl
  · intro x hx
    obtain ⟨w, a⟩ := x
    obtain ⟨ha, hw⟩ := mem_zipIdx_uy hx
    subst hw
    rw [answer_act (by show (11 : Int) ≠ 0; decide)]
    have ea : act h [[11, (a : Int)]] = if isWayZ h a = false then no h (-3) else told h (counted (((minutesOn h).take (h.horizon - h.now)).map fun t => rateAt (h.ways.getD (a : Int).toNat ⟨0, 0, 1, []⟩) t)) := rfl
    have hp : isWayZ h (a : Int) = true := by
      unfold isWayZ nat; rw [r.nways]; simp; omega
    have em : VbevzzLaw.minutes b T = (List.range (T - h.now)).map (fun i => h.now + i) := by
      unfold VbevzzLaw.minutes; rw [← r.now]; exact range_filter _ _ (by rw [← r.horizon]; exact hn)
    show (act h [[11, (a : Int)]]).2 = _
    rw [ea, hp, if_neg (by decide), minutesOn_take hn, em, ← r.now, ← r.horizon, Int.toNat_natCast]
    show (0 : Int) :: nat (List.map _ (List.map _ _)).length :: nats (List.map _ (List.map _ _)) = (0 : Int) :: _ :: _
    rw [List.length_map, List.length_map, List.length_range]
    unfold nat nats
    congr 2
    rw [List.map_map, List.map_map, List.map_map]
    apply List.map_congr_left
    intro i hi
    show ((rateAt (h.ways.getD a ⟨0, 0, 1, []⟩) (h.now + i) : Nat) : Int) = ((rateOf (uy b a) (h.now + i) : Nat) : Int)
    have e1 : h.ways.getD a ⟨0, 0, 1, []⟩ = hy h a := by
      have : a < h.ways.length := by rw [r.nways]; exact ha
      unfold hy; simp [List.getD_eq_getElem?_getD, this]
    rw [e1, (r.way a ha).2.2.2.2 _ (by rw [r.now]; omega)]

/-! The house serves -/
theorem here_le_total {h : House} (ok : HouseOk h) (v : Nat) : h.here.getD v 0 ≤ total h := by
  rw [total_eq ok]
  by_cases hv : v < h.places
  · have := sm_mem_le (f := fun v => h.here.getD v 0) hv
    have this : h.here.getD v 0 ≤ sm h.places (fun v => h.here.getD v 0) := this
    omega
  · have : h.here.getD v 0 = 0 := by
      simp only [List.getD_eq_getElem?_getD]
      rw [List.getElem?_eq_none (by rw [ok.hlen]; omega)]; rfl
    omega
theorem walk_head (h : House) (numbers : List Int) :
    (act h [[6], numbers]).2.head? = some 0 ↔ (∀ x ∈ numbers, 0 ≤ x ∧ x ≤ 30) ∧ h.now < h.horizon ∧ numbers.length = h.ways.length ∧ canWalk h 0 (numbers.map Int.toNat) = true := by
  have ea : act h [[6], numbers] = match natsIn numbers (nat Vbevzz.PEOPLE) with
    | none => no h (-1)
    | some x => if h.horizon ≤ h.now then no h (-4) else if x.length ≠ h.ways.length then no h (-1) else if canWalk h 0 x = false then no h (-5) else told (step h (.walk x)) [nat (step h (.walk x)).now, nat (Vbevzz.outNow (step h (.walk x)))] := rfl
  have hno : ∀ e : Int, e ≠ 0 → ¬ (no h e).2.head? = some 0 := by
    intro e he z
    exact he (Option.some.inj z)
  rw [ea]
  constructor
  · cases hq : natsIn numbers (nat Vbevzz.PEOPLE) with
    | none => dsimp only; intro z; exact absurd z (hno _ (by decide))
    | some x =>
      obtain ⟨rfl, hx⟩ := natsIn_some hq
      dsimp only
      split
      · intro z; exact absurd z (hno _ (by decide))
      · split
        · intro z; exact absurd z (hno _ (by decide))
        · split
          · intro z; exact absurd z (hno _ (by decide))
          · rename_i c1 c2 c3
            intro _
            refine ⟨hx, by omega, ?_, by simpa using c3⟩
            simpa using c2
  · rintro ⟨h1, h2, h3, h4⟩
    rw [natsIn_of (hi := nat Vbevzz.PEOPLE) h1]
    dsimp only
    rw [if_neg (by omega), if_neg (by rw [List.length_map, h3]; simp), h4, if_neg (by decide)]
    rfl

theorem serves : VbevzzLaw.Serves := by
  intro P T calls hc hno
  obtain ⟨h, e, r⟩ := after_rel hc hno
  dsimp only
  rw [e]
  have hn := r.ok.nowle
  have leav : ∀ l v, VbevzzLaw.leaving (building P T calls) l v = Lv h (from_ 0 l) v := fun l v => leaving_eq r l v
  have heq : ∀ v, hereAt (building P T calls) v = h.here.getD v 0 := by intro v; unfold hereAt; rw [r.here]
  refine ⟨?_, ?_, ?_, ?_, ?_, ?_⟩
  · intro i j s rates g1 g2 g3 g4 g5 g6 g7 g8 g9
    rw [answer_act (by show (1 : Int) ≠ 0; decide)]
    have ea : act h [[1, (i : Int), (j : Int), (s : Int)], rates.map fun (x : Nat) => (x : Int)] = match natsIn (nats rates) Vbevzz.RATE with
      | none => no h (-1)
      | some x => if isIn s 1 20 = false ∨ x.length ≠ h.horizon then no h (-1) else if (isPlaceZ h i && isPlaceZ h j) = false ∨ (i : Int) = 0 ∨ (i : Int) = j then no h (-3) else if Vbevzz.WAYS ≤ h.ways.length then no h (-6) else told (step h (.way ⟨(i : Int).toNat, (j : Int).toNat, (s : Int).toNat, x⟩)) [nat h.ways.length] := rfl
    rw [ea, natsIn_of (hi := Vbevzz.RATE) (by
      intro x hx
      obtain ⟨y, hy', rfl⟩ := List.mem_map.mp hx
      have := g9 y hy'
      show (0 : Int) ≤ y ∧ (y : Int) ≤ 5
      omega), nats_toNat]
    dsimp only
    have c1 : isIn (s : Int) 1 20 = true := by rw [isIn_iff]; omega
    have c2 : isPlaceZ h (i : Int) = true := by unfold isPlaceZ nat; rw [r.places]; simp; omega
    have c3 : isPlaceZ h (j : Int) = true := by unfold isPlaceZ nat; rw [r.places]; simp; omega
    rw [c1, c2, c3, if_neg (by rw [g8, r.horizon]; simp), if_neg (by simp; omega), if_neg (by rw [r.nways]; show ¬ 8 ≤ _; omega)]
    rfl
  · intro v t n g1 g2 g3 g4 g5
    rw [answer_act (by show (2 : Int) ≠ 0; decide)]
    have ea : act h [[2, (v : Int), (t : Int), (n : Int)]] = if isIn n 1 (nat Vbevzz.PEOPLE) = false then no h (-1) else if isPlaceZ h v = false then no h (-3) else if isIn t (nat h.now) (nat h.horizon) = false then no h (-4) else if Vbevzz.PEOPLE < total h + (n : Int).toNat then no h (-6) else told (step h (.people (v : Int).toNat (t : Int).toNat (n : Int).toNat)) [nat (total (step h (.people (v : Int).toNat (t : Int).toNat (n : Int).toNat)))] := rfl
    have c1 : isIn (n : Int) 1 (nat Vbevzz.PEOPLE) = true := by rw [isIn_iff]; show (1 : Int) ≤ n ∧ (n : Int) ≤ ((30 : Nat) : Int); omega
    have c2 : isPlaceZ h (v : Int) = true := by unfold isPlaceZ nat; rw [r.places]; simp; omega
    have c3 : isIn (t : Int) (nat h.now) (nat h.horizon) = true := by rw [isIn_iff]; unfold nat; rw [r.now, r.horizon]; omega
    rw [ea, c1, c2, c3, if_neg (by decide), if_neg (by decide), if_neg (by decide), if_neg (by rw [r.told, Int.toNat_natCast]; show ¬ 30 < _; omega)]
    rfl
  · intro a t x g1 g2 g3 g4
    rw [answer_act (by show (3 : Int) ≠ 0; decide)]
    have ea : act h [[3, (a : Int), (t : Int), (x : Int)]] = if isIn x 0 Vbevzz.RATE = false then no h (-1) else if isWayZ h a = false then no h (-3) else if isIn t (nat h.now) (nat h.horizon - 1) = false then no h (-4) else told (step h (.rate (a : Int).toNat (t : Int).toNat (x : Int).toNat)) [] := rfl
    have c1 : isIn (x : Int) 0 Vbevzz.RATE = true := by rw [isIn_iff]; show (0 : Int) ≤ x ∧ (x : Int) ≤ 5; omega
    have c2 : isWayZ h (a : Int) = true := by unfold isWayZ nat; rw [r.nways]; simp; omega
    have c3 : isIn (t : Int) (nat h.now) (nat h.horizon - 1) = true := by rw [isIn_iff]; unfold nat; rw [r.now, r.horizon]; omega
    rw [ea, c1, c2, c3, if_neg (by decide), if_neg (by decide), if_neg (by decide)]
    rfl
  · intro numbers g1 g2 g3 g4 g5
    rw [answer_act (by show (6 : Int) ≠ 0; decide), walk_head]
    have en : (numbers.map fun (x : Nat) => (x : Int)).map Int.toNat = numbers := nats_toNat numbers
    have hT : h.now < h.horizon := by rw [r.now, r.horizon]; exact g1
    refine ⟨?_, hT, by rw [List.length_map, g2, r.nways], ?_⟩
    · intro x hx
      obtain ⟨y, hy', rfl⟩ := List.mem_map.mp hx
      have := g5 y hy'
      omega
    · rw [en, canWalk_iff _ r.ok hT 0 (by rw [g2, r.nways]; omega)]
      refine ⟨?_, ?_⟩
      · intro i hi
        rw [r.nways] at hi
        have := g3 _ (uy_mem_zipIdx hi)
        rw [r.now, (r.way i hi).2.2.2.2 _ (Nat.le_refl _)]
        exact this
      · intro v
        rw [← leav, ← heq]; exact g4 v
  · intro g1
    have hT : h.now < h.horizon := by rw [r.now, r.horizon]; exact g1
    obtain ⟨o1, o2, _⟩ := orders_ok r.ok hT
    have eo : (answerTo (some h) [[4]]).drop 2 = nats (orders h) := rfl
    rw [eo, answer_act (by show (6 : Int) ≠ 0; decide), walk_head]
    refine ⟨?_, hT, by unfold nats; rw [List.length_map, o1], by rw [nats_toNat]; exact o2⟩
    intro x hx
    obtain ⟨y, hy', rfl⟩ := List.mem_map.mp hx
    obtain ⟨i, hi, ei⟩ := List.getElem_of_mem hy'
    have hi2 : i < h.ways.length := by rw [← o1]; exact hi
    have cw := (canWalk_iff _ r.ok hT 0 (by omega)).mp o2
    have l1 := Lv_mem hi2 (from_ 0 (orders h))
    have l2 := cw.2 (hy h i).from_
    have l3 := here_le_total r.ok (hy h i).from_
    have l4 := r.few
    rw [← r.told] at l4
    have l5 : from_ 0 (orders h) i = y := by
      show (if 0 ≤ i then (orders h).getD (i - 0) 0 else 0) = y
      rw [if_pos (Nat.zero_le _), Nat.sub_zero]
      simp [List.getD_eq_getElem?_getD, hi, ei]
    rw [l5] at l1
    omega
  · intro numbers g
    rw [answer_act (by show (6 : Int) ≠ 0; decide), walk_head] at g
    obtain ⟨g1, g2, g3, g4⟩ := g
    have cw := (canWalk_iff _ r.ok g2 0 (by rw [List.length_map, g3]; omega)).mp g4
    refine ⟨by rw [← r.now, ← r.horizon]; exact g2, by rw [g3, r.nways], fun x hx => (g1 x hx).1, ?_, ?_⟩
    · intro x hx
      obtain ⟨w, a⟩ := x
      obtain ⟨ha, hw⟩ := mem_zipIdx_uy hx
      subst hw
      show (numbers.getD a 0).toNat ≤ rateOf (uy (building P T calls) a) (building P T calls).now
      have := cw.1 a (by rw [r.nways]; exact ha)
      rw [toNat_getD]
      rw [r.now, (r.way a ha).2.2.2.2 _ (Nat.le_refl _)] at this
      exact this
    · intro v
      rw [leav, heq]; exact cw.2 v
end Ev

theorem PySem.Challenge.cw_emptying_m01_mainlaw_law : VbevzzLaw.MainLaw :=
  ⟨Ev.oneIsBest, Ev.cutsProveIt, Ev.plansAreJudged, Ev.whoFollowsIsBest, Ev.showsWhatWasMade, Ev.serves⟩
