import Zz33Law
set_option Elab.async false

namespace RsP
open Rs Zz33Law

/-! ### lists of numbers -/
theorem below_nil : Below [] [] := ⟨rfl, fun _ => Nat.le_refl _⟩
theorem below_cons {x y : Nat} {a b : List Nat} : Below (x :: a) (y :: b) ↔ x ≤ y ∧ Below a b := by
  constructor
  · rintro ⟨hl, h⟩
    refine ⟨by simpa using h 0, by simpa using hl, fun i => by simpa using h (i + 1)⟩
  · rintro ⟨hx, hl, h⟩
    refine ⟨by simp [hl], fun i => ?_⟩
    cases i with
    | zero => simpa using hx
    | succ i => simpa using h i
theorem not_below_nil_cons {y : Nat} {b : List Nat} : ¬ Below [] (y :: b) := by
  rintro ⟨hl, _⟩; simp at hl
theorem not_below_cons_nil {y : Nat} {b : List Nat} : ¬ Below (y :: b) [] := by
  rintro ⟨hl, _⟩; simp at hl
theorem isBelow_iff : ∀ {a b : List Nat}, isBelow a b = true ↔ Below a b
  | [], [] => by simp [isBelow, below_nil]
  | [], y :: b => by simp [isBelow, not_below_nil_cons]
  | x :: a, [] => by simp [isBelow, not_below_cons_nil]
  | x :: a, y :: b => by simp [isBelow, below_cons, isBelow_iff (a := a) (b := b)]
theorem isBelow_false {a b : List Nat} : isBelow a b = false ↔ ¬ Below a b := by
  rw [← isBelow_iff]; simp
theorem below_refl (a : List Nat) : Below a a := ⟨rfl, fun _ => Nat.le_refl _⟩
theorem below_trans {a b c : List Nat} (h : Below a b) (k : Below b c) : Below a c :=
  ⟨h.1.trans k.1, fun i => Nat.le_trans (h.2 i) (k.2 i)⟩
theorem below_antisymm : ∀ {a b : List Nat}, Below a b → Below b a → a = b
  | [], [], _, _ => rfl
  | [], _ :: _, h, _ => absurd h not_below_nil_cons
  | _ :: _, [], h, _ => absurd h not_below_cons_nil
  | x :: a, y :: b, h, k => by
    rw [below_cons] at h k
    rw [below_antisymm h.2 k.2, Nat.le_antisymm h.1 k.1]
theorem mem_vectors : ∀ {c v : List Nat}, v ∈ vectors c ↔ Below v c
  | [], v => by
    cases v with
    | nil => simp [vectors, below_nil]
    | cons x v => simp [vectors, not_below_cons_nil]
  | c :: l, v => by
    cases v with
    | nil => simp [vectors, not_below_nil_cons]
    | cons x v =>
      simp only [vectors, List.mem_flatMap, List.mem_range, List.mem_map, below_cons]
      constructor
      · rintro ⟨y, hy, w, hw, e⟩
        cases e
        exact ⟨by omega, mem_vectors.1 hw⟩
      · rintro ⟨hx, hv⟩
        exact ⟨x, by omega, v, mem_vectors.2 hv, rfl⟩

/-- the order -/
theorem ahead_cons {x y : Nat} {a b : List Nat} : Ahead (x :: a) (y :: b) ↔ x < y ∨ x = y ∧ Ahead a b := Iff.rfl
theorem ahead_irrefl : ∀ {a : List Nat}, ¬ Ahead a a
  | [] => fun h => h
  | x :: a => by
    rw [ahead_cons]
    rintro (h | ⟨_, h⟩)
    · omega
    · exact ahead_irrefl h
theorem vectors_sorted : ∀ (c : List Nat), (vectors c).Pairwise Ahead
  | [] => by simp [vectors]
  | c :: l => by
    unfold vectors
    rw [List.pairwise_flatMap]
    refine ⟨fun x _ => ?_, ?_⟩
    · rw [List.pairwise_map]
      exact (vectors_sorted l).imp fun h => Or.inr ⟨rfl, h⟩
    · refine List.pairwise_lt_range.imp fun {x y} h u hu v hv => ?_
      rw [List.mem_map] at hu hv
      obtain ⟨u, _, rfl⟩ := hu
      obtain ⟨v, _, rfl⟩ := hv
      exact Or.inl h
theorem length_vectors : ∀ (c : List Nat) (n : Nat), (∀ x, x ∈ c → x ≤ n) → (vectors c).length ≤ (n + 1) ^ c.length
  | [], n, _ => by simp [vectors]
  | c :: l, n, h => by
    have e : (vectors (c :: l)).length = (c + 1) * (vectors l).length := by
      show ((List.range (c + 1)).flatMap fun x => (vectors l).map fun v => x :: v).length = _
      rw [List.length_flatMap]
      simp only [List.length_map, List.map_const', List.length_range]
      generalize (vectors l).length = q
      have : ∀ n : Nat, (List.replicate n q).sum = n * q := by
        intro n
        induction n with
        | zero => simp
        | succ n ih => rw [List.replicate_succ, List.sum_cons, ih, Nat.succ_mul, Nat.add_comm]
      exact this _
    rw [e, List.length_cons, Nat.pow_succ]
    have ih := length_vectors l n fun x hx => h x (List.mem_cons_of_mem _ hx)
    have h0 := h c List.mem_cons_self
    rw [Nat.mul_comm]
    exact Nat.mul_le_mul ih (by omega)

theorem plus_length : ∀ {a b : List Nat}, a.length = b.length → (plus a b).length = a.length
  | [], [], _ => rfl
  | x :: a, y :: b, h => by simp [plus, plus_length (by simpa using h : a.length = b.length)]
theorem minus_length : ∀ {a b : List Nat}, a.length = b.length → (minus a b).length = a.length
  | [], [], _ => rfl
  | x :: a, y :: b, h => by simp [minus, minus_length (by simpa using h : a.length = b.length)]
theorem minus_below : ∀ {a b : List Nat}, a.length = b.length → Below (minus a b) a
  | [], [], _ => below_nil
  | x :: a, y :: b, h => by
    simp only [minus, below_cons]
    exact ⟨by omega, minus_below (by simpa using h)⟩
/-- what there is room for -/
theorem room_iff : ∀ {r s f : List Nat}, Below s r → (Below f (minus r s) ↔ f.length = s.length ∧ Below (plus s f) r)
  | [], [], f, _ => by
    cases f with
    | nil => simp [minus, plus, below_nil]
    | cons x f => simp [minus, not_below_cons_nil]
  | [], _ :: _, f, h => absurd h not_below_cons_nil
  | _ :: _, [], f, h => absurd h not_below_nil_cons
  | y :: r, x :: s, f, h => by
    rw [below_cons] at h
    cases f with
    | nil => simp [minus, not_below_nil_cons]
    | cons z f =>
      have ih := room_iff (f := f) h.2
      simp only [minus, plus, below_cons, List.length_cons, ih]
      constructor
      · rintro ⟨a, b, c⟩
        exact ⟨by omega, by omega, c⟩
      · rintro ⟨a, b, c⟩
        exact ⟨by omega, by omega, c⟩
theorem const_below : ∀ {α : Type} {l : List α} {n : Nat} {t : List Nat}, Below t (l.map fun _ => n) ↔ t.length = l.length ∧ ∀ x, x ∈ t → x ≤ n
  | _, [], n, [] => by simp [below_nil]
  | _, [], n, x :: t => by simp [not_below_cons_nil]
  | _, _ :: _, n, [] => by simp [not_below_nil_cons]
  | _, a :: l, n, x :: t => by
    simp only [List.map_cons, below_cons, const_below, List.length_cons, List.mem_cons, forall_eq_or_imp]
    constructor
    · rintro ⟨h, k, m⟩
      exact ⟨by omega, h, m⟩
    · rintro ⟨h, k, m⟩
      exact ⟨k, by omega, m⟩
theorem mem_stocks {p : Shop} {s : Stock} : s ∈ stocksOf p ↔ IsStock p s := mem_vectors
theorem mem_fillings {p : Shop} {s f : Stock} (h : IsStock p s) : f ∈ fillings p s ↔ IsFilling p s f := by
  unfold fillings IsFilling
  rw [List.mem_filter, mem_vectors, room_iff h]
  simp [and_assoc]
theorem mem_takings {p : Shop} {t : Stock} : t ∈ takings p ↔ IsTaking p t := by
  unfold takings IsTaking
  rw [List.mem_filter, mem_vectors, const_below]
  simp [and_assoc]
theorem p_moves_exact : moves_exact := fun _ => ⟨fun _ => mem_stocks, fun _ _ h => mem_fillings h, fun _ => mem_takings⟩

theorem rooms_length (p : Shop) : (roomsOf p).length = p.shelves.length := by simp [roomsOf]
theorem stock_length {p : Shop} {s : Stock} (h : IsStock p s) : s.length = p.shelves.length := h.1.trans (rooms_length p)
theorem filled_stock {p : Shop} {s f : Stock} (h : IsFilling p s f) : IsStock p (plus s f) := h.2.1
theorem left_stock {p : Shop} {u t : Stock} (h : IsStock p u) (k : IsTaking p t) : IsStock p (minus u t) :=
  below_trans (minus_below ((stock_length h).trans k.1.symm)) h
theorem taking_zero (p : Shop) : IsTaking p (p.shelves.map fun _ => 0) := by
  refine ⟨by simp, fun x hx => ?_, ?_⟩
  · simp at hx; omega
  · have : ∀ l : List Shelf, totalOf (l.map fun _ => 0) = 0 := by
      intro l
      induction l with
      | nil => rfl
      | cons a l ih => simpa [totalOf] using ih
    rw [this]; omega

/-! ### what is kept -/
theorem staysIn_iff {p : Shop} {l : List Stock} {u : Stock} : staysIn p l u = true ↔ ∀ t, IsTaking p t → isBelow t u = true ∧ minus u t ∈ l := by
  unfold staysIn
  rw [List.all_eq_true]
  simp only [Bool.and_eq_true, List.contains_iff_mem]
  exact ⟨fun h t ht => h t (mem_takings.2 ht), fun h t ht => h t (mem_takings.1 ht)⟩
theorem isGood_iff {p : Shop} {l : List Stock} {s : Stock} (h : IsStock p s) : isGood p l s = true ↔ ∃ f, IsFilling p s f ∧ ∀ t, IsTaking p t → isBelow t (plus s f) = true ∧ minus (plus s f) t ∈ l := by
  unfold isGood
  rw [List.any_eq_true]
  constructor
  · rintro ⟨f, hf, k⟩
    exact ⟨f, (mem_fillings h).1 hf, staysIn_iff.1 k⟩
  · rintro ⟨f, hf, k⟩
    exact ⟨f, (mem_fillings h).2 hf, staysIn_iff.2 k⟩
theorem force_succ {p : Shop} : ∀ {n : Nat} {s : Stock}, CanForce p n s → CanForce p (n + 1) s
  | 0, _, h => absurd h id
  | n + 1, s, h => fun f hf => by
    obtain ⟨t, ht, k⟩ := h f hf
    exact ⟨t, ht, k.imp id force_succ⟩
theorem force_le {p : Shop} {n m : Nat} {s : Stock} (h : CanForce p n s) (k : n ≤ m) : CanForce p m s := by
  induction k with
  | refl => exact h
  | step _ ih => exact force_succ ih
theorem mem_kept {p : Shop} : ∀ {n : Nat} {s : Stock}, s ∈ kept p n ↔ IsStock p s ∧ ¬ CanForce p n s
  | 0, s => by
    show s ∈ stocksOf p ↔ _
    rw [mem_stocks]
    exact ⟨fun h => ⟨h, fun k => k⟩, fun h => h.1⟩
  | n + 1, s => by
    show s ∈ (kept p n).filter (isGood p (kept p n)) ↔ _
    rw [List.mem_filter, mem_kept (n := n)]
    constructor
    · rintro ⟨⟨h, _⟩, g⟩
      refine ⟨h, fun k => ?_⟩
      obtain ⟨f, hf, q⟩ := (isGood_iff h).1 g
      obtain ⟨t, ht, z⟩ := k f hf
      obtain ⟨q1, q2⟩ := q t ht
      rcases z with z | z
      · rw [z] at q1; cases q1
      · exact (mem_kept.1 q2).2 z
    · rintro ⟨h, k⟩
      refine ⟨⟨h, fun z => k (force_succ z)⟩, (isGood_iff h).2 ?_⟩
      apply Classical.byContradiction
      intro no
      refine k fun f hf => ?_
      apply Classical.byContradiction
      intro no2
      refine no ⟨f, hf, fun t ht => ?_⟩
      constructor
      · cases e : isBelow t (plus s f) with
        | true => rfl
        | false => exact absurd ⟨t, ht, Or.inl e⟩ no2
      · exact mem_kept.2 ⟨left_stock (filled_stock hf) ht, fun z => no2 ⟨t, ht, Or.inr z⟩⟩
theorem kept_sub {p : Shop} {n : Nat} {s : Stock} (h : s ∈ kept p n) : IsStock p s := (mem_kept.1 h).1
theorem shrink_fix {p : Shop} {l : List Stock} (h : (shrink p l).length = l.length) : shrink p l = l := by
  unfold shrink at *
  exact List.filter_eq_self.2 fun a ha => by
    have := List.length_filter_eq_length_iff.1 h
    exact this a ha
theorem shrink_lt {p : Shop} {l : List Stock} (h : ¬ (shrink p l).length = l.length) : (shrink p l).length < l.length := by
  have : (shrink p l).length ≤ l.length := List.length_filter_le _ _
  omega
theorem settle_kept {p : Shop} : ∀ (k n : Nat), (kept p n).length ≤ k → ∃ m, settle p k (kept p n) = kept p m ∧ m ≤ n + k ∧ shrink p (kept p m) = kept p m
  | 0, n, h => by
    refine ⟨n, rfl, Nat.le_refl _, ?_⟩
    have : kept p n = [] := List.length_eq_zero_iff.1 (by omega)
    rw [this]; rfl
  | k + 1, n, h => by
    unfold settle
    by_cases c : (shrink p (kept p n)).length = (kept p n).length
    · rw [if_pos c]
      exact ⟨n, rfl, by omega, shrink_fix c⟩
    · rw [if_neg c]
      have lt := shrink_lt c
      obtain ⟨m, e, hm, f⟩ := settle_kept (p := p) k (n + 1) (by show (shrink p (kept p n)).length ≤ k; omega)
      exact ⟨m, e, by omega, f⟩
theorem safe_kept (p : Shop) : ∃ m, safeStocks p = kept p m ∧ m ≤ bound p ∧ shrink p (kept p m) = kept p m := by
  obtain ⟨m, e, hm, f⟩ := settle_kept (p := p) (bound p) 0 (Nat.le_refl _)
  exact ⟨m, e, by omega, f⟩
theorem kept_stay {p : Shop} {m : Nat} (h : shrink p (kept p m) = kept p m) : ∀ k, kept p (m + k) = kept p m
  | 0 => rfl
  | k + 1 => by
    show shrink p (kept p (m + k)) = kept p m
    rw [kept_stay h k, h]
theorem mem_safe {p : Shop} {s : Stock} : s ∈ safeStocks p ↔ IsStock p s ∧ ∀ n, ¬ CanForce p n s := by
  obtain ⟨m, e, _, f⟩ := safe_kept p
  rw [e]
  constructor
  · intro h
    refine ⟨kept_sub h, fun n k => ?_⟩
    have q : s ∈ kept p (m + n) := by rw [kept_stay f]; exact h
    exact (mem_kept.1 q).2 (force_le k (by omega))
  · rintro ⟨h, k⟩
    exact mem_kept.2 ⟨h, k m⟩
theorem safe_good {p : Shop} {s : Stock} (h : s ∈ safeStocks p) : ∃ f, IsFilling p s f ∧ ∀ t, IsTaking p t → isBelow t (plus s f) = true ∧ minus (plus s f) t ∈ safeStocks p := by
  obtain ⟨m, e, _, f⟩ := safe_kept p
  rw [e] at h ⊢
  have q : s ∈ shrink p (kept p m) := by rw [f]; exact h
  exact (isGood_iff (kept_sub h)).1 (List.mem_filter.1 q).2
theorem keep_force {p : Shop} : ∀ (n : Nat) (s : Stock), CanKeep p s → ¬ CanForce p n s
  | 0, _, _ => fun h => h
  | n + 1, s, ⟨plan, k⟩ => fun h => by
    obtain ⟨r, e, hf⟩ := k [] (by simp)
    cases e
    obtain ⟨t, ht, z⟩ := h _ hf
    have one : isBelow t (plus s (plan s)) = true := by
      obtain ⟨r, e, _⟩ := k [t] (by simpa using ht)
      unfold playedOn at e
      by_cases c : isBelow t (plus s (plan s)) = true
      · exact c
      · rw [if_neg c] at e; cases e
    rcases z with z | z
    · rw [z] at one; cases one
    · refine keep_force n _ ⟨plan, fun l hl => ?_⟩ z
      obtain ⟨r, e, hr⟩ := k (t :: l) (by simpa using ⟨ht, hl⟩)
      unfold playedOn at e
      rw [if_pos one] at e
      exact ⟨r, e, hr⟩
theorem keep_stock {p : Shop} {s : Stock} (h : CanKeep p s) : IsStock p s := by
  obtain ⟨plan, k⟩ := h
  obtain ⟨r, e, hf⟩ := k [] (by simp)
  cases e
  have h1 := hf.2.1
  have h2 := hf.1
  have h3 : Below s (plus s (plan s)) := by
    clear h1 hf k
    generalize plan s = f at h2
    induction s generalizing f with
    | nil => cases f with
      | nil => exact below_nil
      | cons _ _ => simp at h2
    | cons x s ih => cases f with
      | nil => simp at h2
      | cons y f =>
        simp only [plus, below_cons]
        exact ⟨by omega, ih f (by simpa using h2)⟩
  exact below_trans h3 h1
theorem keep_iff {p : Shop} {s : Stock} : CanKeep p s ↔ s ∈ safeStocks p := by
  constructor
  · intro h
    exact mem_safe.2 ⟨keep_stock h, fun n => keep_force n s h⟩
  · intro h
    let plan : Stock → Stock := fun s => ((fillings p s).find? fun f => staysIn p (safeStocks p) (plus s f)).getD []
    have good : ∀ s, s ∈ safeStocks p → IsFilling p s (plan s) ∧ staysIn p (safeStocks p) (plus s (plan s)) = true := by
      intro s hs
      obtain ⟨f, hf, k⟩ := safe_good hs
      have st := (mem_safe.1 hs).1
      have some : ∃ g, (fillings p s).find? (fun f => staysIn p (safeStocks p) (plus s f)) = some g := by
        cases e : (fillings p s).find? (fun f => staysIn p (safeStocks p) (plus s f)) with
        | some g => exact ⟨g, rfl⟩
        | none =>
          rw [List.find?_eq_none] at e
          exact absurd (staysIn_iff.2 k) (e f ((mem_fillings st).2 hf))
      obtain ⟨g, e⟩ := some
      have pe : plan s = g := by show ((fillings p s).find? _).getD [] = g; rw [e]; rfl
      rw [pe]
      exact ⟨(mem_fillings st).1 (List.mem_of_find?_eq_some e), by simpa using List.find?_some e⟩
    refine ⟨plan, fun l hl => ?_⟩
    induction l generalizing s with
    | nil => exact ⟨s, rfl, (good s h).1⟩
    | cons t l ih =>
      obtain ⟨a, b⟩ := staysIn_iff.1 (good s h).2 t (hl t List.mem_cons_self)
      unfold playedOn
      rw [if_pos a]
      exact ih b fun x hx => hl x (List.mem_cons_of_mem _ hx)
theorem isSafe_iff {p : Shop} {s : Stock} : isSafe p s = true ↔ CanKeep p s := by
  unfold isSafe
  rw [List.contains_iff_mem, keep_iff]
theorem isSafe_false {p : Shop} {s : Stock} : isSafe p s = false ↔ ¬ CanKeep p s := by
  rw [← isSafe_iff]; simp
theorem not_keep_iff {p : Shop} {s : Stock} (h : IsStock p s) : ¬ CanKeep p s ↔ ∃ n, CanForce p n s := by
  rw [keep_iff, mem_safe]
  constructor
  · intro k
    apply Classical.byContradiction
    intro no
    exact k ⟨h, fun n z => no ⟨n, z⟩⟩
  · rintro ⟨n, z⟩ ⟨_, k⟩
    exact k n z
theorem p_safe_exact : safe_exact := fun _ _ h => ⟨isSafe_iff, isSafe_false.trans (not_keep_iff h)⟩
theorem staysWell_iff {p : Shop} {u : Stock} : staysIn p (safeStocks p) u = true ↔ StaysWell p u := by
  rw [staysIn_iff]
  exact ⟨fun h t ht => ⟨(h t ht).1, keep_iff.2 (h t ht).2⟩, fun h t ht => ⟨(h t ht).1, keep_iff.1 (h t ht).2⟩⟩
theorem doom_none {p : Shop} {s : Stock} (_ : IsStock p s) : doomOf p s = none ↔ CanKeep p s := by
  unfold doomOf
  constructor
  · intro e
    by_cases c : isSafe p s = true
    · exact isSafe_iff.1 c
    · rw [if_neg c, List.find?_eq_none] at e
      obtain ⟨m, em, hm, f⟩ := safe_kept p
      have := e m (by simp; omega)
      refine keep_iff.2 ?_
      rw [em]
      simpa using this
  · intro k
    rw [if_pos (isSafe_iff.2 k)]
theorem doom_some {p : Shop} {s : Stock} {n : Nat} (h : IsStock p s) (e : doomOf p s = some n) : n ≤ bound p ∧ CanForce p n s ∧ ∀ m, CanForce p m s → n ≤ m := by
  unfold doomOf at e
  by_cases c : isSafe p s = true
  · rw [if_pos c] at e; cases e
  · rw [if_neg c, List.find?_range_eq_some] at e
    obtain ⟨a, b, d⟩ := e
    have fr : ∀ m, CanForce p m s ↔ (!(kept p m).contains s) = true := by
      intro m
      rw [Bool.not_eq_true', ← Bool.not_eq_true, List.contains_iff_mem, mem_kept]
      exact ⟨fun z q => q.2 z, fun q => Classical.byContradiction fun z => q ⟨h, z⟩⟩
    refine ⟨by simp at b; omega, (fr n).2 a, fun m hm => ?_⟩
    have := (fr m).1 hm
    apply Classical.byContradiction
    intro lt
    have := d m (by omega)
    simp_all
theorem p_doom_exact : doom_exact := fun _ _ h => ⟨doom_none h, fun _ e => (doom_some h e).2⟩
end RsP

namespace RsP
open Rs Zz33Law

/-! ### more never hurts -/
/-- what lifts t to what s with f is -/
def lift : List Nat → List Nat → List Nat → List Nat
  | x :: t, y :: s, z :: f => (y + z - x) :: lift t s f
  | _, _, _ => []
theorem lift_facts : ∀ {t s f r : List Nat}, Below s t → Below t r → f.length = s.length → Below (plus s f) r →
    (lift t s f).length = t.length ∧ Below (plus t (lift t s f)) r ∧ totalOf (lift t s f) ≤ totalOf f ∧ onesOf (lift t s f) ≤ onesOf f ∧ Below (plus s f) (plus t (lift t s f))
  | [], [], [], r, _, h2, _, h4 => ⟨rfl, h2, Nat.le_refl _, Nat.le_refl _, below_nil⟩
  | [], [], _ :: _, r, _, _, h, _ => by simp at h
  | [], _ :: _, _, r, h, _, _, _ => absurd h not_below_cons_nil
  | _ :: _, [], _, r, h, _, _, _ => absurd h not_below_nil_cons
  | x :: t, y :: s, [], r, _, _, h, _ => by simp at h
  | x :: t, y :: s, z :: f, [], _, h, _, _ => absurd h not_below_cons_nil
  | x :: t, y :: s, z :: f, w :: r, h1, h2, h3, h4 => by
    simp only [plus, below_cons] at h1 h2 h4
    obtain ⟨a, b, c, d, e⟩ := lift_facts (f := f) h1.2 h2.2 (by simpa using h3) h4.2
    simp only [lift, plus, below_cons, List.length_cons, a, true_and]
    refine ⟨⟨by omega, b⟩, ?_, ?_, by omega, e⟩
    · simp only [totalOf, List.foldr_cons] at c ⊢
      omega
    · simp only [onesOf, List.filter_cons] at d ⊢
      by_cases q : 0 < z
      · rw [if_pos (by simpa using q : decide (0 < z) = true)]
        split <;> simp only [List.length_cons] <;> omega
      · have q0 : y + z - x = 0 := by omega
        rw [q0, if_neg (by simp), if_neg (by simpa using q)]
        exact d
theorem minus_mono : ∀ {a b t : List Nat}, Below a b → t.length = a.length → Below (minus a t) (minus b t)
  | [], [], [], _, _ => below_nil
  | [], [], _ :: _, _, h => by simp at h
  | [], _ :: _, _, h, _ => absurd h not_below_nil_cons
  | _ :: _, [], _, h, _ => absurd h not_below_cons_nil
  | x :: a, y :: b, [], _, h => by simp at h
  | x :: a, y :: b, z :: t, h, k => by
    simp only [minus, below_cons] at h ⊢
    exact ⟨by omega, minus_mono h.2 (by simpa using k)⟩
theorem force_mono {p : Shop} : ∀ {n : Nat} {s t : Stock}, IsStock p t → Below s t → CanForce p n t → CanForce p n s
  | 0, _, _, _, _, h => h
  | n + 1, s, t, ht, hb, h => fun f hf => by
    obtain ⟨a, b, c, d, e⟩ := lift_facts hb ht hf.1 hf.2.1
    obtain ⟨k, hk, z⟩ := h (lift t s f) ⟨a, b, Nat.le_trans c hf.2.2.1, Nat.le_trans d hf.2.2.2⟩
    refine ⟨k, hk, ?_⟩
    rcases z with z | z
    · refine Or.inl ?_
      rw [isBelow_false] at z ⊢
      exact fun q => z (below_trans q e)
    · by_cases q : isBelow k (plus s f) = true
      · refine Or.inr (force_mono (left_stock (p := p) b hk) (minus_mono e ?_) z)
        exact (isBelow_iff.1 q).1
      · exact Or.inl (by simpa using q)
theorem keep_mono {p : Shop} {s t : Stock} (ht : IsStock p t) (hb : Below s t) (h : CanKeep p s) : CanKeep p t := by
  rw [keep_iff, mem_safe] at h ⊢
  exact ⟨ht, fun n k => h.2 n (force_mono ht hb k)⟩
theorem p_more_told : more_told := fun _ _ _ _ ht hb h => isSafe_iff.2 (keep_mono ht hb (isSafe_iff.1 h))

/-! ### the first filling -/
theorem findSome_range {β : Type} {f : Nat → Option β} : ∀ {n : Nat} {b : β}, (List.range n).findSome? f = some b → ∃ k, k < n ∧ f k = some b ∧ ∀ j, j < k → f j = none
  | 0, b, h => by simp at h
  | n + 1, b, h => by
    rw [List.range_succ, List.findSome?_append] at h
    cases e : (List.range n).findSome? f with
    | some c =>
      rw [e] at h
      obtain ⟨k, hk, a, d⟩ := findSome_range e
      cases h
      exact ⟨k, by omega, a, d⟩
    | none =>
      rw [e] at h
      rw [List.findSome?_eq_none_iff] at e
      refine ⟨n, by omega, ?_, fun j hj => e j (by simpa using hj)⟩
      simpa using h
theorem find_first {α : Type} {R : α → α → Prop} {q : α → Bool} : ∀ {l : List α} {a : α}, l.Pairwise R → l.find? q = some a → ∀ b, b ∈ l → q b = true → b = a ∨ R a b
  | [], a, _, h => by simp at h
  | x :: l, a, hp, h => fun b hb hq => by
    rw [List.pairwise_cons] at hp
    by_cases c : q x = true
    · rw [List.find?_cons_of_pos c] at h
      cases h
      rcases List.mem_cons.1 hb with rfl | hb
      · exact Or.inl rfl
      · exact Or.inr (hp.1 b hb)
    · rw [List.find?_cons_of_neg c] at h
      rcases List.mem_cons.1 hb with rfl | hb
      · exact absurd hq c
      · exact find_first hp.2 h b hb hq
theorem good_keep {p : Shop} {s f : Stock} (h : IsStock p s) (hf : IsFilling p s f) (w : StaysWell p (plus s f)) : CanKeep p s := by
  apply Classical.byContradiction
  intro no
  obtain ⟨n, z⟩ := (not_keep_iff h).1 no
  cases n with
  | zero => exact z
  | succ n =>
    obtain ⟨t, ht, q⟩ := z f hf
    obtain ⟨a, b⟩ := w t ht
    rcases q with q | q
    · rw [a] at q; cases q
    · exact keep_force n _ b q
theorem fillings_sorted (p : Shop) (s : Stock) : (fillings p s).Pairwise Ahead := (vectors_sorted _).filter _
theorem takings_sorted (p : Shop) : (takings p).Pairwise Ahead := (vectors_sorted _).filter _
theorem stocks_sorted (p : Shop) : (stocksOf p).Pairwise Ahead := vectors_sorted _
theorem kept_sorted (p : Shop) : ∀ n, (kept p n).Pairwise Ahead
  | 0 => stocks_sorted p
  | n + 1 => (kept_sorted p n).filter _
theorem safe_sorted (p : Shop) : (safeStocks p).Pairwise Ahead := by
  obtain ⟨m, e, _⟩ := safe_kept p
  rw [e]
  exact kept_sorted p m
theorem filling_none {p : Shop} {s : Stock} (h : IsStock p s) : fillingOf p s = none ↔ ¬ CanKeep p s := by
  unfold fillingOf
  constructor
  · intro e k
    rw [List.findSome?_eq_none_iff] at e
    obtain ⟨f, hf, w⟩ := safe_good (keep_iff.1 k)
    have := e (totalOf f) (by simp; have := hf.2.2.1; omega)
    rw [List.find?_eq_none] at this
    have := this f ((mem_fillings h).2 hf)
    rw [staysIn_iff.2 w] at this
    simp at this
  · intro k
    rw [List.findSome?_eq_none_iff]
    intro x _
    rw [List.find?_eq_none]
    intro f hf q
    simp only [Bool.and_eq_true] at q
    exact k (good_keep h ((mem_fillings h).1 hf) (staysWell_iff.1 q.2))
theorem filling_some {p : Shop} {s f : Stock} (h : IsStock p s) (e : fillingOf p s = some f) : IsFilling p s f ∧ StaysWell p (plus s f) ∧ ∀ g, IsFilling p s g → StaysWell p (plus s g) → totalOf f ≤ totalOf g ∧ (totalOf g = totalOf f → g = f ∨ Ahead f g) := by
  unfold fillingOf at e
  obtain ⟨k, hk, a, b⟩ := findSome_range e
  have q := List.find?_some a
  have m := List.mem_of_find?_eq_some a
  simp only [Bool.and_eq_true, beq_iff_eq] at q
  refine ⟨(mem_fillings h).1 m, staysWell_iff.1 q.2, fun g hg wg => ⟨?_, fun eq => ?_⟩⟩
  · apply Classical.byContradiction
    intro lt
    have := b (totalOf g) (by omega)
    rw [List.find?_eq_none] at this
    have := this g ((mem_fillings h).2 hg)
    rw [staysWell_iff.2 wg] at this
    simp at this
  · refine find_first (fillings_sorted p s) a g ((mem_fillings h).2 hg) ?_
    rw [staysWell_iff.2 wg, eq, q.1]
    simp
theorem p_filling_exact : filling_exact := fun _ _ h => ⟨filling_none h, fun _ e => ⟨(filling_some h e).1, (filling_some h e).2.1, fun g a b => ((filling_some h e).2.2 g a b).1⟩⟩

/-! ### attacks -/
theorem sooner_fold {g : Stock → Option Nat} : ∀ (T : List Stock) (acc : Option (Nat × Stock)), T.Pairwise Ahead → (∀ e, acc = some e → ∀ t, t ∈ T → Ahead e.2 t) →
    ((T.map fun t => (g t).map fun n => (n, t)).foldl sooner acc = none → acc = none ∧ ∀ t, t ∈ T → g t = none) ∧
    ∀ e, (T.map fun t => (g t).map fun n => (n, t)).foldl sooner acc = some e → (acc = some e ∨ (e.2 ∈ T ∧ g e.2 = some e.1)) ∧ (∀ a, acc = some a → e.1 ≤ a.1 ∧ (a.1 = e.1 → a = e ∨ Ahead e.2 a.2)) ∧ ∀ t, t ∈ T → ∀ n, g t = some n → e.1 ≤ n ∧ (n = e.1 → t = e.2 ∨ Ahead e.2 t)
  | [], acc, _, _ => by
    refine ⟨fun h => ⟨h, by simp⟩, fun e h => ⟨Or.inl h, fun a ha => ?_, by simp⟩⟩
    have h' : acc = some e := h
    rw [h'] at ha
    cases ha
    exact ⟨Nat.le_refl _, fun _ => Or.inl rfl⟩
  | t :: T, acc, hp, ha => by
    rw [List.pairwise_cons] at hp
    simp only [List.map_cons, List.foldl_cons]
    have tr : ∀ (a b c : Stock), Ahead a b → Ahead b c → Ahead a c := by
      intro a
      induction a with
      | nil => intro b c h; exact absurd h id
      | cons x a ih =>
        intro b c h k
        cases b with
        | nil => exact absurd h id
        | cons y b => cases c with
          | nil => exact absurd k id
          | cons z c =>
            rw [ahead_cons] at h k ⊢
            rcases h with h | ⟨h, h'⟩ <;> rcases k with k | ⟨k, k'⟩
            · exact Or.inl (by omega)
            · exact Or.inl (by omega)
            · exact Or.inl (by omega)
            · exact Or.inr ⟨by omega, ih b c h' k'⟩
    cases gt : g t with
    | none =>
      have e1 : sooner acc (Option.map (fun n => (n, t)) none) = acc := by cases acc <;> rfl
      rw [e1]
      obtain ⟨i1, i2⟩ := sooner_fold (g := g) T acc hp.2 fun e he x hx => ha e he x (List.mem_cons_of_mem _ hx)
      refine ⟨fun h => ?_, fun e h => ?_⟩
      · obtain ⟨a, b⟩ := i1 h
        exact ⟨a, by simpa [gt] using b⟩
      · obtain ⟨a, b, c⟩ := i2 e h
        refine ⟨a.imp id fun q => ⟨List.mem_cons_of_mem _ q.1, q.2⟩, b, fun x hx n hn => ?_⟩
        rcases List.mem_cons.1 hx with rfl | hx
        · rw [gt] at hn; cases hn
        · exact c x hx n hn
    | some m =>
      cases acc with
      | none =>
        have e1 : sooner none (Option.map (fun n => (n, t)) (some m)) = some (m, t) := rfl
        rw [e1]
        obtain ⟨i1, i2⟩ := sooner_fold (g := g) T (some (m, t)) hp.2 fun e he x hx => by cases he; exact hp.1 x hx
        refine ⟨fun h => (nomatch (i1 h).1), fun e h => ?_⟩
        obtain ⟨a, b, c⟩ := i2 e h
        refine ⟨Or.inr ?_, (fun a h => nomatch h), fun x hx n hn => ?_⟩
        · rcases a with a | ⟨a, a'⟩
          · cases a; exact ⟨List.mem_cons_self, gt⟩
          · exact ⟨List.mem_cons_of_mem _ a, a'⟩
        · rcases List.mem_cons.1 hx with rfl | hx
          · rw [gt] at hn
            cases hn
            obtain ⟨b1, b2⟩ := b _ rfl
            exact ⟨b1, fun q => (b2 q).imp (fun w => by rw [← w]) id⟩
          · exact c x hx n hn
      | some w =>
        have hw := ha w rfl
        by_cases lt : m < w.1
        · have e1 : sooner (some w) (Option.map (fun n => (n, t)) (some m)) = some (m, t) := by
            show (if m < w.1 then some (m, t) else some w) = _
            rw [if_pos lt]
          rw [e1]
          obtain ⟨i1, i2⟩ := sooner_fold (g := g) T (some (m, t)) hp.2 fun e he x hx => by cases he; exact hp.1 x hx
          refine ⟨fun h => (nomatch (i1 h).1), fun e h => ?_⟩
          obtain ⟨a, b, c⟩ := i2 e h
          obtain ⟨b1, b2⟩ := b _ rfl
          dsimp only at b1 b2
          refine ⟨Or.inr ?_, fun a h => ?_, fun x hx n hn => ?_⟩
          · rcases a with a | ⟨a, a'⟩
            · cases a; exact ⟨List.mem_cons_self, gt⟩
            · exact ⟨List.mem_cons_of_mem _ a, a'⟩
          · cases h
            exact ⟨by omega, fun q => by omega⟩
          · rcases List.mem_cons.1 hx with rfl | hx
            · rw [gt] at hn
              cases hn
              exact ⟨b1, fun q => (b2 q).imp (fun w => by rw [← w]) id⟩
            · exact c x hx n hn
        · have e1 : sooner (some w) (Option.map (fun n => (n, t)) (some m)) = some w := by
            show (if m < w.1 then some (m, t) else some w) = _
            rw [if_neg lt]
          rw [e1]
          obtain ⟨i1, i2⟩ := sooner_fold (g := g) T (some w) hp.2 fun e he x hx => by cases he; exact hw x (List.mem_cons_of_mem _ hx)
          refine ⟨fun h => (nomatch (i1 h).1), fun e h => ?_⟩
          obtain ⟨a, b, c⟩ := i2 e h
          obtain ⟨b1, b2⟩ := b _ rfl
          refine ⟨a.imp id fun q => ⟨List.mem_cons_of_mem _ q.1, q.2⟩, b, fun x hx n hn => ?_⟩
          rcases List.mem_cons.1 hx with rfl | hx
          · rw [gt] at hn
            cases hn
            refine ⟨by omega, fun q => Or.inr ?_⟩
            rcases b2 (by omega) with r | r
            · rw [← r]; exact hw _ List.mem_cons_self
            · exact tr _ _ _ r (hw _ List.mem_cons_self)
          · exact c x hx n hn
theorem danger_none {p : Shop} {u t : Stock} (hu : IsStock p u) (ht : IsTaking p t) : dangerOf p u t = none ↔ isBelow t u = true ∧ CanKeep p (minus u t) := by
  unfold dangerOf
  by_cases c : isBelow t u = true
  · rw [if_pos c, doom_none (left_stock hu ht)]
    exact ⟨fun h => ⟨c, h⟩, fun h => h.2⟩
  · rw [if_neg c]
    exact ⟨fun h => (nomatch h), fun h => absurd h.1 c⟩
theorem attack_none {p : Shop} {u : Stock} (hu : IsStock p u) : attackOf p u = none ↔ StaysWell p u := by
  unfold attackOf
  rw [Option.map_eq_none_iff]
  obtain ⟨i1, i2⟩ := sooner_fold (g := dangerOf p u) (takings p) none (takings_sorted p) fun e h => by cases h
  constructor
  · intro h t ht
    exact (danger_none hu ht).1 ((i1 h).2 t (mem_takings.2 ht))
  · intro w
    generalize hr : List.foldl sooner none _ = r at *
    cases r with
    | none => rfl
    | some e =>
      obtain ⟨a, _, _⟩ := i2 e rfl
      rcases a with a | ⟨a, b⟩
      · cases a
      · have ht := mem_takings.1 a
        rw [(danger_none hu ht).2 (w _ ht)] at b
        cases b
theorem attack_some {p : Shop} {u g : Stock} (hu : IsStock p u) (e : attackOf p u = some g) : IsTaking p g ∧ ((isBelow g u = false ∧ ∀ r, IsTaking p r → isBelow r u = false → r = g ∨ Ahead g r) ∨
    (∀ r, IsTaking p r → isBelow r u = true) ∧ ∃ n, CanForce p n (minus u g) ∧ ∀ r m, IsTaking p r → CanForce p m (minus u r) → n ≤ m ∧ (m = n → r = g ∨ Ahead g r)) := by
  unfold attackOf at e
  rw [Option.map_eq_some_iff] at e
  obtain ⟨w, e, rfl⟩ := e
  obtain ⟨i1, i2⟩ := sooner_fold (g := dangerOf p u) (takings p) none (takings_sorted p) fun e h => by cases h
  obtain ⟨a, _, c⟩ := i2 w e
  rcases a with a | ⟨a, b⟩
  · cases a
  · have hg := mem_takings.1 a
    refine ⟨hg, ?_⟩
    by_cases q : isBelow w.2 u = true
    · refine Or.inr ?_
      unfold dangerOf at b
      rw [if_pos q] at b
      obtain ⟨_, d1, d2⟩ := doom_some (left_stock hu hg) b
      have pos : w.1 ≠ 0 := fun z => by rw [z] at d1; exact d1
      refine ⟨fun r hr => ?_, w.1, d1, fun r m hr hm => ?_⟩
      · apply Classical.byContradiction
        intro no
        have := (c r (mem_takings.2 hr) 0 (by unfold dangerOf; rw [if_neg no])).1
        omega
      · by_cases z : isBelow r u = true
        · have nk : ¬ CanKeep p (minus u r) := fun k => keep_force m _ k hm
          cases dr : doomOf p (minus u r) with
          | none => exact absurd ((doom_none (left_stock hu hr)).1 dr) nk
          | some n' =>
            obtain ⟨_, e1, e2⟩ := doom_some (left_stock hu hr) dr
            have := e2 m hm
            obtain ⟨f1, f2⟩ := c r (mem_takings.2 hr) n' (by unfold dangerOf; rw [if_pos z, dr])
            exact ⟨by omega, fun y => f2 (by omega)⟩
        · have := (c r (mem_takings.2 hr) 0 (by unfold dangerOf; rw [if_neg z])).1
          omega
    · have b0 : w.1 = 0 := by
        unfold dangerOf at b
        rw [if_neg q] at b
        exact (Option.some.inj b).symm
      refine Or.inl ⟨by simpa using q, fun r hr z => ?_⟩
      exact (c r (mem_takings.2 hr) 0 (by unfold dangerOf; rw [if_neg (by simp [z])])).2 b0.symm
theorem p_attack_exact : attack_exact := fun p u h => ⟨attack_none h, fun t e => by
  obtain ⟨a, b⟩ := attack_some h e
  refine ⟨a, b.imp (fun q => q.1) fun q => ⟨q.1, ?_⟩⟩
  obtain ⟨_, n, c, d⟩ := q
  exact ⟨n, c, fun r m hr hm => (d r m hr hm).1⟩⟩

/-! ### least stocks -/
theorem total_lt : ∀ {a b : List Nat}, Below a b → a ≠ b → totalOf a < totalOf b
  | [], [], _, h => absurd rfl h
  | [], _ :: _, h, _ => absurd h not_below_nil_cons
  | _ :: _, [], h, _ => absurd h not_below_cons_nil
  | x :: a, y :: b, h, k => by
    rw [below_cons] at h
    simp only [totalOf, List.foldr_cons]
    by_cases c : a = b
    · subst c
      have : x ≠ y := fun z => k (by rw [z])
      omega
    · have := total_lt h.2 c
      simp only [totalOf] at this
      omega
theorem mem_least {p : Shop} {s : Stock} : s ∈ leastOf p ↔ IsStock p s ∧ CanKeep p s ∧ ∀ t, IsStock p t → CanKeep p t → Below t s → t = s := by
  unfold leastOf
  rw [List.mem_filter, List.all_eq_true]
  constructor
  · rintro ⟨a, b⟩
    refine ⟨(mem_safe.1 a).1, keep_iff.2 a, fun t _ kt hb => ?_⟩
    have := b t (keep_iff.1 kt)
    rw [isBelow_iff.2 hb] at this
    simpa using this
  · rintro ⟨a, b, c⟩
    refine ⟨keep_iff.1 b, fun t ht => ?_⟩
    by_cases q : isBelow t s = true
    · have := c t (mem_safe.1 ht).1 (keep_iff.2 ht) (isBelow_iff.1 q)
      simp [this]
    · simp [q]
theorem keep_least {p : Shop} : ∀ (n : Nat) {s : Stock}, totalOf s ≤ n → CanKeep p s → ∃ t, t ∈ leastOf p ∧ Below t s
  | n, s, hn, k => by
    by_cases c : ∀ t, IsStock p t → CanKeep p t → Below t s → t = s
    · exact ⟨s, mem_least.2 ⟨keep_stock k, k, c⟩, below_refl s⟩
    · simp only [Classical.not_forall] at c
      obtain ⟨t, _, kt, hb, ne⟩ := c
      have lt := total_lt hb ne
      cases n with
      | zero => omega
      | succ n =>
        obtain ⟨u, hu, b⟩ := keep_least n (by omega) kt
        exact ⟨u, hu, below_trans b hb⟩
theorem keep_iff_least {p : Shop} {s : Stock} (h : IsStock p s) : CanKeep p s ↔ ∃ t, t ∈ leastOf p ∧ Below t s :=
  ⟨fun k => keep_least _ (Nat.le_refl _) k, fun ⟨_, a, b⟩ => keep_mono h b (mem_least.1 a).2.1⟩
theorem p_least_exact : least_exact := fun _ => ⟨fun _ => mem_least, fun _ h => keep_iff_least h⟩
theorem least_sorted (p : Shop) : (leastOf p).Pairwise Ahead := (safe_sorted p).filter _

/-! ### other sizes, partings, rounds -/
theorem find_up {q : Nat → Bool} {m : Nat} : (∀ n, ((List.range m).map fun i => i + 1).find? q = some n → 1 ≤ n ∧ n ≤ m ∧ q n = true ∧ ∀ k, 1 ≤ k → k ≤ m → q k = true → n ≤ k) ∧ (((List.range m).map fun i => i + 1).find? q = none → ∀ k, 1 ≤ k → k ≤ m → q k = false) := by
  rw [List.find?_map]
  refine ⟨fun n h => ?_, fun h k h1 h2 => ?_⟩
  · rw [Option.map_eq_some_iff] at h
    obtain ⟨a, e, rfl⟩ := h
    rw [List.find?_range_eq_some] at e
    obtain ⟨x, y, z⟩ := e
    rw [List.mem_range] at y
    refine ⟨by omega, by omega, x, fun k k1 k2 hk => ?_⟩
    apply Classical.byContradiction
    intro lt
    have := z (k - 1) (by omega)
    simp only [Function.comp] at this
    rw [show k - 1 + 1 = k by omega, hk] at this
    cases this
  · rw [Option.map_eq_none_iff, List.find?_eq_none] at h
    have := h (k - 1) (by simp; omega)
    simp only [Function.comp] at this
    rw [show k - 1 + 1 = k by omega] at this
    simpa using this
theorem p_fewest_exact : fewest_exact := fun p => by
  obtain ⟨a, b⟩ := find_up (q := fun n => fullSafe (withItems p n)) (m := mostItems)
  obtain ⟨c, d⟩ := find_up (q := fun n => fullSafe (withOnto p n)) (m := p.shelves.length)
  have w1 : ∀ n, fullSafe (withItems p n) = true ↔ CanKeep (withItems p n) (roomsOf p) := fun n => isSafe_iff
  have w2 : ∀ n, fullSafe (withOnto p n) = true ↔ CanKeep (withOnto p n) (roomsOf p) := fun n => isSafe_iff
  refine ⟨fun n h => ?_, fun h m h1 h2 k => ?_, fun n h => ?_, fun h m h1 h2 k => ?_⟩
  · obtain ⟨x, y, z, t⟩ := a n h
    exact ⟨x, y, (w1 n).1 z, fun m m1 m2 k => t m m1 m2 ((w1 m).2 k)⟩
  · have := b h m h1 h2
    rw [(w1 m).2 k] at this
    cases this
  · obtain ⟨x, y, z, t⟩ := c n h
    exact ⟨x, y, (w2 n).1 z, fun m m1 m2 k => t m m1 m2 ((w2 m).2 k)⟩
  · have := d h m h1 h2
    rw [(w2 m).2 k] at this
    cases this
theorem differ_iff {p q : Shop} {s : Stock} : (isSafe p s != isSafe q s) = true ↔ ¬ (CanKeep p s ↔ CanKeep q s) := by
  rw [← isSafe_iff, ← isSafe_iff]
  cases isSafe p s <;> cases isSafe q s <;> simp
theorem parting_none {p q : Shop} : partingOf p q = none ↔ ∀ s, IsStock p s → (CanKeep p s ↔ CanKeep q s) := by
  unfold partingOf
  rw [List.find?_eq_none]
  constructor
  · intro h s hs
    have := h s (mem_stocks.2 hs)
    rw [differ_iff] at this
    exact Classical.not_not.1 this
  · intro h s hs
    rw [differ_iff]
    exact fun z => z (h s (mem_stocks.1 hs))
theorem parting_some {p q : Shop} {s : Stock} (e : partingOf p q = some s) : IsStock p s ∧ ¬ (CanKeep p s ↔ CanKeep q s) ∧ ∀ v, IsStock p v → ¬ (CanKeep p v ↔ CanKeep q v) → v = s ∨ Ahead s v := by
  unfold partingOf at e
  exact ⟨mem_stocks.1 (List.mem_of_find?_eq_some e), differ_iff.1 (by simpa using List.find?_some e), fun v hv k => find_first (stocks_sorted p) e v (mem_stocks.2 hv) (differ_iff.2 k)⟩
theorem p_parting_exact : parting_exact := fun _ _ _ => ⟨parting_none, fun _ e => ⟨(parting_some e).1, (parting_some e).2.1⟩⟩
theorem p_round_exact : round_exact := fun r _ => by
  refine ⟨fun o => ?_, fun o => ?_⟩
  · unfold isWell hintOf
    rw [if_pos o, if_pos o]
    exact ⟨staysWell_iff, rfl⟩
  · unfold isWell hintOf
    rw [if_neg (by simp [o]), if_neg (by simp [o])]
    exact ⟨isSafe_iff, rfl⟩
end RsP

namespace RsP
open Rs Zz33Law

/-! ### lines and words -/
theorem part_none {c : UInt16} : ∀ {u acc : Units}, c ∉ u → partAt c u acc = [acc.reverse ++ u]
  | [], acc, _ => by simp [partAt]
  | x :: r, acc, h => by
    rw [List.mem_cons] at h
    have h1 : ¬ x = c := fun e => h (Or.inl e.symm)
    rw [partAt, if_neg h1, part_none fun k => h (Or.inr k)]
    simp
theorem part_some {c : UInt16} {r : Units} : ∀ {u acc : Units}, c ∉ u → partAt c (u ++ c :: r) acc = (acc.reverse ++ u) :: partAt c r []
  | [], acc, _ => by simp [partAt]
  | x :: u, acc, h => by
    rw [List.mem_cons] at h
    have h1 : ¬ x = c := fun e => h (Or.inl e.symm)
    rw [List.cons_append, partAt, if_neg h1, part_some fun k => h (Or.inr k)]
    simp
theorem part_join {c : UInt16} : ∀ {l : List Units}, l ≠ [] → (∀ u, u ∈ l → c ∉ u) → partAt c (joinWith c l) [] = l
  | [], h, _ => absurd rfl h
  | [u], _, h => by
    rw [joinWith, part_none (h u List.mem_cons_self)]
    rfl
  | u :: v :: r, _, h => by
    rw [joinWith, part_some (h u List.mem_cons_self), part_join (by simp) fun x hx => h x (List.mem_cons_of_mem _ hx)]
    · rfl
    · simp
theorem p_lines_read : lines_read := fun _ h k => part_join h k
theorem p_words_read : words_read := fun l h => by
  unfold wordsOf
  cases l with
  | nil => rfl
  | cons u r =>
    rw [part_join (by simp) fun x hx => (h x hx).2]
    rw [List.filter_eq_self]
    intro x hx
    have := (h x hx).1
    cases x with
    | nil => exact absurd rfl this
    | cons a b => rfl
theorem p_faults_exact : faults_exact := by
  intro α f m s n l
  induction l generalizing m s with
  | nil => intro h; cases h
  | cons u r ih =>
    intro h
    unfold readLines at h
    by_cases c : wordsOf u = []
    · rw [if_pos c] at h
      obtain ⟨a, t, v, h1, h2, h3, h4⟩ := ih (m + 1) s h
      refine ⟨by omega, t, v, ?_, ?_, h3, h4⟩
      · rw [show n - m = (n - (m + 1)) + 1 by omega, List.take_succ_cons, readLines, if_pos c]
        exact h1
      · rw [show n - m = (n - (m + 1)) + 1 by omega, List.getElem?_cons_succ]
        exact h2
    · rw [if_neg c] at h
      cases e : f s (wordsOf u) with
      | none =>
        rw [e] at h
        cases h
        refine ⟨Nat.le_refl _, s, u, ?_, ?_, c, e⟩
        · rw [Nat.sub_self]; rfl
        · rw [Nat.sub_self]; rfl
      | some w =>
        rw [e] at h
        obtain ⟨a, t, v, h1, h2, h3, h4⟩ := ih (m + 1) w h
        refine ⟨by omega, t, v, ?_, ?_, h3, h4⟩
        · rw [show n - m = (n - (m + 1)) + 1 by omega, List.take_succ_cons, readLines, if_neg c, e]
          exact h1
        · rw [show n - m = (n - (m + 1)) + 1 by omega, List.getElem?_cons_succ]
          exact h2
theorem digit_of_units {n : Nat} (h1 : 1 ≤ n) (h2 : n ≤ 9) : digitOf (digitUnits n) = some n := by
  have : ∀ n : Fin 10, 1 ≤ n.val → digitOf (digitUnits n.val) = some n.val := by decide +kernel
  exact this ⟨n, by omega⟩ h1
theorem digit_some {u : Units} {n : Nat} (h : digitOf u = some n) : 1 ≤ n ∧ n ≤ 9 ∧ u = digitUnits n := by
  match u, h with
  | [c], h =>
    unfold digitOf at h
    dsimp only at h
    by_cases k : 49 ≤ c ∧ c ≤ 57
    · rw [if_pos k] at h
      cases h
      have k1 : 49 ≤ c.toNat := UInt16.le_iff_toNat_le.1 k.1
      have k2 : c.toNat ≤ 57 := UInt16.le_iff_toNat_le.1 k.2
      refine ⟨by omega, by omega, ?_⟩
      unfold digitUnits
      congr 1
      rw [show 48 + (c.toNat - 48) = c.toNat by omega]
      exact (UInt16.ofNat_toNat).symm
    · rw [if_neg k] at h; cases h
  | [], h => cases h
  | _ :: _ :: _, h => cases h
theorem p_digits_read : digits_read := ⟨fun _ => digit_of_units, fun _ _ h => digit_some h⟩

/-! ### shops are read -/
theorem read_keeps {α : Type} {f : α → List Units → Option α} {P : α → Prop} (hf : ∀ s w t, P s → f s w = some t → P t) : ∀ {l : List Units} {m : Nat} {s t : α}, P s → readLines f m s l = .ok t → P t
  | [], _, _, _, h, e => by
    unfold readLines at e
    cases e
    exact h
  | u :: r, m, s, t, h, e => by
    unfold readLines at e
    by_cases c : wordsOf u = []
    · rw [if_pos c] at e
      exact read_keeps hf h e
    · rw [if_neg c] at e
      cases k : f s (wordsOf u) with
      | none => rw [k] at e; cases e
      | some w =>
        rw [k] at e
        exact read_keeps hf (hf _ _ _ h k) e
theorem number_to {m : Nat} {u : Units} {n : Nat} (h : numberTo m u = some n) : 1 ≤ n ∧ n ≤ 9 ∧ n ≤ m ∧ u = digitUnits n := by
  unfold numberTo at h
  rw [Option.bind_eq_some_iff] at h
  obtain ⟨k, e, h⟩ := h
  by_cases c : k ≤ m
  · rw [if_pos c] at h
    cases h
    obtain ⟨a, b, d⟩ := digit_some e
    exact ⟨a, b, c, d⟩
  · rw [if_neg c] at h; cases h
theorem number_of {m n : Nat} (h1 : 1 ≤ n) (h2 : n ≤ 9) (h3 : n ≤ m) : numberTo m (digitUnits n) = some n := by
  unfold numberTo
  rw [digit_of_units h1 h2]
  show (if n ≤ m then some n else none) = some n
  rw [if_pos h3]
def Draft (d : Reading) : Prop := (d.shop.shelves.length ≤ 3 ∧ (shelfNames d.shop.shelves).Nodup ∧ ∀ s, s ∈ d.shop.shelves → isName s.name = true ∧ 1 ≤ s.room ∧ s.room ≤ 4) ∧
  (d.stage ≠ 0 → 1 ≤ d.shop.shelves.length ∧ 1 ≤ d.shop.taken ∧ d.shop.taken ≤ 4 ∧ 1 ≤ d.shop.ofOne ∧ d.shop.ofOne ≤ d.shop.taken) ∧
  (d.stage = 2 → 1 ≤ d.shop.items ∧ d.shop.items ≤ 9 ∧ 1 ≤ d.shop.onto ∧ d.shop.onto ≤ d.shop.shelves.length)
theorem shelf_from {l : List Units} {s : Shelf} (h : shelfFrom l = some s) : isName s.name = true ∧ 1 ≤ s.room ∧ s.room ≤ 4 := by
  match l, h with
  | [a, u, n], h =>
    unfold shelfFrom at h
    dsimp only at h
    split at h
    · rename_i c
      rw [Option.map_eq_some_iff] at h
      obtain ⟨k, e, rfl⟩ := h
      simp only [Bool.and_eq_true] at c
      have := number_to e
      exact ⟨c.2, this.1, this.2.2.1⟩
    · cases h
  | [], h => cases h
  | [_], h => cases h
  | [_, _], h => cases h
  | _ :: _ :: _ :: _ :: _, h => cases h
theorem customers_from {l : List Units} {e : Nat × Nat} (h : customersFrom l = some e) : 1 ≤ e.1 ∧ e.1 ≤ 4 ∧ 1 ≤ e.2 ∧ e.2 ≤ e.1 := by
  match l, h with
  | [a, n, b, k], h =>
    unfold customersFrom at h
    dsimp only at h
    split at h
    · rw [Option.bind_eq_some_iff] at h
      obtain ⟨x, ex, h⟩ := h
      rw [Option.map_eq_some_iff] at h
      obtain ⟨y, ey, rfl⟩ := h
      have h1 := number_to ex
      have h2 := number_to ey
      exact ⟨h1.1, h1.2.2.1, h2.1, h2.2.2.1⟩
    · cases h
  | [], h => cases h
  | [_], h => cases h
  | [_, _], h => cases h
  | [_, _, _], h => cases h
  | _ :: _ :: _ :: _ :: _ :: _, h => cases h
theorem stocker_from {m : Nat} {l : List Units} {e : Nat × Nat} (h : stockerFrom m l = some e) : 1 ≤ e.1 ∧ e.1 ≤ 9 ∧ 1 ≤ e.2 ∧ e.2 ≤ m := by
  match l, h with
  | [a, n, b, k], h =>
    unfold stockerFrom at h
    dsimp only at h
    split at h
    · rw [Option.bind_eq_some_iff] at h
      obtain ⟨x, ex, h⟩ := h
      rw [Option.map_eq_some_iff] at h
      obtain ⟨y, ey, rfl⟩ := h
      have h1 := number_to ex
      have h2 := number_to ey
      exact ⟨h1.1, h1.2.2.1, h2.1, h2.2.2.1⟩
    · cases h
  | [], h => cases h
  | [_], h => cases h
  | [_, _], h => cases h
  | [_, _, _], h => cases h
  | _ :: _ :: _ :: _ :: _ :: _, h => cases h
theorem draft_line (d : Reading) (w : List Units) (e : Reading) (h : Draft d) (k : readShopLine d w = some e) : Draft e := by
  obtain ⟨⟨a1, a2, a3⟩, b, c⟩ := h
  unfold readShopLine at k
  by_cases s0 : d.stage = 0
  · rw [if_pos s0] at k
    cases r : readShelf d w with
    | some x =>
      rw [r] at k
      cases k
      unfold readShelf at r
      rw [Option.bind_eq_some_iff] at r
      obtain ⟨s, es, r⟩ := r
      split at r
      · rename_i q
        cases r
        have hs := shelf_from es
        refine ⟨⟨?_, ?_, ?_⟩, fun z => absurd rfl z, fun z => nomatch z⟩
        · show (d.shop.shelves ++ [s]).length ≤ 3
          have : d.shop.shelves.length < 3 := q.1
          simp; omega
        · show (shelfNames (d.shop.shelves ++ [s])).Nodup
          unfold shelfNames at *
          rw [List.map_append, List.nodup_append]
          refine ⟨a2, by simp, fun x hx y hy e => ?_⟩
          simp at hy
          subst hy
          subst e
          have q2 := q.2
          rw [List.contains_iff_mem.2 hx] at q2
          cases q2
        · intro x hx
          have hx : x ∈ d.shop.shelves ++ [s] := hx
          rw [List.mem_append, List.mem_singleton] at hx
          rcases hx with hx | rfl
          · exact a3 x hx
          · exact hs
      · cases r
    | none =>
      rw [r] at k
      have k : readCustomers d w = some e := k
      unfold readCustomers at k
      split at k
      · cases k
      · rename_i q
        rw [Option.map_eq_some_iff] at k
        obtain ⟨x, ex, rfl⟩ := k
        have hx := customers_from ex
        refine ⟨⟨a1, a2, a3⟩, fun _ => ⟨?_, hx.1, hx.2.1, hx.2.2.1, hx.2.2.2⟩, fun z => nomatch z⟩
        show 1 ≤ d.shop.shelves.length
        cases e : d.shop.shelves with
        | nil => rw [e] at q; exact absurd rfl q
        | cons _ _ => simp
  · rw [if_neg s0] at k
    split at k
    · unfold readStocker at k
      rw [Option.map_eq_some_iff] at k
      obtain ⟨x, ex, rfl⟩ := k
      have hx := stocker_from ex
      exact ⟨⟨a1, a2, a3⟩, fun _ => b s0, fun _ => hx⟩
    · cases k
theorem read_shop {u : Units} {p : Shop} (h : readShop u = .ok p) : IsShop p := by
  unfold readShop at h
  cases e : readLines readShopLine 1 startReading (linesOf u) with
  | error n => rw [e] at h; cases h
  | ok d =>
    rw [e] at h
    have k : Draft d := read_keeps draft_line (P := Draft) ⟨⟨by simp [startReading], by simp [startReading, shelfNames], by simp [startReading]⟩, fun z => absurd rfl z, by simp [startReading]⟩ e
    have h : wholeShop d (linesOf u).length = .ok p := h
    unfold wholeShop at h
    split at h
    · rename_i q
      cases h
      obtain ⟨⟨a1, a2, a3⟩, b, c⟩ := k
      obtain ⟨b1, b2, b3, b4, b5⟩ := b (by omega)
      obtain ⟨c1, c2, c3, c4⟩ := c q
      exact ⟨⟨b1, a1, a2, a3⟩, b2, b3, b4, b5, c1, c2, c3, c4⟩
    · cases h

/-! ### the canonical text -/
theorem name_facts {u : Units} (h : isName u = true) : u ≠ [] ∧ u.length ≤ 8 ∧ ∀ c, c ∈ u → 97 ≤ c.toNat ∧ c.toNat ≤ 122 := by
  unfold isName at h
  simp only [Bool.and_eq_true, decide_eq_true_eq, List.all_eq_true] at h
  refine ⟨fun e => (by rw [e] at h; simp at h), h.2.1, fun c hc => ?_⟩
  have := h.2.2 c hc
  unfold isNameUnit at this
  simp only [Bool.and_eq_true, decide_eq_true_eq] at this
  exact ⟨UInt16.le_iff_toNat_le.1 this.1, UInt16.le_iff_toNat_le.1 this.2⟩
theorem digit_facts {n : Nat} (h1 : 1 ≤ n) (h2 : n ≤ 9) : digitUnits n ≠ [] ∧ (32 : UInt16) ∉ digitUnits n ∧ (10 : UInt16) ∉ digitUnits n ∧ (digitUnits n).length = 1 := by
  have : ∀ n : Fin 10, 1 ≤ n.val → digitUnits n.val ≠ [] ∧ (32 : UInt16) ∉ digitUnits n.val ∧ (10 : UInt16) ∉ digitUnits n.val ∧ (digitUnits n.val).length = 1 := by decide +kernel
  exact this ⟨n, by omega⟩ h1
/-- a word as it may stand in a line -/
def Word (u : Units) : Prop := u ≠ [] ∧ (32 : UInt16) ∉ u ∧ (10 : UInt16) ∉ u
theorem word_name {u : Units} (h : isName u = true) : Word u := by
  obtain ⟨a, _, c⟩ := name_facts h
  refine ⟨a, fun k => ?_, fun k => ?_⟩
  · have := (c _ k).1; exact absurd this (by decide)
  · have := (c _ k).1; exact absurd this (by decide)
theorem word_digit {n : Nat} (h1 : 1 ≤ n) (h2 : n ≤ 9) : Word (digitUnits n) := by
  obtain ⟨a, b, c, _⟩ := digit_facts h1 h2
  exact ⟨a, b, c⟩
theorem word_shelf : Word (units "shelf") := by unfold Word; decide +kernel
theorem word_customers : Word (units "customers") := by unfold Word; decide +kernel
theorem word_of : Word (units "of") := by unfold Word; decide +kernel
theorem word_stocker : Word (units "stocker") := by unfold Word; decide +kernel
theorem word_onto : Word (units "onto") := by unfold Word; decide +kernel
theorem not_mem_join {c d : UInt16} (h : d ≠ c) : ∀ {l : List Units}, (∀ u, u ∈ l → d ∉ u) → d ∉ joinWith c l
  | [], _ => by simp [joinWith]
  | [u], k => k u List.mem_cons_self
  | u :: v :: r, k => by
    rw [joinWith, List.mem_append, List.mem_cons]
    · rintro (a | a | a)
      · exact k u List.mem_cons_self a
      · exact h a
      · exact not_mem_join h (fun x hx => k x (List.mem_cons_of_mem _ hx)) a
    · simp
def Line (w : List Units) : Prop := w ≠ [] ∧ ∀ u, u ∈ w → Word u
theorem line_words {w : List Units} (h : Line w) : wordsOf (joinWith 32 w) = w := p_words_read w fun u hu => ⟨(h.2 u hu).1, (h.2 u hu).2.1⟩
theorem line_no10 {w : List Units} (h : Line w) : (10 : UInt16) ∉ joinWith 32 w := not_mem_join (by decide) fun u hu => (h.2 u hu).2.2
theorem line_shelf {s : Shelf} (h : isName s.name = true ∧ 1 ≤ s.room ∧ s.room ≤ 4) : Line (shelfWords s) := by
  refine ⟨by simp [shelfWords], fun u hu => ?_⟩
  simp only [shelfWords, List.mem_cons, List.not_mem_nil, or_false] at hu
  rcases hu with rfl | rfl | rfl
  · exact word_shelf
  · exact word_name h.1
  · exact word_digit h.2.1 (by omega)
theorem line_customers {p : Shop} (h : IsShop p) : Line (customersWords p) := by
  obtain ⟨_, h1, h2, h3, h4, _⟩ := h
  refine ⟨by simp [customersWords], fun u hu => ?_⟩
  simp only [customersWords, List.mem_cons, List.not_mem_nil, or_false] at hu
  rcases hu with rfl | rfl | rfl | rfl
  · exact word_customers
  · exact word_digit h1 (by omega)
  · exact word_of
  · exact word_digit h3 (by omega)
theorem line_stocker {p : Shop} (h : IsShop p) : Line (stockerWords p) := by
  obtain ⟨⟨_, h0, _⟩, _, _, _, _, h1, h2, h3, h4⟩ := h
  refine ⟨by simp [stockerWords], fun u hu => ?_⟩
  simp only [stockerWords, List.mem_cons, List.not_mem_nil, or_false] at hu
  rcases hu with rfl | rfl | rfl | rfl
  · exact word_stocker
  · exact word_digit h1 (by omega)
  · exact word_onto
  · exact word_digit h3 (by omega)
theorem is_word (s : String) : isWord (units s) s = true := by unfold isWord; exact beq_self_eq_true _
theorem shelf_read {s : Shelf} (h : isName s.name = true ∧ 1 ≤ s.room ∧ s.room ≤ 4) : shelfFrom (shelfWords s) = some s := by
  unfold shelfFrom shelfWords
  dsimp only
  rw [is_word, h.1, number_of h.2.1 (by omega) (show s.room ≤ mostRoom from h.2.2)]
  rfl
theorem customers_read {p : Shop} (h : IsShop p) : customersFrom (customersWords p) = some (p.taken, p.ofOne) := by
  obtain ⟨_, h1, h2, h3, h4, _⟩ := h
  unfold customersFrom customersWords
  dsimp only
  rw [is_word, is_word, number_of h1 (by omega) (show p.taken ≤ mostTaken from h2)]
  show Option.map _ (numberTo p.taken _) = _
  rw [number_of h3 (by omega) h4]
  rfl
theorem stocker_read {p : Shop} (h : IsShop p) : stockerFrom p.shelves.length (stockerWords p) = some (p.items, p.onto) := by
  obtain ⟨⟨_, h0, _⟩, _, _, _, _, h1, h2, h3, h4⟩ := h
  unfold stockerFrom stockerWords
  dsimp only
  rw [is_word, is_word, number_of h1 h2 (show p.items ≤ mostItems from h2)]
  show Option.map _ (numberTo p.shelves.length _) = _
  rw [number_of h3 (by omega) h4]
  rfl
theorem read_line {α : Type} {f : α → List Units → Option α} {m : Nat} {s t : α} {w : List Units} {r : List Units} (h : Line w) (e : f s w = some t) : readLines f m s (joinWith 32 w :: r) = readLines f (m + 1) t r := by
  rw [readLines, line_words h, if_neg h.1, e]
theorem read_shelves : ∀ (ss : List Shelf) (d : Shop) (n : Nat) (rest : List Units), (∀ s, s ∈ ss → isName s.name = true ∧ 1 ≤ s.room ∧ s.room ≤ 4) → d.shelves.length + ss.length ≤ 3 → (shelfNames (d.shelves ++ ss)).Nodup →
    readLines readShopLine n ⟨0, d⟩ ((ss.map shelfWords).map (joinWith 32) ++ rest) = readLines readShopLine (n + ss.length) ⟨0, { d with shelves := d.shelves ++ ss }⟩ rest
  | [], d, n, rest, _, _, _ => by simp
  | s :: ss, d, n, rest, h, hl, hn => by
    have hs := h s List.mem_cons_self
    have e : readShopLine ⟨0, d⟩ (shelfWords s) = some ⟨0, withShelf d s⟩ := by
      unfold readShopLine
      rw [if_pos rfl]
      have r : readShelf ⟨0, d⟩ (shelfWords s) = some ⟨0, withShelf d s⟩ := by
        unfold readShelf
        rw [shelf_read hs]
        show (if d.shelves.length < mostShelves ∧ (shelfNames d.shelves).contains s.name = false then _ else _) = _
        rw [if_pos]
        refine ⟨?_, ?_⟩
        · show d.shelves.length < 3
          simp at hl; omega
        · rw [← Bool.not_eq_true, List.contains_iff_mem]
          intro k
          unfold shelfNames at hn k
          rw [List.map_append, List.nodup_append] at hn
          exact hn.2.2 _ k _ (by simp) rfl
      rw [r]
    rw [List.map_cons, List.map_cons, List.cons_append, read_line (line_shelf hs) e]
    have := read_shelves ss (withShelf d s) (n + 1) rest (fun x hx => h x (List.mem_cons_of_mem _ hx)) (by simp [withShelf] at hl ⊢; omega) (by simpa [withShelf] using hn)
    rw [this, List.length_cons, show n + 1 + ss.length = n + (ss.length + 1) by omega]
    simp [withShelf]
theorem shop_lines {p : Shop} (h : IsShop p) : linesOf (shopUnits p) = (shopLines p).map (joinWith 32) := by
  refine p_lines_read _ (by simp [shopLines]) fun u hu => ?_
  rw [List.mem_map] at hu
  obtain ⟨w, hw, rfl⟩ := hu
  unfold shopLines at hw
  simp only [List.mem_append, List.mem_map, List.mem_cons, List.not_mem_nil, or_false] at hw
  rcases hw with ⟨s, hs, rfl⟩ | rfl | rfl
  · exact line_no10 (line_shelf (h.1.2.2.2 s hs))
  · exact line_no10 (line_customers h)
  · exact line_no10 (line_stocker h)
theorem shop_read {p : Shop} (h : IsShop p) : readShop (shopUnits p) = .ok p := by
  have e : readLines readShopLine 1 startReading (linesOf (shopUnits p)) = .ok ⟨2, p⟩ := by
    rw [shop_lines h]
    unfold shopLines
    rw [List.map_append]
    have h' := h
    obtain ⟨⟨h1, h2, h3, h4⟩, _⟩ := h'
    have r := read_shelves p.shelves ⟨[], 1, 1, 1, 1⟩ 1 ([customersWords p, stockerWords p].map (joinWith 32)) h4 (by simpa using h2) (by simpa using h3)
    unfold startReading
    rw [r]
    simp only [List.nil_append, List.map_cons, List.map_nil]
    have c : readShopLine ⟨0, ⟨p.shelves, 1, 1, 1, 1⟩⟩ (customersWords p) = some ⟨1, ⟨p.shelves, p.taken, p.ofOne, 1, 1⟩⟩ := by
      unfold readShopLine
      rw [if_pos rfl]
      have n : readShelf ⟨0, ⟨p.shelves, 1, 1, 1, 1⟩⟩ (customersWords p) = none := rfl
      rw [n]
      show readCustomers _ _ = _
      unfold readCustomers
      have ne : p.shelves.isEmpty = false := by
        cases q : p.shelves with
        | nil => rw [q] at h1; simp at h1
        | cons _ _ => rfl
      simp only [ne]
      rw [customers_read h]
      rfl
    rw [read_line (line_customers h) c]
    have s : readShopLine ⟨1, ⟨p.shelves, p.taken, p.ofOne, 1, 1⟩⟩ (stockerWords p) = some ⟨2, p⟩ := by
      unfold readShopLine
      rw [if_neg (show ¬ (1 : Nat) = 0 by decide), if_pos rfl]
      unfold readStocker
      rw [stocker_read h]
      rfl
    rw [read_line (line_stocker h) s]
    rfl
  unfold readShop
  rw [e]
  show wholeShop ⟨2, p⟩ _ = _
  unfold wholeShop
  rw [if_pos rfl]
theorem p_shops_read : shops_read := ⟨fun _ _ h => read_shop h, fun _ h => shop_read h⟩
theorem join_length {c : UInt16} : ∀ (l : List Units) (n : Nat), (∀ u, u ∈ l → u.length ≤ n) → (joinWith c l).length ≤ l.length * (n + 1)
  | [], n, _ => by simp [joinWith]
  | [u], n, h => by have := h u List.mem_cons_self; simp [joinWith]; omega
  | u :: v :: r, n, h => by
    rw [joinWith, List.length_append, List.length_cons]
    · have a := h u List.mem_cons_self
      have b := join_length (c := c) (v :: r) n fun x hx => h x (List.mem_cons_of_mem _ hx)
      rw [List.length_cons (a := u), Nat.succ_mul]
      omega
    · simp
theorem line3 (a b c : Units) : (joinWith 32 [a, b, c]).length = a.length + b.length + c.length + 2 := by
  simp [joinWith]; omega
theorem line4 (a b c d : Units) : (joinWith 32 [a, b, c, d]).length = a.length + b.length + c.length + d.length + 3 := by
  simp [joinWith]; omega
theorem shop_length {p : Shop} (h : IsShop p) : (shopUnits p).length ≤ 85 := by
  unfold shopUnits
  have h' := h
  obtain ⟨⟨_, h2, _, h4⟩, t1, t2, o1, o2, i1, i2, m1, m2⟩ := h'
  have := join_length (c := 10) ((shopLines p).map (joinWith 32)) 16 fun u hu => by
    rw [List.mem_map] at hu
    obtain ⟨w, hw, rfl⟩ := hu
    unfold shopLines at hw
    simp only [List.mem_append, List.mem_map, List.mem_cons, List.not_mem_nil, or_false] at hw
    rcases hw with ⟨s, hs, rfl⟩ | rfl | rfl
    · obtain ⟨n1, r1, r2⟩ := h4 s hs
      unfold shelfWords
      rw [line3]
      have a := (name_facts n1).2.1
      have b := (digit_facts r1 (by omega)).2.2.2
      have c : (units "shelf").length = 5 := by decide +kernel
      omega
    · unfold customersWords
      rw [line4]
      have a := (digit_facts t1 (by omega)).2.2.2
      have b := (digit_facts o1 (by omega)).2.2.2
      have c : (units "customers").length = 9 := by decide +kernel
      have d : (units "of").length = 2 := by decide +kernel
      omega
    · unfold stockerWords
      rw [line4]
      have a := (digit_facts i1 (by omega)).2.2.2
      have b := (digit_facts m1 (by omega)).2.2.2
      have c : (units "stocker").length = 7 := by decide +kernel
      have d : (units "onto").length = 4 := by decide +kernel
      omega
  simp [shopLines] at this ⊢
  omega
theorem shopFor_ok {t : List Nat} {p : Shop} : shopFor t = .ok p ↔ t.length ≤ 200 ∧ readShop (unitsFor t) = .ok p := by
  unfold shopFor need
  by_cases c : t.length ≤ mostText
  · rw [if_pos (by simpa using c)]
    show (match readShop (unitsFor t) with | .ok p => Res.ok p | .error n => .bad ([eLine] ++ putU16 n)) = _ ↔ _
    cases e : readShop (unitsFor t) with
    | ok q =>
      exact ⟨fun h => ⟨c, (by cases h; rfl)⟩, fun h => (by cases h.2; rfl)⟩
    | error n => exact ⟨fun h => (by cases h), fun h => (by cases h.2)⟩
  · rw [if_neg (by simpa using c)]
    exact ⟨fun h => (by cases h), fun h => absurd h.1 c⟩
theorem shopFor_bad {t : List Nat} : (∃ p, shopFor t = .ok p) ∨ (200 < t.length ∧ shopFor t = .bad [2]) ∨ ∃ n, shopFor t = .bad (3 :: putU16 n) := by
  unfold shopFor need
  by_cases c : t.length ≤ mostText
  · rw [if_pos (by simpa using c)]
    show (∃ p, (match readShop (unitsFor t) with | .ok p => Res.ok p | .error n => .bad ([eLine] ++ putU16 n)) = _) ∨ _ ∨ ∃ n, (match readShop (unitsFor t) with | .ok p => Res.ok p | .error n => .bad ([eLine] ++ putU16 n)) = _
    cases e : readShop (unitsFor t) with
    | ok q => exact Or.inl ⟨q, rfl⟩
    | error n => exact Or.inr (Or.inr ⟨n, rfl⟩)
  · rw [if_neg (by simpa using c)]
    have c' : ¬ t.length ≤ 200 := c
    exact Or.inr (Or.inl ⟨by omega, rfl⟩)
theorem units_back (u : Units) : unitsFor (u.map fun c => c.toNat) = u := by
  unfold unitsFor
  rw [List.map_map]
  have : (UInt16.ofNat ∘ fun c : UInt16 => c.toNat) = id := by
    funext c
    simp
  rw [this, List.map_id]
theorem shop_of_ok {t : List Nat} {p : Shop} (h : shopFor t = .ok p) : IsShop p := read_shop (shopFor_ok.1 h).2
theorem p_Texts_read : Texts_read := by
  refine ⟨fun p h => ?_, fun t p h => ⟨shop_of_ok h, (shopFor_ok.1 h).1⟩, fun t => shopFor_bad⟩
  rw [shopFor_ok, units_back]
  have := shop_length h
  exact ⟨by simp; omega, shop_read h⟩
end RsP

namespace RsP
open Rs Zz33Law

/-! ### requests are taken apart -/
def Bytes (l : Octets) : Prop := ∀ c, c ∈ l → c < 256
theorem bytes_app {a b : Octets} : Bytes (a ++ b) ↔ Bytes a ∧ Bytes b := by
  unfold Bytes
  simp only [List.mem_append]
  exact ⟨fun h => ⟨fun c k => h c (Or.inl k), fun c k => h c (Or.inr k)⟩, fun h c k => k.elim (h.1 c) (h.2 c)⟩
theorem bytes_cons {a : Nat} {b : Octets} : Bytes (a :: b) ↔ a < 256 ∧ Bytes b := by
  unfold Bytes
  simp
/-- what is taken is what is written -/
def Reads {α : Type} (p : Take α) (put : α → Octets) (ok : α → Prop) : Prop := ∀ l, Bytes l → ∀ a r, p l = some (a, r) ↔ ok a ∧ l = put a ++ r
theorem next_some {α β : Type} {p : Take α} {f : α → Take β} {l : Octets} {x : β × Octets} : next p f l = some x ↔ ∃ a r, p l = some (a, r) ∧ f a r = some x := by
  unfold next
  cases e : p l with
  | none => simp
  | some y =>
    constructor
    · intro h
      exact ⟨y.1, y.2, rfl, h⟩
    · rintro ⟨a, r, h, k⟩
      cases h
      exact k
theorem map_some {α β : Type} {f : α → β} {p : Take α} {l : Octets} {b : β} {r : Octets} : mapTake f p l = some (b, r) ↔ ∃ a, p l = some (a, r) ∧ b = f a := by
  unfold mapTake
  rw [next_some]
  constructor
  · rintro ⟨a, r', h, k⟩
    have k : some (f a, r') = some (b, r) := k
    cases k
    exact ⟨a, h, rfl⟩
  · rintro ⟨a, h, rfl⟩
    exact ⟨a, r, h, rfl⟩
theorem reads_u8 : Reads takeU8 putU8 (· < 256) := fun l hl a r => by
  cases l with
  | nil =>
    constructor
    · intro h; cases h
    · rintro ⟨_, h⟩; cases h
  | cons x l =>
    rw [bytes_cons] at hl
    constructor
    · intro h
      have h : some (x, l) = some (a, r) := h
      cases h
      exact ⟨hl.1, by unfold putU8; rw [Nat.mod_eq_of_lt hl.1]; rfl⟩
    · rintro ⟨h, k⟩
      unfold putU8 at k
      rw [Nat.mod_eq_of_lt h] at k
      cases k
      rfl
theorem u16_some {l : Octets} {a : Nat} {r : Octets} : takeU16 l = some (a, r) ↔ ∃ x y, l = x :: y :: r ∧ a = x + 256 * y := by
  match l with
  | [] => exact ⟨fun h => (by cases h), fun ⟨_, _, h, _⟩ => (by cases h)⟩
  | [_] => exact ⟨fun h => (by cases h), fun ⟨_, _, h, _⟩ => (by cases h)⟩
  | x :: y :: l =>
    constructor
    · intro h
      have h : some (x + 256 * y, l) = some (a, r) := h
      cases h
      exact ⟨x, y, rfl, rfl⟩
    · rintro ⟨_, _, h, rfl⟩
      cases h
      rfl
theorem reads_u16 : Reads takeU16 putU16 (· < 65536) := fun l hl a r => by
  rw [u16_some]
  constructor
  · rintro ⟨x, y, rfl, rfl⟩
    simp only [bytes_cons] at hl
    refine ⟨by omega, ?_⟩
    unfold putU16
    rw [show (x + 256 * y) % 256 = x by omega, show (x + 256 * y) / 256 % 256 = y by omega]
    rfl
  · rintro ⟨h, rfl⟩
    exact ⟨a % 256, a / 256 % 256, rfl, by omega⟩
theorem reads_many {α : Type} {p : Take α} {put : α → Octets} {ok : α → Prop} (h : Reads p put ok) : ∀ (n : Nat), Reads (takeMany p n) (fun l => l.flatMap put) (fun l => l.length = n ∧ ∀ a, a ∈ l → ok a)
  | 0 => fun l hl a r => by
    constructor
    · intro e
      have e : some (([] : List α), l) = some (a, r) := e
      cases e
      exact ⟨⟨rfl, by simp⟩, rfl⟩
    · rintro ⟨⟨a0, _⟩, k⟩
      have : a = [] := List.length_eq_zero_iff.1 a0
      subst this
      have k : l = r := k
      subst k
      rfl
  | n + 1 => fun l hl a r => by
    unfold takeMany
    rw [next_some]
    constructor
    · rintro ⟨x, l1, e1, e2⟩
      obtain ⟨ox, rfl⟩ := (h l hl x l1).1 e1
      rw [bytes_app] at hl
      rw [next_some] at e2
      obtain ⟨xs, l2, e2, e3⟩ := e2
      obtain ⟨⟨o1, o2⟩, rfl⟩ := (reads_many h n l1 hl.2 xs l2).1 e2
      have e3 : some (x :: xs, l2) = some (a, r) := e3
      cases e3
      refine ⟨⟨by simp [o1], fun b hb => ?_⟩, by simp⟩
      rcases List.mem_cons.1 hb with rfl | hb
      · exact ox
      · exact o2 b hb
    · rintro ⟨⟨o1, o2⟩, rfl⟩
      cases a with
      | nil => simp at o1
      | cons x xs =>
        have hl' : Bytes (put x ++ (xs.flatMap put ++ r)) := by simpa using hl
        refine ⟨x, xs.flatMap put ++ r, (h _ hl x _).2 ⟨o2 x List.mem_cons_self, by simp⟩, ?_⟩
        rw [next_some]
        rw [bytes_app] at hl'
        exact ⟨xs, r, (reads_many h n _ hl'.2 xs r).2 ⟨⟨by simpa using o1, fun b hb => o2 b (List.mem_cons_of_mem _ hb)⟩, rfl⟩, rfl⟩
theorem reads_list8 {α : Type} {p : Take α} {put : α → Octets} {ok : α → Prop} (h : Reads p put ok) : Reads (takeList8 p) (putList8 put) (fun l => l.length < 256 ∧ ∀ a, a ∈ l → ok a) := fun l hl a r => by
  unfold takeList8
  rw [next_some]
  constructor
  · rintro ⟨n, l1, e1, e2⟩
    obtain ⟨o, rfl⟩ := (reads_u8 l hl n l1).1 e1
    rw [bytes_app] at hl
    obtain ⟨⟨rfl, o2⟩, rfl⟩ := (reads_many h n l1 hl.2 a r).1 e2
    exact ⟨⟨o, o2⟩, by simp [putList8]⟩
  · rintro ⟨⟨o1, o2⟩, rfl⟩
    unfold putList8 at hl ⊢
    rw [List.append_assoc] at hl ⊢
    exact ⟨a.length, _, (reads_u8 _ hl _ _).2 ⟨o1, rfl⟩, (reads_many h _ _ (bytes_app.1 hl).2 a r).2 ⟨⟨rfl, o2⟩, rfl⟩⟩
theorem reads_list16 {α : Type} {p : Take α} {put : α → Octets} {ok : α → Prop} (h : Reads p put ok) : Reads (takeList16 p) (putList16 put) (fun l => l.length < 65536 ∧ ∀ a, a ∈ l → ok a) := fun l hl a r => by
  unfold takeList16
  rw [next_some]
  constructor
  · rintro ⟨n, l1, e1, e2⟩
    obtain ⟨o, rfl⟩ := (reads_u16 l hl n l1).1 e1
    rw [bytes_app] at hl
    obtain ⟨⟨rfl, o2⟩, rfl⟩ := (reads_many h n l1 hl.2 a r).1 e2
    exact ⟨⟨o, o2⟩, by simp [putList16]⟩
  · rintro ⟨⟨o1, o2⟩, rfl⟩
    unfold putList16 at hl ⊢
    rw [List.append_assoc] at hl ⊢
    exact ⟨a.length, _, (reads_u16 _ hl _ _).2 ⟨o1, rfl⟩, (reads_many h _ _ (bytes_app.1 hl).2 a r).2 ⟨⟨rfl, o2⟩, rfl⟩⟩
theorem reads_text : Reads takeText putText IsText := reads_list16 reads_u8
theorem reads_numbers : Reads takeNumbers putNumbers AreNumbers := reads_list8 reads_u8
theorem reads_two {α β γ : Type} {p : Take α} {put : α → Octets} {ok : α → Prop} {q : Take β} {put' : β → Octets} {ok' : β → Prop} {f : α → β → γ} (h : Reads p put ok) (h' : Reads q put' ok') {l : Octets} (hl : Bytes l) {c : γ} {r : Octets} :
    next p (fun a => next q fun b => given (f a b)) l = some (c, r) ↔ ∃ a b, c = f a b ∧ (ok a ∧ ok' b) ∧ l = (put a ++ put' b) ++ r := by
  rw [next_some]
  constructor
  · rintro ⟨a, l1, e1, e2⟩
    obtain ⟨o, rfl⟩ := (h l hl a l1).1 e1
    rw [bytes_app] at hl
    rw [next_some] at e2
    obtain ⟨b, l2, e2, e3⟩ := e2
    obtain ⟨o', rfl⟩ := (h' l1 hl.2 b l2).1 e2
    have e3 : some (f a b, l2) = some (c, r) := e3
    cases e3
    exact ⟨a, b, rfl, ⟨o, o'⟩, by simp⟩
  · rintro ⟨a, b, rfl, ⟨o, o'⟩, rfl⟩
    rw [List.append_assoc] at hl ⊢
    refine ⟨a, _, (h _ hl a _).2 ⟨o, rfl⟩, ?_⟩
    rw [next_some]
    exact ⟨b, r, (h' _ (bytes_app.1 hl).2 b r).2 ⟨o', rfl⟩, rfl⟩
theorem reads_map {α γ : Type} {p : Take α} {put : α → Octets} {ok : α → Prop} {f : α → γ} (h : Reads p put ok) {l : Octets} (hl : Bytes l) {c : γ} {r : Octets} :
    mapTake f p l = some (c, r) ↔ ∃ a, c = f a ∧ ok a ∧ l = put a ++ r := by
  rw [map_some]
  constructor
  · rintro ⟨a, e, k⟩
    exact ⟨a, k, (h l hl a r).1 e⟩
  · rintro ⟨a, k, e⟩
    exact ⟨a, (h l hl a r).2 e, k⟩
theorem taken_some {α : Type} {p : Take α} {l : Octets} {a : α} : taken p l = some a ↔ p l = some (a, []) := by
  unfold taken
  cases p l with
  | none => simp
  | some e =>
    obtain ⟨b, r⟩ := e
    cases r with
    | nil => simp
    | cons _ _ => simp
theorem take_request {n : Nat} {l : Octets} {x : Request} {r : Octets} : takeRequest (n :: l) = some (x, r) ↔ (if n == 0 then wrongly else (takers[n - 1]?).getD wrongly) l = some (x, r) := Iff.rfl
theorem request_iff {l : Octets} (hl : Bytes l) {x : Request} : requestOf l = some x ↔ IsRequest x ∧ l = callOf x :: bodyOf x := by
  unfold requestOf
  rw [taken_some]
  cases l with
  | nil =>
    constructor
    · intro h; cases h
    · rintro ⟨_, h⟩; cases h
  | cons n l =>
    rw [take_request]
    rw [bytes_cons] at hl
    obtain ⟨_, hl⟩ := hl
    have big : ∀ m, takers[m + 13]? = none := fun m => by
      rw [List.getElem?_eq_none]
      show 13 ≤ m + 13
      omega
    match n with
    | 0 =>
      constructor
      · intro h; cases h
      · rintro ⟨_, h⟩; cases x <;> cases h
    | 1 =>
      show mapTake Request.format takeText l = _ ↔ _
      rw [reads_map reads_text hl]
      constructor
      · rintro ⟨a, rfl, k, e⟩
        exact ⟨k, by rw [e, List.append_nil]; rfl⟩
      · rintro ⟨k, e⟩
        cases x <;> cases e
        exact ⟨_, rfl, k, (List.append_nil _).symm⟩
    | 2 =>
      show takeOf Request.safe l = _ ↔ _
      unfold takeOf
      rw [reads_two reads_text reads_numbers hl]
      constructor
      · rintro ⟨a, b, rfl, k, e⟩
        exact ⟨k, by rw [e, List.append_nil]; rfl⟩
      · rintro ⟨k, e⟩
        cases x <;> cases e
        exact ⟨_, _, rfl, k, (List.append_nil _).symm⟩
    | 3 =>
      show takeOf Request.filling l = _ ↔ _
      unfold takeOf
      rw [reads_two reads_text reads_numbers hl]
      constructor
      · rintro ⟨a, b, rfl, k, e⟩
        exact ⟨k, by rw [e, List.append_nil]; rfl⟩
      · rintro ⟨k, e⟩
        cases x <;> cases e
        exact ⟨_, _, rfl, k, (List.append_nil _).symm⟩
    | 4 =>
      show takeOf Request.doom l = _ ↔ _
      unfold takeOf
      rw [reads_two reads_text reads_numbers hl]
      constructor
      · rintro ⟨a, b, rfl, k, e⟩
        exact ⟨k, by rw [e, List.append_nil]; rfl⟩
      · rintro ⟨k, e⟩
        cases x <;> cases e
        exact ⟨_, _, rfl, k, (List.append_nil _).symm⟩
    | 5 =>
      show takeOf Request.attack l = _ ↔ _
      unfold takeOf
      rw [reads_two reads_text reads_numbers hl]
      constructor
      · rintro ⟨a, b, rfl, k, e⟩
        exact ⟨k, by rw [e, List.append_nil]; rfl⟩
      · rintro ⟨k, e⟩
        cases x <;> cases e
        exact ⟨_, _, rfl, k, (List.append_nil _).symm⟩
    | 6 =>
      show mapTake Request.least takeText l = _ ↔ _
      rw [reads_map reads_text hl]
      constructor
      · rintro ⟨a, rfl, k, e⟩
        exact ⟨k, by rw [e, List.append_nil]; rfl⟩
      · rintro ⟨k, e⟩
        cases x <;> cases e
        exact ⟨_, rfl, k, (List.append_nil _).symm⟩
    | 7 =>
      show mapTake Request.fewest takeText l = _ ↔ _
      rw [reads_map reads_text hl]
      constructor
      · rintro ⟨a, rfl, k, e⟩
        exact ⟨k, by rw [e, List.append_nil]; rfl⟩
      · rintro ⟨k, e⟩
        cases x <;> cases e
        exact ⟨_, rfl, k, (List.append_nil _).symm⟩
    | 8 =>
      show takeParting l = _ ↔ _
      unfold takeParting
      rw [reads_two reads_text reads_text hl]
      constructor
      · rintro ⟨a, b, rfl, k, e⟩
        exact ⟨k, by rw [e, List.append_nil]; rfl⟩
      · rintro ⟨k, e⟩
        cases x <;> cases e
        exact ⟨_, _, rfl, k, (List.append_nil _).symm⟩
    | 9 =>
      show takeRound l = _ ↔ _
      unfold takeRound
      rw [reads_two reads_u8 reads_text hl]
      constructor
      · rintro ⟨a, b, rfl, k, e⟩
        exact ⟨k, by rw [e, List.append_nil]; rfl⟩
      · rintro ⟨k, e⟩
        cases x <;> cases e
        exact ⟨_, _, rfl, k, (List.append_nil _).symm⟩
    | 10 =>
      show takeIn Request.fill l = _ ↔ _
      unfold takeIn
      rw [reads_two reads_u8 reads_numbers hl]
      constructor
      · rintro ⟨a, b, rfl, k, e⟩
        exact ⟨k, by rw [e, List.append_nil]; rfl⟩
      · rintro ⟨k, e⟩
        cases x <;> cases e
        exact ⟨_, _, rfl, k, (List.append_nil _).symm⟩
    | 11 =>
      show takeIn Request.sell l = _ ↔ _
      unfold takeIn
      rw [reads_two reads_u8 reads_numbers hl]
      constructor
      · rintro ⟨a, b, rfl, k, e⟩
        exact ⟨k, by rw [e, List.append_nil]; rfl⟩
      · rintro ⟨k, e⟩
        cases x <;> cases e
        exact ⟨_, _, rfl, k, (List.append_nil _).symm⟩
    | 12 =>
      show mapTake Request.undo takeU8 l = _ ↔ _
      rw [reads_map reads_u8 hl]
      constructor
      · rintro ⟨a, rfl, k, e⟩
        exact ⟨k, by rw [e, List.append_nil]; rfl⟩
      · rintro ⟨k, e⟩
        cases x <;> cases e
        exact ⟨_, rfl, k, (List.append_nil _).symm⟩
    | 13 =>
      show mapTake Request.look takeU8 l = _ ↔ _
      rw [reads_map reads_u8 hl]
      constructor
      · rintro ⟨a, rfl, k, e⟩
        exact ⟨k, by rw [e, List.append_nil]; rfl⟩
      · rintro ⟨k, e⟩
        cases x <;> cases e
        exact ⟨_, rfl, k, (List.append_nil _).symm⟩
    | m + 14 =>
      show ((takers[m + 13]?).getD wrongly) l = _ ↔ _
      rw [big]
      constructor
      · intro h; cases h
      · rintro ⟨_, h⟩; cases x <;> cases h
theorem octets_bytes (r : List UInt8) : Bytes (Zz33Octets.octetsOf r) := fun c hc => by
  unfold Zz33Octets.octetsOf at hc
  rw [List.mem_map] at hc
  obtain ⟨b, _, rfl⟩ := hc
  exact b.toNat_lt
theorem p_Requests_exact : Requests_exact := fun r _ => request_iff (octets_bytes r)
end RsP

namespace RsP
open Rs Zz33Law
open Zz33Octets (octetsOf bytesOf start fits)

/-! ### one request -/
theorem step_none {w : World} {r : List UInt8} (h : requestOf (octetsOf r) = none) : Zz33Octets.step w r = (w, [1, 1]) := by
  unfold Zz33Octets.step stepOn
  rw [h]
  rfl
theorem step_bad {w : World} {r : List UInt8} {x : Request} {e : Octets} (h : requestOf (octetsOf r) = some x) (k : callOn w x = .bad e) : Zz33Octets.step w r = (w, bytesOf (1 :: e)) := by
  unfold Zz33Octets.step stepOn
  rw [h]
  dsimp only
  unfold answerOn
  rw [k]
  rfl
theorem step_ok {w : World} {r : List UInt8} {x : Request} {z : World × Octets} (h : requestOf (octetsOf r) = some x) (k : callOn w x = .ok z) : Zz33Octets.step w r = (z.1, bytesOf (0 :: z.2)) := by
  unfold Zz33Octets.step stepOn
  rw [h]
  dsimp only
  unfold answerOn
  rw [k]
theorem p_Step_exact : Step_exact := fun _ _ => ⟨step_none, fun _ h => ⟨fun _ k => step_bad h k, fun _ k => step_ok h k⟩⟩
theorem p_Malformed_refused : Malformed_refused := fun _ _ h => by rw [step_none h]
theorem p_Start_empty : Start_empty := fun k => by
  show (List.replicate 8 none).getD k none = none
  rw [List.getD_eq_getElem?_getD, List.getElem?_replicate]
  split <;> rfl
theorem bytes_eq_nil {l : Octets} : bytesOf l = [] ↔ l = [] := by unfold bytesOf; exact List.map_eq_nil_iff
theorem said0 {o : Octets} : bytesOf (0 :: o) = [0] ↔ o = [] := by
  have : bytesOf (0 :: o) = 0 :: bytesOf o := rfl
  rw [this, List.cons.injEq]
  exact ⟨fun h => bytes_eq_nil.1 h.2, fun h => ⟨rfl, bytes_eq_nil.2 h⟩⟩
theorem said1 {e : Octets} : bytesOf (1 :: e) ≠ [0] := by
  intro h
  have : bytesOf (1 :: e) = 1 :: bytesOf e := rfl
  rw [this] at h
  cases h
theorem said1' {e : Octets} {l : List UInt8} : bytesOf (1 :: e) ≠ 0 :: l := by
  intro h
  have : bytesOf (1 :: e) = 1 :: bytesOf e := rfl
  rw [this] at h
  cases h
theorem said0' {e : Octets} {l : List UInt8} : bytesOf (0 :: e) ≠ 1 :: l := by
  intro h
  have : bytesOf (0 :: e) = 0 :: bytesOf e := rfl
  rw [this] at h
  cases h

/-! ### results -/
theorem then_ok {α β : Type} {x : Res α} {f : α → Res β} {b : β} : andThen x f = .ok b ↔ ∃ a, x = .ok a ∧ f a = .ok b := by
  cases x with
  | bad l => exact ⟨fun h => (by cases h), fun ⟨_, h, _⟩ => (by cases h)⟩
  | ok a => exact ⟨fun h => ⟨a, rfl, h⟩, fun ⟨_, h, k⟩ => (by cases h; exact k)⟩
theorem then_bad {α β : Type} {x : Res α} {f : α → Res β} {l : Octets} : andThen x f = .bad l ↔ x = .bad l ∨ ∃ a, x = .ok a ∧ f a = .bad l := by
  cases x with
  | bad l' => exact ⟨fun h => Or.inl (by cases h; rfl), fun h => h.elim (fun h => by cases h; rfl) fun ⟨_, h, _⟩ => by cases h⟩
  | ok a => exact ⟨fun h => Or.inr ⟨a, rfl, h⟩, fun h => h.elim (fun h => by cases h) fun ⟨_, h, k⟩ => by cases h; exact k⟩
theorem map_ok {α β : Type} {x : Res α} {f : α → β} {b : β} : mapRes f x = .ok b ↔ ∃ a, x = .ok a ∧ f a = b := by
  unfold mapRes
  rw [then_ok]
  exact ⟨fun ⟨a, h, k⟩ => ⟨a, h, by cases k; rfl⟩, fun ⟨a, h, k⟩ => ⟨a, h, by rw [k]⟩⟩
theorem map_bad {α β : Type} {x : Res α} {f : α → β} {l : Octets} : mapRes f x = .bad l ↔ x = .bad l := by
  unfold mapRes
  rw [then_bad]
  exact ⟨fun h => h.elim id fun ⟨_, _, k⟩ => (by cases k), Or.inl⟩
theorem need_ok {b : Bool} {n : Nat} {u : Unit} : need b n = .ok u ↔ b = true := by
  unfold need
  cases b
  · exact ⟨fun h => (by cases h), fun h => (by cases h)⟩
  · exact ⟨fun _ => rfl, fun _ => rfl⟩
theorem need_bad {b : Bool} {n : Nat} {l : Octets} : need b n = .bad l ↔ b = false ∧ l = [n] := by
  unfold need
  cases b
  · exact ⟨fun h => ⟨rfl, (by cases h; rfl)⟩, fun h => (by rw [h.2]; rfl)⟩
  · exact ⟨fun h => (by cases h), fun h => (by cases h.1)⟩
theorem stock_ok {p : Shop} {s z : Stock} : stockFor p s = .ok z ↔ IsStock p s ∧ z = s := by
  unfold stockFor
  rw [then_ok]
  constructor
  · rintro ⟨_, h, k⟩
    cases k
    exact ⟨isBelow_iff.1 (need_ok.1 h), rfl⟩
  · rintro ⟨h, rfl⟩
    exact ⟨(), need_ok.2 (isBelow_iff.2 h), rfl⟩
theorem stock_bad {p : Shop} {s : Stock} {l : Octets} : stockFor p s = .bad l ↔ ¬ IsStock p s ∧ l = [4] := by
  unfold stockFor
  rw [then_bad, need_bad, isBelow_false]
  exact ⟨fun h => h.elim id fun ⟨_, _, k⟩ => (by cases k), fun h => Or.inl h⟩
theorem items_ok {p : Shop} {s z : Stock} : itemsFor p s = .ok z ↔ Below s (p.shelves.map fun _ => 9) ∧ z = s := by
  unfold itemsFor
  rw [then_ok]
  constructor
  · rintro ⟨_, h, k⟩
    cases k
    exact ⟨isBelow_iff.1 (need_ok.1 h), rfl⟩
  · rintro ⟨h, rfl⟩
    exact ⟨(), need_ok.2 (isBelow_iff.2 h), rfl⟩
theorem items_bad {p : Shop} {s : Stock} {l : Octets} : itemsFor p s = .bad l ↔ ¬ Below s (p.shelves.map fun _ => 9) ∧ l = [5] := by
  unfold itemsFor
  rw [then_bad, need_bad, isBelow_false]
  exact ⟨fun h => h.elim id fun ⟨_, _, k⟩ => (by cases k), fun h => Or.inl h⟩
theorem going_ok {r : Round} {m : Moment} {z : Round × Octets} : going r m = .ok z ↔ r.past.length < 30 ∧ z = (moved r m, []) := by
  unfold going
  rw [then_ok]
  constructor
  · rintro ⟨_, h, k⟩
    cases k
    exact ⟨by have := need_ok.1 h; exact of_decide_eq_true this, rfl⟩
  · rintro ⟨h, rfl⟩
    exact ⟨(), need_ok.2 (decide_eq_true h), rfl⟩
theorem going_bad {r : Round} {m : Moment} {l : Octets} : going r m = .bad l ↔ 30 ≤ r.past.length ∧ l = [10] := by
  unfold going
  rw [then_bad, need_bad]
  constructor
  · rintro (h | ⟨_, _, k⟩)
    · have : ¬ r.past.length < mostSteps := of_decide_eq_false h.1
      have t : mostSteps = 30 := rfl
      exact ⟨by omega, h.2⟩
    · cases k
  · rintro ⟨h, rfl⟩
    refine Or.inl ⟨decide_eq_false ?_, rfl⟩
    have t : mostSteps = 30 := rfl
    omega

/-! ### the calls on texts -/
theorem says_of {x : Request} {o : Octets} (h : ∀ w, callOn w x = .ok (w, o)) : Says x o := fun w r hr => by
  rw [step_ok hr (h w)]
theorem told_ok {w : World} {x : Res Octets} {o : Octets} (h : x = .ok o) : Rs.told w x = .ok (w, o) := by rw [h]; rfl
theorem atStock_ok {t : List Nat} {s : Stock} {p : Shop} {f : Shop → Stock → Octets} (h : shopFor t = .ok p) (hs : IsStock p s) : atStock t s f = .ok (f p s) := by
  unfold atStock
  rw [h]
  show mapRes (f p) (stockFor p s) = _
  rw [map_ok]
  exact ⟨s, stock_ok.2 ⟨hs, rfl⟩, rfl⟩
theorem atStock_bad {t : List Nat} {s : Stock} {p : Shop} {f : Shop → Stock → Octets} (h : shopFor t = .ok p) (hs : ¬ IsStock p s) : atStock t s f = .bad [4] := by
  unfold atStock
  rw [h]
  show mapRes (f p) (stockFor p s) = _
  rw [map_bad]
  exact stock_bad.2 ⟨hs, rfl⟩
theorem says_safe {t : List Nat} {s : Stock} {p : Shop} (h : shopFor t = .ok p) (hs : IsStock p s) : Says (.safe t s) (putFlag (isSafe p s)) := says_of fun _ => told_ok (atStock_ok h hs)
theorem says_filling {t : List Nat} {s : Stock} {p : Shop} (h : shopFor t = .ok p) (hs : IsStock p s) : Says (.filling t s) (putMaybe putNumbers (fillingOf p s)) := says_of fun _ => told_ok (atStock_ok h hs)
theorem says_doom {t : List Nat} {s : Stock} {p : Shop} (h : shopFor t = .ok p) (hs : IsStock p s) : Says (.doom t s) (putMaybe putU16 (doomOf p s)) := says_of fun _ => told_ok (atStock_ok h hs)
theorem says_attack {t : List Nat} {s : Stock} {p : Shop} (h : shopFor t = .ok p) (hs : IsStock p s) : Says (.attack t s) (putMaybe putNumbers (attackOf p s)) := says_of fun _ => told_ok (atStock_ok h hs)
theorem text_call {t : List Nat} {p : Shop} {f : Shop → Octets} (h : shopFor t = .ok p) : mapRes f (shopFor t) = .ok (f p) := by rw [h]; rfl
theorem says_least {t : List Nat} {p : Shop} (h : shopFor t = .ok p) : Says (.least t) (putList16 putNumbers (leastOf p)) := says_of fun _ => told_ok (text_call h)
theorem says_fewest {t : List Nat} {p : Shop} (h : shopFor t = .ok p) : Says (.fewest t) (putMaybe putU8 (fewestItems p) ++ putMaybe putU8 (fewestOnto p)) := says_of fun _ => told_ok (text_call (f := fun p => putMaybe putU8 (fewestItems p) ++ putMaybe putU8 (fewestOnto p)) h)
theorem units_text (u : Units) : putUnits u = putText (u.map fun c => c.toNat) := by
  unfold putUnits putText putList16
  rw [List.length_map, List.flatMap_map]
theorem p_Format_shows : Format_shows := fun t p h => by
  rw [← units_text]
  exact says_of fun _ => told_ok (text_call (f := fun p => putUnits (shopUnits p)) h)
theorem bound_le {p : Shop} (h : IsShop p) : bound p ≤ 125 := by
  unfold bound stocksOf
  have a := length_vectors (roomsOf p) 4 fun x hx => by
    unfold roomsOf at hx
    rw [List.mem_map] at hx
    obtain ⟨s, hs, rfl⟩ := hx
    exact (h.1.2.2.2 s hs).2.2
  rw [rooms_length] at a
  have : 5 ^ p.shelves.length ≤ 5 ^ 3 := Nat.pow_le_pow_right (by decide) h.1.2.1
  have b : 5 ^ 3 = 125 := rfl
  have c : (4 + 1) = 5 := rfl
  rw [c] at a
  omega
theorem p_Safe_shows : Safe_shows := fun t s p h hs => by
  by_cases k : CanKeep p s
  · refine Or.inl ⟨?_, k⟩
    have := says_safe h hs
    rw [isSafe_iff.2 k] at this
    exact this
  · refine Or.inr ⟨?_, (not_keep_iff hs).1 k⟩
    have := says_safe h hs
    rw [isSafe_false.2 k] at this
    exact this
theorem p_Doom_shows : Doom_shows := fun t s p h hs => by
  have := says_doom h hs
  cases e : doomOf p s with
  | none =>
    rw [e] at this
    exact Or.inl ⟨this, (doom_none hs).1 e⟩
  | some n =>
    rw [e] at this
    obtain ⟨a, b, c⟩ := doom_some hs e
    exact Or.inr ⟨n, this, Nat.le_trans a (bound_le (shop_of_ok h)), b, c⟩
theorem p_Filling_told : Filling_told := fun t s p h hs => by
  have := says_filling h hs
  cases e : fillingOf p s with
  | none =>
    rw [e] at this
    exact Or.inl ⟨this, (filling_none hs).1 e⟩
  | some f =>
    rw [e] at this
    obtain ⟨a, b, c⟩ := filling_some hs e
    exact Or.inr ⟨f, this, a, b, c⟩
theorem p_Filling_shows : Filling_shows := fun t s p h hs => (p_Filling_told t s p h hs).imp id fun ⟨f, a, b, c, d⟩ => ⟨f, a, b, c, fun g x y => (d g x y).1⟩
theorem p_Attack_told : Attack_told := fun t s p h hs => by
  have := says_attack h hs
  cases e : attackOf p s with
  | none =>
    rw [e] at this
    exact Or.inl ⟨this, (attack_none hs).1 e⟩
  | some g =>
    rw [e] at this
    obtain ⟨a, b⟩ := attack_some hs e
    refine Or.inr ⟨g, this, fun z => ?_, a, b⟩
    rw [(attack_none hs).2 z] at e
    cases e
theorem p_Attack_shows : Attack_shows := fun t s p h hs => (p_Attack_told t s p h hs).imp id fun ⟨g, a, b, c, d⟩ => ⟨g, a, b, c, d.imp (fun q => q.1) fun ⟨q, n, x, y⟩ => ⟨q, n, x, fun r m hr hm => (y r m hr hm).1⟩⟩
theorem p_Least_told : Least_told := fun _ p h => ⟨leastOf p, says_least h, least_sorted p, fun _ => mem_least, fun _ hs => keep_iff_least hs⟩
theorem p_Least_shows : Least_shows := fun _ p h => ⟨leastOf p, says_least h, fun _ => mem_least, fun _ hs => keep_iff_least hs⟩
theorem p_Fewest_shows : Fewest_shows := fun _ p h => ⟨fewestItems p, fewestOnto p, says_fewest h, p_fewest_exact p⟩
theorem shop_text {t : List Nat} {p : Shop} (h : shopFor t = .ok p) : IsShop p := shop_of_ok h
theorem same_shelves {p q : Shop} (hp : IsShop p) (hq : IsShop q) : sameShelves p q = true ↔ p.shelves = q.shelves := by
  unfold sameShelves
  rw [beq_iff_eq]
  constructor
  · intro h
    have h1 := hp.1.2.2.2
    have h2 := hq.1.2.2.2
    generalize p.shelves = a at h h1
    generalize q.shelves = b at h h2
    induction a generalizing b with
    | nil => cases b with
      | nil => rfl
      | cons _ _ => simp at h
    | cons x a ih => cases b with
      | nil => simp at h
      | cons y b =>
        simp only [List.map_cons, List.cons.injEq] at h
        obtain ⟨h, k⟩ := h
        have e := ih (fun s hs => h1 s (List.mem_cons_of_mem _ hs)) b k fun s hs => h2 s (List.mem_cons_of_mem _ hs)
        unfold shelfWords at h
        simp only [List.cons.injEq, true_and, and_true] at h
        have a1 := h1 x List.mem_cons_self
        have a2 := h2 y List.mem_cons_self
        have d1 := digit_of_units a1.2.1 (by omega)
        have d2 := digit_of_units a2.2.1 (by omega)
        rw [h.2] at d1
        rw [d1] at d2
        cases x; cases y
        simp_all
  · intro h
    rw [h]
theorem parting_ok {t u : List Nat} {p q : Shop} (h : shopFor t = .ok p) (k : shopFor u = .ok q) (s : sameShelves p q = true) : Says (.parting t u) (putMaybe putNumbers (partingOf p q)) := says_of fun w => told_ok (by
  unfold partingCall
  rw [h, k]
  show andThen (need (sameShelves p q) eShelves) _ = _
  rw [s]
  rfl)
theorem p_Parting_told : Parting_told := fun t u p q h k s => by
  have := parting_ok h k ((same_shelves (shop_of_ok h) (shop_of_ok k)).2 s)
  cases e : partingOf p q with
  | none =>
    rw [e] at this
    exact Or.inl ⟨this, parting_none.1 e⟩
  | some v =>
    rw [e] at this
    exact Or.inr ⟨v, this, parting_some e⟩
theorem p_Parting_shows : Parting_shows := fun t u p q h k s => (p_Parting_told t u p q h k ((same_shelves (shop_of_ok h) (shop_of_ok k)).1 s)).imp id fun ⟨v, a, b, c, _⟩ => ⟨v, a, b, c⟩
theorem p_Shelves_refused : Shelves_refused := fun w r t u p q hr h k s => by
  have : callOn w (.parting t u) = .bad [6] := by
    show Rs.told w (partingCall t u) = _
    unfold Rs.told
    rw [map_bad]
    unfold partingCall
    rw [h, k]
    show andThen (need (sameShelves p q) eShelves) _ = _
    have : sameShelves p q = false := by
      rw [← Bool.not_eq_true, same_shelves (shop_of_ok h) (shop_of_ok k)]
      exact s
    rw [this]
    rfl
  rw [step_bad hr this]
  rfl
theorem p_Stocks_refused : Stocks_refused := fun w r t s p x h hs hx hr => by
  have : callOn w x = .bad [4] := by
    rcases hx with rfl | rfl | rfl | rfl
    all_goals
      show Rs.told w (atStock t s _) = _
      unfold Rs.told
      rw [map_bad]
      exact atStock_bad h hs
  rw [step_bad hr this]
  rfl
theorem p_Texts_refused : Texts_refused := fun w r x t o hr hx h => by
  have : callOn w x = .bad o := by
    have at_bad : ∀ (s : Stock) (f : Shop → Stock → Octets), atStock t s f = .bad o := fun s f => by
      unfold atStock
      rw [h]; rfl
    rcases hx with rfl | ⟨s, rfl⟩ | ⟨s, rfl⟩ | ⟨s, rfl⟩ | ⟨s, rfl⟩ | rfl | rfl | ⟨u, rfl⟩ | ⟨u, p, hu, rfl⟩ | ⟨k, hk, rfl⟩
    · show Rs.told w (mapRes _ (shopFor t)) = _
      rw [h]; rfl
    · show Rs.told w (atStock t s _) = _
      rw [at_bad]; rfl
    · show Rs.told w (atStock t s _) = _
      rw [at_bad]; rfl
    · show Rs.told w (atStock t s _) = _
      rw [at_bad]; rfl
    · show Rs.told w (atStock t s _) = _
      rw [at_bad]; rfl
    · show Rs.told w (mapRes _ (shopFor t)) = _
      rw [h]; rfl
    · show Rs.told w (mapRes _ (shopFor t)) = _
      rw [h]; rfl
    · show Rs.told w (partingCall t u) = _
      unfold partingCall
      rw [h]; rfl
    · show Rs.told w (partingCall u t) = _
      unfold partingCall
      rw [hu, h]; rfl
    · show roundCall w k t = _
      unfold roundCall
      rw [(need_ok (u := ())).2 (decide_eq_true hk : decide (k < seatCount) = true), h]
      rfl
  rw [step_bad hr this]
end RsP

namespace RsP
open Rs Zz33Law
open Zz33Octets (octetsOf bytesOf start fits)

/-! ### seats -/
theorem round_lt {w : World} {k : Nat} {q : Round} (h : roundAt w k = some q) : k < w.rounds.length := by
  unfold roundAt at h
  rw [List.getD_eq_getElem?_getD] at h
  apply Classical.byContradiction
  intro no
  rw [List.getElem?_eq_none (by omega)] at h
  cases h
theorem round_put {w : World} {k : Nat} {q : Round} (h : k < w.rounds.length) : roundAt (putRound w k q) k = some q := by
  unfold roundAt putRound
  rw [List.getD_eq_getElem?_getD]
  show ((w.rounds.set k (some q))[k]?).getD none = _
  rw [List.getElem?_set_self h]
  rfl
theorem round_put_ne {w : World} {k j : Nat} {q : Round} (h : k ≠ j) : roundAt (putRound w k q) j = roundAt w j := by
  unfold roundAt putRound
  rw [List.getD_eq_getElem?_getD, List.getD_eq_getElem?_getD]
  show ((w.rounds.set k (some q))[j]?).getD none = _
  rw [List.getElem?_set_ne h]
theorem put_length (w : World) (k : Nat) (q : Round) : (putRound w k q).rounds.length = w.rounds.length := by
  unfold putRound
  simp
theorem withRound_ok {w : World} {k : Nat} {f : Round → Res (Round × Octets)} {z : World × Octets} : withRound w k f = .ok z ↔ ∃ q e, roundAt w k = some q ∧ f q = .ok e ∧ z = (putRound w k e.1, e.2) := by
  unfold withRound
  rw [then_ok]
  constructor
  · rintro ⟨q, h, k'⟩
    rw [map_ok] at k'
    obtain ⟨e, he, rfl⟩ := k'
    refine ⟨q, e, ?_, he, rfl⟩
    unfold orError at h
    cases c : roundAt w k with
    | none => rw [c] at h; cases h
    | some q' => rw [c] at h; cases h; rfl
  · rintro ⟨q, e, h, he, rfl⟩
    refine ⟨q, by rw [h]; rfl, ?_⟩
    rw [map_ok]
    exact ⟨e, he, rfl⟩
theorem withRound_bad {w : World} {k : Nat} {f : Round → Res (Round × Octets)} {l : Octets} : withRound w k f = .bad l ↔ (roundAt w k = none ∧ l = [7]) ∨ ∃ q, roundAt w k = some q ∧ f q = .bad l := by
  unfold withRound
  rw [then_bad]
  cases c : roundAt w k with
  | none =>
    constructor
    · rintro (h | ⟨_, h, _⟩)
      · cases h; exact Or.inl ⟨rfl, rfl⟩
      · cases h
    · rintro (⟨_, rfl⟩ | ⟨_, h, _⟩)
      · exact Or.inl rfl
      · cases h
  | some q =>
    constructor
    · rintro (h | ⟨_, h, k'⟩)
      · cases h
      · cases h
        rw [map_bad] at k'
        exact Or.inr ⟨q, rfl, k'⟩
    · rintro (⟨h, _⟩ | ⟨_, h, k'⟩)
      · cases h
      · cases h
        exact Or.inr ⟨q, rfl, by rw [map_bad]; exact k'⟩
theorem fill_ok {f : Stock} {q : Round} {e : Round × Octets} : fillIn f q = .ok e ↔ Below f (q.shop.shelves.map fun _ => 9) ∧ isOpen q = false ∧ f ∈ fillings q.shop (stockNow q) ∧ q.past.length < 30 ∧ e = (moved q (plus (stockNow q) f, true), []) := by
  unfold fillIn
  simp only [then_ok, items_ok, need_ok, going_ok, List.contains_iff_mem, Bool.not_eq_true']
  constructor
  · rintro ⟨_, ⟨a, rfl⟩, _, b, _, c, d, rfl⟩
    exact ⟨a, b, c, d, rfl⟩
  · rintro ⟨a, b, c, d, rfl⟩
    exact ⟨f, ⟨a, rfl⟩, (), b, (), c, d, rfl⟩
theorem sell_ok {f : Stock} {q : Round} {e : Round × Octets} : sellIn f q = .ok e ↔ Below f (q.shop.shelves.map fun _ => 9) ∧ isOpen q = true ∧ f ∈ takings q.shop ∧ isBelow f (stockNow q) = true ∧ q.past.length < 30 ∧ e = (moved q (minus (stockNow q) f, false), []) := by
  unfold sellIn
  simp only [then_ok, items_ok, need_ok, going_ok, List.contains_iff_mem]
  constructor
  · rintro ⟨_, ⟨a, rfl⟩, _, b, _, c, _, d, g, rfl⟩
    exact ⟨a, b, c, d, g, rfl⟩
  · rintro ⟨a, b, c, d, g, rfl⟩
    exact ⟨f, ⟨a, rfl⟩, (), b, (), c, (), d, g, rfl⟩
theorem fill_bad {f : Stock} {q : Round} {l : Octets} : fillIn f q = .bad l ↔ (¬ Below f (q.shop.shelves.map fun _ => 9) ∧ l = [5]) ∨ (Below f (q.shop.shelves.map fun _ => 9) ∧ ((isOpen q = true ∧ l = [8]) ∨ (isOpen q = false ∧ ((f ∉ fillings q.shop (stockNow q) ∧ l = [9]) ∨ (f ∈ fillings q.shop (stockNow q) ∧ 30 ≤ q.past.length ∧ l = [10]))))) := by
  unfold fillIn
  simp only [then_bad, items_bad, items_ok, need_bad, need_ok, going_bad, Bool.not_eq_true', Bool.not_eq_false', List.contains_iff_mem, ← Bool.not_eq_true (List.contains _ _)]
  constructor
  · rintro (a | ⟨_, ⟨a, rfl⟩, (⟨b, rfl⟩ | ⟨_, b, (⟨c, rfl⟩ | ⟨_, c, d, rfl⟩)⟩)⟩)
    · exact Or.inl a
    · exact Or.inr ⟨a, Or.inl ⟨b, rfl⟩⟩
    · exact Or.inr ⟨a, Or.inr ⟨b, Or.inl ⟨c, rfl⟩⟩⟩
    · exact Or.inr ⟨a, Or.inr ⟨b, Or.inr ⟨c, d, rfl⟩⟩⟩
  · rintro (a | ⟨a, (⟨b, rfl⟩ | ⟨b, (⟨c, rfl⟩ | ⟨c, d, rfl⟩)⟩)⟩)
    · exact Or.inl a
    · exact Or.inr ⟨f, ⟨a, rfl⟩, Or.inl ⟨b, rfl⟩⟩
    · exact Or.inr ⟨f, ⟨a, rfl⟩, Or.inr ⟨(), b, Or.inl ⟨c, rfl⟩⟩⟩
    · exact Or.inr ⟨f, ⟨a, rfl⟩, Or.inr ⟨(), b, Or.inr ⟨(), c, d, rfl⟩⟩⟩
theorem sell_bad {f : Stock} {q : Round} {l : Octets} : sellIn f q = .bad l ↔ (¬ Below f (q.shop.shelves.map fun _ => 9) ∧ l = [5]) ∨ (Below f (q.shop.shelves.map fun _ => 9) ∧ ((isOpen q = false ∧ l = [11]) ∨ (isOpen q = true ∧ ((f ∉ takings q.shop ∧ l = [12]) ∨ (f ∈ takings q.shop ∧ ((isBelow f (stockNow q) = false ∧ l = [13]) ∨ (isBelow f (stockNow q) = true ∧ 30 ≤ q.past.length ∧ l = [10]))))))) := by
  unfold sellIn
  simp only [then_bad, items_bad, items_ok, need_bad, need_ok, going_bad, List.contains_iff_mem, ← Bool.not_eq_true (List.contains _ _)]
  constructor
  · rintro (a | ⟨_, ⟨a, rfl⟩, (⟨b, rfl⟩ | ⟨_, b, (⟨c, rfl⟩ | ⟨_, c, (⟨d, rfl⟩ | ⟨_, d, e, rfl⟩)⟩)⟩)⟩)
    · exact Or.inl a
    · exact Or.inr ⟨a, Or.inl ⟨b, rfl⟩⟩
    · exact Or.inr ⟨a, Or.inr ⟨b, Or.inl ⟨c, rfl⟩⟩⟩
    · exact Or.inr ⟨a, Or.inr ⟨b, Or.inr ⟨c, Or.inl ⟨d, rfl⟩⟩⟩⟩
    · exact Or.inr ⟨a, Or.inr ⟨b, Or.inr ⟨c, Or.inr ⟨d, e, rfl⟩⟩⟩⟩
  · rintro (a | ⟨a, (⟨b, rfl⟩ | ⟨b, (⟨c, rfl⟩ | ⟨c, (⟨d, rfl⟩ | ⟨d, e, rfl⟩)⟩)⟩)⟩)
    · exact Or.inl a
    · exact Or.inr ⟨f, ⟨a, rfl⟩, Or.inl ⟨b, rfl⟩⟩
    · exact Or.inr ⟨f, ⟨a, rfl⟩, Or.inr ⟨(), b, Or.inl ⟨c, rfl⟩⟩⟩
    · exact Or.inr ⟨f, ⟨a, rfl⟩, Or.inr ⟨(), b, Or.inr ⟨(), c, Or.inl ⟨d, rfl⟩⟩⟩⟩
    · exact Or.inr ⟨f, ⟨a, rfl⟩, Or.inr ⟨(), b, Or.inr ⟨(), c, Or.inr ⟨(), d, e, rfl⟩⟩⟩⟩
theorem round_ok {w : World} {k : Nat} {t : List Nat} {z : World × Octets} : roundCall w k t = .ok z ↔ k < 8 ∧ ∃ p, shopFor t = .ok p ∧ z = (putRound w k (newRound p), []) := by
  unfold roundCall
  rw [then_ok]
  constructor
  · rintro ⟨_, h, m⟩
    rw [map_ok] at m
    obtain ⟨p, hp, rfl⟩ := m
    exact ⟨of_decide_eq_true (need_ok.1 h), p, hp, rfl⟩
  · rintro ⟨h, p, hp, rfl⟩
    refine ⟨(), need_ok.2 (decide_eq_true h), ?_⟩
    rw [map_ok]
    exact ⟨p, hp, rfl⟩
theorem round_bad {w : World} {k : Nat} {t : List Nat} {l : Octets} : roundCall w k t = .bad l ↔ (8 ≤ k ∧ l = [7]) ∨ (k < 8 ∧ shopFor t = .bad l) := by
  unfold roundCall
  rw [then_bad, need_bad]
  constructor
  · rintro (⟨h, rfl⟩ | ⟨_, h, m⟩)
    · have : ¬ k < 8 := of_decide_eq_false h
      exact Or.inl ⟨by omega, rfl⟩
    · rw [map_bad] at m
      exact Or.inr ⟨of_decide_eq_true (need_ok.1 h), m⟩
  · rintro (⟨h, rfl⟩ | ⟨h, m⟩)
    · exact Or.inl ⟨decide_eq_false (by show ¬ k < 8; omega), rfl⟩
    · exact Or.inr ⟨(), need_ok.2 (decide_eq_true h), by rw [map_bad]; exact m⟩
theorem told_ok_iff {w : World} {x : Res Octets} {z : World × Octets} : Rs.told w x = .ok z ↔ ∃ o, x = .ok o ∧ z = (w, o) := by
  unfold Rs.told
  rw [map_ok]
  exact ⟨fun ⟨o, h, k⟩ => ⟨o, h, k.symm⟩, fun ⟨o, h, k⟩ => ⟨o, h, k.symm⟩⟩
theorem told_bad_iff {w : World} {x : Res Octets} {l : Octets} : Rs.told w x = .bad l ↔ x = .bad l := map_bad

/-! ### what a request changes -/
theorem call_rounds {w : World} {x : Request} {z : World × Octets} (h : callOn w x = .ok z) : z.1 = w ∨ ∃ k q, z.1 = putRound w k q := by
  cases x with
  | format t => obtain ⟨o, _, rfl⟩ := told_ok_iff.1 h; exact Or.inl rfl
  | safe t s => obtain ⟨o, _, rfl⟩ := told_ok_iff.1 h; exact Or.inl rfl
  | filling t s => obtain ⟨o, _, rfl⟩ := told_ok_iff.1 h; exact Or.inl rfl
  | doom t s => obtain ⟨o, _, rfl⟩ := told_ok_iff.1 h; exact Or.inl rfl
  | attack t s => obtain ⟨o, _, rfl⟩ := told_ok_iff.1 h; exact Or.inl rfl
  | least t => obtain ⟨o, _, rfl⟩ := told_ok_iff.1 h; exact Or.inl rfl
  | fewest t => obtain ⟨o, _, rfl⟩ := told_ok_iff.1 h; exact Or.inl rfl
  | parting t u => obtain ⟨o, _, rfl⟩ := told_ok_iff.1 h; exact Or.inl rfl
  | round k t =>
    obtain ⟨_, p, _, rfl⟩ := round_ok.1 h
    exact Or.inr ⟨_, _, rfl⟩
  | fill k f =>
    obtain ⟨q, e, _, _, rfl⟩ := withRound_ok.1 h
    exact Or.inr ⟨_, _, rfl⟩
  | sell k f =>
    obtain ⟨q, e, _, _, rfl⟩ := withRound_ok.1 h
    exact Or.inr ⟨_, _, rfl⟩
  | undo k =>
    obtain ⟨q, e, _, _, rfl⟩ := withRound_ok.1 h
    exact Or.inr ⟨_, _, rfl⟩
  | look k => obtain ⟨o, _, rfl⟩ := told_ok_iff.1 h; exact Or.inl rfl
/-- what a step is: refused and unchanged, or a call that is done -/
theorem step_cases (w : World) (r : List UInt8) : ((requestOf (octetsOf r) = none ∧ Zz33Octets.step w r = (w, [1, 1])) ∨
    ∃ x, requestOf (octetsOf r) = some x ∧ ((∃ e, callOn w x = .bad e ∧ Zz33Octets.step w r = (w, bytesOf (1 :: e))) ∨ ∃ z, callOn w x = .ok z ∧ Zz33Octets.step w r = (z.1, bytesOf (0 :: z.2)))) := by
  cases h : requestOf (octetsOf r) with
  | none => exact Or.inl ⟨rfl, step_none h⟩
  | some x =>
    refine Or.inr ⟨x, rfl, ?_⟩
    cases k : callOn w x with
    | bad e => exact Or.inl ⟨e, rfl, step_bad h k⟩
    | ok z => exact Or.inr ⟨z, rfl, step_ok h k⟩
theorem step_length (w : World) (r : List UInt8) : (Zz33Octets.step w r).1.rounds.length = w.rounds.length := by
  rcases step_cases w r with ⟨_, e⟩ | ⟨x, _, (⟨e, _, q⟩ | ⟨z, k, q⟩)⟩
  · rw [e]
  · rw [q]
  · rw [q]
    rcases call_rounds k with e | ⟨i, y, e⟩
    · show z.1.rounds.length = _
      rw [e]
    · show z.1.rounds.length = _
      rw [e, put_length]
theorem behind_nil (s : World) : behind s [] = s := rfl
theorem behind_cons (s : World) (r : List UInt8) (l : List (List UInt8)) : behind s (r :: l) = behind (Zz33Octets.step s r).1 l := rfl
theorem behind_app (s : World) (a b : List (List UInt8)) : behind s (a ++ b) = behind (behind s a) b := by
  unfold behind
  rw [List.foldl_append]
theorem behind_keeps {P : World → Prop} (h : ∀ w r, P w → P (Zz33Octets.step w r).1) : ∀ (l : List (List UInt8)) (s : World), P s → P (behind s l)
  | [], _, k => k
  | r :: l, s, k => behind_keeps h l _ (h s r k)
theorem p_Seats_stay : Seats_stay := fun l => behind_keeps (P := fun w => w.rounds.length = 8) (fun w r h => by rw [step_length]; exact h) l start rfl

/-! ### rounds in any life -/
def RoundGood (q : Round) : Prop := IsShop q.shop ∧ (∀ m, m ∈ q.now :: q.past → IsStock q.shop m.1) ∧ q.past.length ≤ 30
def Good (w : World) : Prop := w.rounds.length = 8 ∧ ∀ k q, roundAt w k = some q → RoundGood q
theorem good_put {w : World} {k : Nat} {q : Round} (h : Good w) (hq : RoundGood q) : Good (putRound w k q) := by
  refine ⟨by rw [put_length]; exact h.1, fun j y hy => ?_⟩
  by_cases c : k = j
  · subst c
    by_cases l : k < w.rounds.length
    · rw [round_put l] at hy
      cases hy
      exact hq
    · have := round_lt hy
      rw [put_length] at this
      exact absurd this l
  · rw [round_put_ne c] at hy
    exact h.2 j y hy
theorem full_stock (p : Shop) : IsStock p (roomsOf p) := below_refl _
theorem good_step (w : World) (r : List UInt8) (h : Good w) : Good (Zz33Octets.step w r).1 := by
  rcases step_cases w r with ⟨_, e⟩ | ⟨x, _, (⟨e, _, q⟩ | ⟨z, k, q⟩)⟩
  · rw [e]; exact h
  · rw [q]; exact h
  · rw [q]
    show Good z.1
    cases x with
    | format t => obtain ⟨o, _, rfl⟩ := told_ok_iff.1 k; exact h
    | safe t s => obtain ⟨o, _, rfl⟩ := told_ok_iff.1 k; exact h
    | filling t s => obtain ⟨o, _, rfl⟩ := told_ok_iff.1 k; exact h
    | doom t s => obtain ⟨o, _, rfl⟩ := told_ok_iff.1 k; exact h
    | attack t s => obtain ⟨o, _, rfl⟩ := told_ok_iff.1 k; exact h
    | least t => obtain ⟨o, _, rfl⟩ := told_ok_iff.1 k; exact h
    | fewest t => obtain ⟨o, _, rfl⟩ := told_ok_iff.1 k; exact h
    | parting t u => obtain ⟨o, _, rfl⟩ := told_ok_iff.1 k; exact h
    | look i => obtain ⟨o, _, rfl⟩ := told_ok_iff.1 k; exact h
    | round i t =>
      obtain ⟨_, p, hp, rfl⟩ := round_ok.1 k
      refine good_put h ⟨shop_of_ok hp, fun m hm => ?_, by simp [newRound]⟩
      have hm : m ∈ [(roomsOf p, false)] := hm
      rw [List.mem_singleton] at hm
      subst hm
      exact full_stock p
    | fill i f =>
      obtain ⟨y, e, hy, he, rfl⟩ := withRound_ok.1 k
      obtain ⟨_, _, hf, hl, rfl⟩ := fill_ok.1 he
      obtain ⟨g1, g2, g3⟩ := h.2 i y hy
      have st : IsStock y.shop (stockNow y) := g2 y.now List.mem_cons_self
      refine good_put h ⟨g1, fun m hm => ?_, ?_⟩
      · have hm : m ∈ (plus (stockNow y) f, true) :: y.now :: y.past := hm
        rcases List.mem_cons.1 hm with rfl | hm
        · exact filled_stock ((mem_fillings st).1 hf)
        · exact g2 m hm
      · show (y.now :: y.past).length ≤ 30
        simp; omega
    | sell i f =>
      obtain ⟨y, e, hy, he, rfl⟩ := withRound_ok.1 k
      obtain ⟨_, _, hf, hb, hl, rfl⟩ := sell_ok.1 he
      obtain ⟨g1, g2, g3⟩ := h.2 i y hy
      have st : IsStock y.shop (stockNow y) := g2 y.now List.mem_cons_self
      refine good_put h ⟨g1, fun m hm => ?_, ?_⟩
      · have hm : m ∈ (minus (stockNow y) f, false) :: y.now :: y.past := hm
        rcases List.mem_cons.1 hm with rfl | hm
        · exact left_stock st (mem_takings.1 hf)
        · exact g2 m hm
      · show (y.now :: y.past).length ≤ 30
        simp; omega
    | undo i =>
      obtain ⟨y, e, hy, he, rfl⟩ := withRound_ok.1 k
      obtain ⟨g1, g2, g3⟩ := h.2 i y hy
      have he : Res.ok (undone y) = .ok e := he
      cases he
      refine good_put h ?_
      unfold undone
      cases c : y.past with
      | nil => exact ⟨g1, g2, g3⟩
      | cons m l =>
        refine ⟨g1, fun x hx => g2 x ?_, ?_⟩
        · rw [c]
          exact List.mem_cons_of_mem _ hx
        · rw [c] at g3
          simp at g3
          show l.length ≤ 30
          omega
theorem good_start : Good start := ⟨rfl, fun k q h => by rw [p_Start_empty k] at h; cases h⟩
theorem good_life (l : List (List UInt8)) : Good (behind start l) := behind_keeps good_step l start good_start
theorem p_Rounds_good : Rounds_good := fun l k r _ h => by
  obtain ⟨a, b, c⟩ := (good_life l).2 k r h
  exact ⟨a, b _ List.mem_cons_self, c⟩
theorem p_Round_lays : Round_lays := fun l r k t hr ha => by
  rw [behind_app]
  show ∃ p, _ ∧ roundAt (Zz33Octets.step (behind start l) r).1 k = _
  cases c : callOn (behind start l) (.round k t) with
  | bad e => rw [step_bad hr c] at ha; exact absurd ha said1
  | ok z =>
    obtain ⟨hk, p, hp, rfl⟩ := round_ok.1 c
    rw [step_ok hr c]
    exact ⟨p, hp, round_put (by rw [(good_life l).1]; exact hk)⟩
theorem p_Round_answers : Round_answers := fun w r k t p hw hr hk hp => by
  have c : callOn w (.round k t) = .ok (putRound w k (newRound p), []) := round_ok.2 ⟨hk, p, hp, rfl⟩
  rw [step_ok hr c]
  exact ⟨rfl, round_put (by rw [hw]; exact hk)⟩
theorem nine_of {p : Shop} {f : Stock} {n : Nat} (hl : f.length = p.shelves.length) (h : ∀ x, x ∈ f → x ≤ n) (hn : n ≤ 9) : Below f (p.shelves.map fun _ => 9) :=
  const_below.2 ⟨hl, fun x hx => Nat.le_trans (h x hx) hn⟩
theorem mem_total : ∀ {l : List Nat} {x : Nat}, x ∈ l → x ≤ totalOf l
  | [], _, h => by simp at h
  | y :: l, x, h => by
    simp only [totalOf, List.foldr_cons]
    rcases List.mem_cons.1 h with rfl | h
    · omega
    · have := mem_total h
      simp only [totalOf] at this
      omega
theorem nine_filling {p : Shop} {s f : Stock} (hp : IsShop p) (hs : IsStock p s) (h : IsFilling p s f) : Below f (p.shelves.map fun _ => 9) :=
  nine_of (h.1.trans (stock_length hs)) (fun _ hx => Nat.le_trans (mem_total hx) h.2.2.1) hp.2.2.2.2.2.2.1
theorem nine_taking {p : Shop} {t : Stock} (hp : IsShop p) (h : IsTaking p t) : Below t (p.shelves.map fun _ => 9) := by
  obtain ⟨_, a, b, c, d, _⟩ := hp
  exact nine_of h.1 h.2.1 (by omega)
theorem p_Fill_answers : Fill_answers := fun l r k f q hr hq => by
  obtain ⟨g1, g2, g3⟩ := (good_life l).2 k q hq
  have st : IsStock q.shop q.now.1 := g2 _ List.mem_cons_self
  have lt := round_lt hq
  generalize behind start l = w at hq lt
  constructor
  · constructor
    · intro ha
      cases c : callOn w (.fill k f) with
      | bad e => rw [step_bad hr c] at ha; exact absurd ha said1
      | ok z =>
        obtain ⟨y, e, hy, he, rfl⟩ := withRound_ok.1 c
        rw [hq] at hy
        cases hy
        obtain ⟨_, o, hf, hl, rfl⟩ := fill_ok.1 he
        exact ⟨o, (mem_fillings st).1 hf, hl⟩
    · rintro ⟨o, hf, hl⟩
      have c : callOn w (.fill k f) = .ok (putRound w k (moved q (plus (stockNow q) f, true)), []) :=
        withRound_ok.2 ⟨q, _, hq, fill_ok.2 ⟨nine_filling g1 st hf, o, (mem_fillings st).2 hf, hl, rfl⟩, rfl⟩
      rw [step_ok hr c]
      rfl
  · intro ha
    cases c : callOn w (.fill k f) with
    | bad e => rw [step_bad hr c] at ha; exact absurd ha said1
    | ok z =>
      rw [step_ok hr c]
      obtain ⟨y, e, hy, he, rfl⟩ := withRound_ok.1 c
      rw [hq] at hy
      cases hy
      obtain ⟨_, o, hf, hl, rfl⟩ := fill_ok.1 he
      exact round_put lt
theorem p_Sell_answers : Sell_answers := fun l r k f q hr hq => by
  obtain ⟨g1, g2, g3⟩ := (good_life l).2 k q hq
  have st : IsStock q.shop q.now.1 := g2 _ List.mem_cons_self
  have lt := round_lt hq
  generalize behind start l = w at hq lt
  refine ⟨⟨?_, ?_⟩, ?_, ?_⟩
  · intro ha
    cases c : callOn w (.sell k f) with
    | bad e => rw [step_bad hr c] at ha; exact absurd ha said1
    | ok z =>
      obtain ⟨y, e, hy, he, rfl⟩ := withRound_ok.1 c
      rw [hq] at hy
      cases hy
      obtain ⟨_, o, hf, hb, hl, rfl⟩ := sell_ok.1 he
      exact ⟨o, mem_takings.1 hf, isBelow_iff.1 hb, hl⟩
  · rintro ⟨o, hf, hb, hl⟩
    have c : callOn w (.sell k f) = .ok (putRound w k (moved q (minus (stockNow q) f, false)), []) :=
      withRound_ok.2 ⟨q, _, hq, sell_ok.2 ⟨nine_taking g1 hf, o, mem_takings.2 hf, isBelow_iff.2 hb, hl, rfl⟩, rfl⟩
    rw [step_ok hr c]
    rfl
  · intro ha
    cases c : callOn w (.sell k f) with
    | bad e => rw [step_bad hr c] at ha; exact absurd ha said1
    | ok z =>
      rw [step_ok hr c]
      obtain ⟨y, e, hy, he, rfl⟩ := withRound_ok.1 c
      rw [hq] at hy
      cases hy
      obtain ⟨_, o, hf, hb, hl, rfl⟩ := sell_ok.1 he
      exact round_put lt
  · intro o hf hb
    have c : callOn w (.sell k f) = .bad [13] :=
      withRound_bad.2 (Or.inr ⟨q, hq, sell_bad.2 (Or.inr ⟨nine_taking g1 hf, Or.inr ⟨o, Or.inr ⟨mem_takings.2 hf, Or.inl ⟨isBelow_false.2 hb, rfl⟩⟩⟩⟩)⟩)
    rw [step_bad hr c]
    rfl
theorem p_Fill_refused : Fill_refused := fun l r k f q hr hq => by
  obtain ⟨g1, g2, g3⟩ := (good_life l).2 k q hq
  have st : IsStock q.shop q.now.1 := g2 _ List.mem_cons_self
  generalize behind start l = w at hq
  have out : ∀ n, fillIn f q = .bad [n] → (Zz33Octets.step w r).2 = bytesOf [1, n] := fun n h => by
    have c : callOn w (.fill k f) = .bad [n] := withRound_bad.2 (Or.inr ⟨q, hq, h⟩)
    rw [step_bad hr c]
  refine ⟨fun h => ?_, fun h => ⟨fun o => ?_, fun o => ⟨fun hf => ?_, fun hf hl => ?_⟩⟩⟩
  · exact out 5 (fill_bad.2 (Or.inl ⟨h, rfl⟩))
  · exact out 8 (fill_bad.2 (Or.inr ⟨h, Or.inl ⟨o, rfl⟩⟩))
  · exact out 9 (fill_bad.2 (Or.inr ⟨h, Or.inr ⟨o, Or.inl ⟨fun z => hf ((mem_fillings st).1 z), rfl⟩⟩⟩))
  · exact out 10 (fill_bad.2 (Or.inr ⟨h, Or.inr ⟨o, Or.inr ⟨(mem_fillings st).2 hf, hl, rfl⟩⟩⟩))
theorem p_Sell_refused : Sell_refused := fun l r k f q hr hq => by
  generalize behind start l = w at hq
  have out : ∀ n, sellIn f q = .bad [n] → (Zz33Octets.step w r).2 = bytesOf [1, n] := fun n h => by
    have c : callOn w (.sell k f) = .bad [n] := withRound_bad.2 (Or.inr ⟨q, hq, h⟩)
    rw [step_bad hr c]
  refine ⟨fun h => ?_, fun h => ⟨fun o => ?_, fun o => ⟨fun hf => ?_, fun hf hb => ?_⟩⟩⟩
  · exact out 5 (sell_bad.2 (Or.inl ⟨h, rfl⟩))
  · exact out 11 (sell_bad.2 (Or.inr ⟨h, Or.inl ⟨o, rfl⟩⟩))
  · exact out 12 (sell_bad.2 (Or.inr ⟨h, Or.inr ⟨o, Or.inl ⟨fun z => hf (mem_takings.1 z), rfl⟩⟩⟩))
  · exact out 13 (sell_bad.2 (Or.inr ⟨h, Or.inr ⟨o, Or.inr ⟨mem_takings.2 hf, Or.inl ⟨isBelow_false.2 hb, rfl⟩⟩⟩⟩))
theorem undo_call {w : World} {k : Nat} {q : Round} (hq : roundAt w k = some q) : callOn w (.undo k) = .ok (putRound w k (undone q).1, (undone q).2) := withRound_ok.2 ⟨q, undone q, hq, rfl, rfl⟩
theorem p_Undo_answers : Undo_answers := fun l r k q hr hq => by
  have lt := round_lt hq
  generalize behind start l = w at hq lt
  have c := undo_call hq
  rw [step_ok hr c]
  refine ⟨fun h => ?_, fun m t h => ?_⟩
  · have : undone q = (q, putFlag false) := by unfold undone; rw [h]
    rw [this]
    exact ⟨rfl, round_put lt⟩
  · have : undone q = (⟨q.shop, m, t⟩, putFlag true) := by unfold undone; rw [h]
    rw [this]
    exact ⟨rfl, round_put lt⟩
theorem p_Undo_back : Undo_back := fun w r u k f q hr ha hq hu => by
  have lt := round_lt hq
  have key : ∃ m, (Zz33Octets.step w r).1 = putRound w k (moved q m) := by
    rcases hr with hr | hr
    · cases c : callOn w (.fill k f) with
      | bad e => rw [step_bad hr c] at ha; exact absurd ha said1
      | ok z =>
        rw [step_ok hr c]
        obtain ⟨y, e, hy, he, rfl⟩ := withRound_ok.1 c
        rw [hq] at hy
        cases hy
        obtain ⟨_, o, hf, hl, rfl⟩ := fill_ok.1 he
        exact ⟨_, rfl⟩
    · cases c : callOn w (.sell k f) with
      | bad e => rw [step_bad hr c] at ha; exact absurd ha said1
      | ok z =>
        rw [step_ok hr c]
        obtain ⟨y, e, hy, he, rfl⟩ := withRound_ok.1 c
        rw [hq] at hy
        cases hy
        obtain ⟨_, o, hf, hb, hl, rfl⟩ := sell_ok.1 he
        exact ⟨_, rfl⟩
  obtain ⟨m, e⟩ := key
  rw [e]
  have c := undo_call (w := putRound w k (moved q m)) (k := k) (round_put lt)
  rw [step_ok hu c]
  exact ⟨rfl, round_put (by rw [put_length]; exact lt)⟩
theorem look_call {w : World} {k : Nat} {q : Round} (hq : roundAt w k = some q) : callOn w (.look k) = .ok (w, putLook q) := by
  refine told_ok_iff.2 ⟨putLook q, ?_, rfl⟩
  unfold lookCall
  rw [hq]
  rfl
theorem p_Look_shows : Look_shows := fun l r k q _ hr hq => by
  obtain ⟨g1, g2, g3⟩ := (good_life l).2 k q hq
  have st : IsStock q.shop (stockNow q) := g2 _ List.mem_cons_self
  rw [step_ok hr (look_call hq)]
  exact ⟨rfl, (p_round_exact q st).1, (p_round_exact q st).2⟩
theorem p_Look_told : Look_told := fun l r k q hr hq => by
  obtain ⟨g1, g2, g3⟩ := (good_life l).2 k q hq
  have st : IsStock q.shop q.now.1 := g2 _ List.mem_cons_self
  rw [step_ok hr (look_call hq)]
  refine ⟨isWell q, putMaybe putNumbers (hintOf q), rfl, fun o => ⟨((p_round_exact q st).1 o).1, ?_⟩, fun o => ⟨((p_round_exact q st).2 o).1, ?_, fun t ht => ?_⟩⟩
  · rw [((p_round_exact q st).1 o).2]
    rfl
  · rw [((p_round_exact q st).2 o).2]
    rfl
  · rw [((p_round_exact q st).2 o).2]
    exact says_filling ht st
theorem p_Seats_refused : Seats_refused := fun w r k x hr h => by
  have c : callOn w x = .bad [7] := by
    rcases h with ⟨⟨t, rfl⟩, hk⟩ | ⟨hq, (⟨f, (rfl | rfl)⟩ | rfl | rfl)⟩
    · exact round_bad.2 (Or.inl ⟨hk, rfl⟩)
    · exact withRound_bad.2 (Or.inl ⟨hq, rfl⟩)
    · exact withRound_bad.2 (Or.inl ⟨hq, rfl⟩)
    · exact withRound_bad.2 (Or.inl ⟨hq, rfl⟩)
    · refine told_bad_iff.2 ?_
      unfold lookCall
      rw [hq]
      rfl
  rw [step_bad hr c]
  rfl
end RsP

namespace RsP
open Rs Zz33Law
open Zz33Octets (octetsOf bytesOf start fits)

/-! ### each seat for itself, what only tells -/
theorem octets_cons (n : UInt8) (r : List UInt8) : octetsOf (n :: r) = n.toNat :: octetsOf r := rfl
theorem request_call' {n : UInt8} {r : List UInt8} {x : Request} (h : requestOf (octetsOf (n :: r)) = some x) : callOf x = n.toNat ∧ IsRequest x ∧ octetsOf r = bodyOf x := by
  obtain ⟨a, b⟩ := (request_iff (octets_bytes _)).1 h
  rw [octets_cons, List.cons.injEq] at b
  exact ⟨b.1.symm, a, b.2⟩
theorem p_Calls_keep : Calls_keep := fun s n r hn => by
  rcases step_cases s (n :: r) with ⟨_, e⟩ | ⟨x, hx, (⟨e, _, q⟩ | ⟨z, k, q⟩)⟩
  · rw [e]
  · rw [q]
  · rw [q]
    obtain ⟨c, _, _⟩ := request_call' hx
    have hn' : n.toNat ≤ 8 ∨ 13 ≤ n.toNat := hn.imp UInt8.le_iff_toNat_le.1 UInt8.le_iff_toNat_le.1
    cases x with
    | format t => obtain ⟨o, _, rfl⟩ := told_ok_iff.1 k; rfl
    | safe t s => obtain ⟨o, _, rfl⟩ := told_ok_iff.1 k; rfl
    | filling t s => obtain ⟨o, _, rfl⟩ := told_ok_iff.1 k; rfl
    | doom t s => obtain ⟨o, _, rfl⟩ := told_ok_iff.1 k; rfl
    | attack t s => obtain ⟨o, _, rfl⟩ := told_ok_iff.1 k; rfl
    | least t => obtain ⟨o, _, rfl⟩ := told_ok_iff.1 k; rfl
    | fewest t => obtain ⟨o, _, rfl⟩ := told_ok_iff.1 k; rfl
    | parting t u => obtain ⟨o, _, rfl⟩ := told_ok_iff.1 k; rfl
    | look i => obtain ⟨o, _, rfl⟩ := told_ok_iff.1 k; rfl
    | round i t => have c : 9 = n.toNat := c; omega
    | fill i t => have c : 10 = n.toNat := c; omega
    | sell i t => have c : 11 = n.toNat := c; omega
    | undo i => have c : 12 = n.toNat := c; omega
theorem p_Seats_apart : Seats_apart := fun s n i r j hj hn => by
  rcases step_cases s (n :: i :: r) with ⟨_, e⟩ | ⟨x, hx, (⟨e, _, q⟩ | ⟨z, k, q⟩)⟩
  · rw [e]
  · rw [q]
  · rw [q]
    obtain ⟨c, hr, hb⟩ := request_call' hx
    rw [octets_cons] at hb
    have hn' : 9 ≤ n.toNat := UInt8.le_iff_toNat_le.1 hn
    have key : ∀ (k : Nat) (l : Octets), k < 256 → i.toNat :: octetsOf r = putU8 k ++ l → k ≠ j := fun k l hk e => by
      have e : i.toNat :: octetsOf r = k % 256 :: l := e
      rw [List.cons.injEq] at e
      intro z
      have := e.1
      rw [Nat.mod_eq_of_lt hk] at this
      exact hj (by omega)
    cases x with
    | format t => obtain ⟨o, _, rfl⟩ := told_ok_iff.1 k; rfl
    | safe t s => obtain ⟨o, _, rfl⟩ := told_ok_iff.1 k; rfl
    | filling t s => obtain ⟨o, _, rfl⟩ := told_ok_iff.1 k; rfl
    | doom t s => obtain ⟨o, _, rfl⟩ := told_ok_iff.1 k; rfl
    | attack t s => obtain ⟨o, _, rfl⟩ := told_ok_iff.1 k; rfl
    | least t => obtain ⟨o, _, rfl⟩ := told_ok_iff.1 k; rfl
    | fewest t => obtain ⟨o, _, rfl⟩ := told_ok_iff.1 k; rfl
    | parting t u => obtain ⟨o, _, rfl⟩ := told_ok_iff.1 k; rfl
    | look i => obtain ⟨o, _, rfl⟩ := told_ok_iff.1 k; rfl
    | round m t =>
      obtain ⟨_, p, _, rfl⟩ := round_ok.1 k
      exact round_put_ne (key m (putText t) hr.1 hb)
    | fill m t =>
      obtain ⟨_, _, _, _, rfl⟩ := withRound_ok.1 k
      exact round_put_ne (key m (putNumbers t) hr.1 hb)
    | sell m t =>
      obtain ⟨_, _, _, _, rfl⟩ := withRound_ok.1 k
      exact round_put_ne (key m (putNumbers t) hr.1 hb)
    | undo m =>
      obtain ⟨_, _, _, _, rfl⟩ := withRound_ok.1 k
      exact round_put_ne (key m [] hr (by rw [List.append_nil]; exact hb))
/-- the octets of an error -/
def Err (e : Octets) : Prop := ∃ n l, e = n :: l ∧ 1 ≤ n ∧ n ≤ 13 ∧ l.length ≤ 2
theorem err_of {n : Nat} (h1 : 1 ≤ n) (h2 : n ≤ 13) : Err [n] := ⟨n, [], rfl, h1, h2, by simp⟩
theorem err_shop {t : List Nat} {e : Octets} (h : shopFor t = .bad e) : Err e := by
  rcases shopFor_bad (t := t) with ⟨p, k⟩ | ⟨_, k⟩ | ⟨n, k⟩
  · rw [k] at h; cases h
  · rw [k] at h; cases h
    exact err_of (by decide) (by decide)
  · rw [k] at h; cases h
    exact ⟨3, _, rfl, by decide, by decide, by simp [putU16]⟩
theorem err_at {t : List Nat} {s : Stock} {f : Shop → Stock → Octets} {e : Octets} (h : atStock t s f = .bad e) : Err e := by
  unfold atStock at h
  rw [then_bad] at h
  rcases h with h | ⟨p, _, h⟩
  · exact err_shop h
  · rw [map_bad] at h
    rw [(stock_bad.1 h).2]
    exact err_of (by decide) (by decide)
theorem err_call {w : World} {x : Request} {e : Octets} (h : callOn w x = .bad e) : Err e := by
  cases x with
  | format t => exact err_shop (map_bad.1 (told_bad_iff.1 h))
  | safe t s => exact err_at (told_bad_iff.1 h)
  | filling t s => exact err_at (told_bad_iff.1 h)
  | doom t s => exact err_at (told_bad_iff.1 h)
  | attack t s => exact err_at (told_bad_iff.1 h)
  | least t => exact err_shop (map_bad.1 (told_bad_iff.1 h))
  | fewest t => exact err_shop (map_bad.1 (told_bad_iff.1 h))
  | parting t u =>
    have h := told_bad_iff.1 h
    unfold partingCall at h
    rw [then_bad] at h
    rcases h with h | ⟨p, _, h⟩
    · exact err_shop h
    · rw [then_bad] at h
      rcases h with h | ⟨q, _, h⟩
      · exact err_shop h
      · rw [then_bad] at h
        rcases h with h | ⟨_, _, h⟩
        · rw [(need_bad.1 h).2]
          exact err_of (by decide) (by decide)
        · cases h
  | round k t =>
    rcases round_bad.1 h with ⟨_, rfl⟩ | ⟨_, h⟩
    · exact err_of (by decide) (by decide)
    · exact err_shop h
  | fill k f =>
    rcases withRound_bad.1 h with ⟨_, rfl⟩ | ⟨q, _, h⟩
    · exact err_of (by decide) (by decide)
    · rcases fill_bad.1 h with ⟨_, rfl⟩ | ⟨_, (⟨_, rfl⟩ | ⟨_, (⟨_, rfl⟩ | ⟨_, _, rfl⟩)⟩)⟩
      all_goals exact err_of (by decide) (by decide)
  | sell k f =>
    rcases withRound_bad.1 h with ⟨_, rfl⟩ | ⟨q, _, h⟩
    · exact err_of (by decide) (by decide)
    · rcases sell_bad.1 h with ⟨_, rfl⟩ | ⟨_, (⟨_, rfl⟩ | ⟨_, (⟨_, rfl⟩ | ⟨_, (⟨_, rfl⟩ | ⟨_, _, rfl⟩)⟩)⟩)⟩
      all_goals exact err_of (by decide) (by decide)
  | undo k =>
    rcases withRound_bad.1 h with ⟨_, rfl⟩ | ⟨q, _, h⟩
    · exact err_of (by decide) (by decide)
    · cases h
  | look k =>
    have h := told_bad_iff.1 h
    unfold lookCall at h
    rw [map_bad] at h
    cases c : roundAt w k with
    | none =>
      rw [c] at h
      cases h
      exact err_of (by decide) (by decide)
    | some q =>
      rw [c] at h
      cases h
theorem p_Refused_keeps : Refused_keeps := fun s r => by
  rcases step_cases s r with ⟨_, e⟩ | ⟨x, _, (⟨e, k, q⟩ | ⟨z, _, q⟩)⟩
  · rw [e]
    exact Or.inr ⟨⟨1, [], rfl, by decide, by decide⟩, rfl⟩
  · rw [q]
    obtain ⟨n, l, rfl, h1, h2, _⟩ := err_call k
    refine Or.inr ⟨⟨UInt8.ofNat n, bytesOf l, rfl, ?_⟩, rfl⟩
    have : ∀ n : Fin 14, 1 ≤ n.val → (1 : UInt8) ≤ UInt8.ofNat n.val ∧ UInt8.ofNat n.val ≤ 13 := by decide +kernel
    exact this ⟨n, by omega⟩ h1
  · rw [q]
    exact Or.inl ⟨_, rfl⟩
theorem p_Calls_alone : Calls_alone := fun s z n r hn => by
  cases h : requestOf (octetsOf (n :: r)) with
  | none => rw [step_none h, step_none h]
  | some x =>
    obtain ⟨c, _, _⟩ := request_call' h
    have hn' : n.toNat ≤ 9 := UInt8.le_iff_toNat_le.1 hn
    have both : ∀ y : Res Octets, (∀ w, callOn w x = Rs.told w y) → (Zz33Octets.step s (n :: r)).2 = (Zz33Octets.step z (n :: r)).2 := fun y hy => by
      cases y with
      | bad e => rw [step_bad h (hy s), step_bad h (hy z)]
      | ok o => rw [step_ok h (hy s), step_ok h (hy z)]
    cases x with
    | format t => exact both _ fun _ => rfl
    | safe t s => exact both _ fun _ => rfl
    | filling t s => exact both _ fun _ => rfl
    | doom t s => exact both _ fun _ => rfl
    | attack t s => exact both _ fun _ => rfl
    | least t => exact both _ fun _ => rfl
    | fewest t => exact both _ fun _ => rfl
    | parting t u => exact both _ fun _ => rfl
    | round k t =>
      cases c1 : callOn s (.round k t) with
      | bad e =>
        have c2 : callOn z (.round k t) = .bad e := round_bad.2 (round_bad.1 c1)
        rw [step_bad h c1, step_bad h c2]
      | ok y =>
        obtain ⟨hk, p, hp, rfl⟩ := round_ok.1 c1
        have c2 : callOn z (.round k t) = .ok (putRound z k (newRound p), []) := round_ok.2 ⟨hk, p, hp, rfl⟩
        rw [step_ok h c1, step_ok h c2]
    | fill i t => have c : 10 = n.toNat := c; omega
    | sell i t => have c : 11 = n.toNat := c; omega
    | undo i => have c : 12 = n.toNat := c; omega
    | look i => have c : 13 = n.toNat := c; omega

/-! ### the hints keep -/
def Well (k : Nat) (w : World) : Prop := Good w ∧ ∃ q, roundAt w k = some q ∧ isWell q = true
theorem well_stock {w : World} {k : Nat} {q : Round} (h : Good w) (hq : roundAt w k = some q) : IsStock q.shop (stockNow q) := (h.2 k q hq).2.1 _ List.mem_cons_self
theorem well_step {k : Nat} {w : World} {r : List UInt8} (h : Well k w) (f : Follows k w r) : Well k (Zz33Octets.step w r).1 := by
  obtain ⟨g, q, hq, hw⟩ := h
  refine ⟨good_step w r g, ?_⟩
  have st := well_stock g hq
  have lt := round_lt hq
  rcases step_cases w r with ⟨_, e⟩ | ⟨x, hx, (⟨e, _, s⟩ | ⟨z, c, s⟩)⟩
  · rw [e]; exact ⟨q, hq, hw⟩
  · rw [s]; exact ⟨q, hq, hw⟩
  · obtain ⟨f1, f2, f3⟩ := f x hx
    rw [s] at f1 f2 f3 ⊢
    show ∃ q, roundAt z.1 k = some q ∧ _
    cases x with
    | format t => obtain ⟨o, _, rfl⟩ := told_ok_iff.1 c; exact ⟨q, hq, hw⟩
    | safe t s => obtain ⟨o, _, rfl⟩ := told_ok_iff.1 c; exact ⟨q, hq, hw⟩
    | filling t s => obtain ⟨o, _, rfl⟩ := told_ok_iff.1 c; exact ⟨q, hq, hw⟩
    | doom t s => obtain ⟨o, _, rfl⟩ := told_ok_iff.1 c; exact ⟨q, hq, hw⟩
    | attack t s => obtain ⟨o, _, rfl⟩ := told_ok_iff.1 c; exact ⟨q, hq, hw⟩
    | least t => obtain ⟨o, _, rfl⟩ := told_ok_iff.1 c; exact ⟨q, hq, hw⟩
    | fewest t => obtain ⟨o, _, rfl⟩ := told_ok_iff.1 c; exact ⟨q, hq, hw⟩
    | parting t u => obtain ⟨o, _, rfl⟩ := told_ok_iff.1 c; exact ⟨q, hq, hw⟩
    | look i => obtain ⟨o, _, rfl⟩ := told_ok_iff.1 c; exact ⟨q, hq, hw⟩
    | round i t =>
      obtain ⟨_, p, hp, rfl⟩ := round_ok.1 c
      by_cases e : i = k
      · subst e
        exact absurd rfl (f1 t rfl)
      · exact ⟨q, by rw [round_put_ne e]; exact hq, hw⟩
    | fill i t =>
      obtain ⟨y, e, hy, he, rfl⟩ := withRound_ok.1 c
      by_cases e' : i = k
      · subst e'
        rw [hq] at hy
        cases hy
        obtain ⟨_, o, hf, hl, rfl⟩ := fill_ok.1 he
        have hint := f3 t q rfl rfl hq
        have hint' : fillingOf q.shop (stockNow q) = some t := by
          rw [← ((p_round_exact q st).2 o).2]
          exact hint
        obtain ⟨_, b, _⟩ := filling_some st hint'
        exact ⟨_, round_put lt, staysWell_iff.2 b⟩
      · exact ⟨q, by rw [round_put_ne e']; exact hq, hw⟩
    | sell i t =>
      obtain ⟨y, e, hy, he, rfl⟩ := withRound_ok.1 c
      by_cases e' : i = k
      · subst e'
        rw [hq] at hy
        cases hy
        obtain ⟨_, o, hf, hb, hl, rfl⟩ := sell_ok.1 he
        have sw := ((p_round_exact q st).1 o).1.1 hw
        exact ⟨_, round_put lt, isSafe_iff.2 (sw t (mem_takings.1 hf)).2⟩
      · exact ⟨q, by rw [round_put_ne e']; exact hq, hw⟩
    | undo i =>
      obtain ⟨y, e, hy, he, rfl⟩ := withRound_ok.1 c
      by_cases e' : i = k
      · subst e'
        rw [hq] at hy
        cases hy
        have he : Res.ok (undone q) = .ok e := he
        cases he
        unfold undone at f2 ⊢
        cases p : q.past with
        | nil => exact ⟨q, round_put lt, hw⟩
        | cons m l =>
          rw [p] at f2
          exact absurd rfl (f2 rfl)
      · exact ⟨q, by rw [round_put_ne e']; exact hq, hw⟩
theorem well_life {k : Nat} : ∀ (c d : List (List UInt8)) (w : World), Well k w → FollowsAll k w (c ++ d) → Well k (behind w c)
  | [], _, _, h, _ => h
  | r :: c, d, w, h, f => well_life c d _ (well_step h f.1) f.2
theorem p_Hints_keep : Hints_keep := fun a b k q _ hq hw hf c d r t hb hr => by
  subst hb
  have W := well_life (k := k) c (r :: d) (behind start a) ⟨good_life a, q, hq, hw⟩ hf
  rw [behind_app]
  generalize behind (behind start a) c = w at W
  obtain ⟨g, y, hy, yw⟩ := W
  have st := well_stock g hy
  intro bad
  cases e : callOn w (.sell k t) with
  | ok z =>
    rw [step_ok hr e] at bad
    exact absurd bad said0'
  | bad l =>
    rw [step_bad hr e] at bad
    rcases withRound_bad.1 e with ⟨n, _⟩ | ⟨x, hx, h⟩
    · rw [n] at hy; cases hy
    · rw [hy] at hx
      cases hx
      rcases sell_bad.1 h with ⟨_, rfl⟩ | ⟨_, (⟨_, rfl⟩ | ⟨o, (⟨_, rfl⟩ | ⟨ht, (⟨nb, rfl⟩ | ⟨_, _, rfl⟩)⟩)⟩)⟩
      · exact absurd (show bytesOf _ = _ from bad) (by decide)
      · exact absurd (show bytesOf _ = _ from bad) (by decide)
      · exact absurd (show bytesOf _ = _ from bad) (by decide)
      · have sw := ((p_round_exact y st).1 o).1.1 yw
        have := (sw t (mem_takings.1 ht)).1
        rw [nb] at this
        cases this
      · exact absurd (show bytesOf _ = _ from bad) (by decide)

/-! ### no answer is long -/
theorem numbers_length (l : List Nat) : (putNumbers l).length = l.length + 1 := by
  unfold putNumbers putList8 putU8
  simp
  induction l with
  | nil => rfl
  | cons a l ih => simp [ih]; omega
theorem maybe_length {o : Option Stock} (h : ∀ f, o = some f → f.length ≤ 3) : (putMaybe putNumbers o).length ≤ 5 := by
  cases o with
  | none => simp [putMaybe]
  | some f =>
    have := h f rfl
    simp only [putMaybe, List.length_cons, numbers_length]
    omega
theorem stock_short {p : Shop} {s : Stock} (hp : IsShop p) (h : IsStock p s) : s.length ≤ 3 := by
  rw [stock_length h]
  exact hp.1.2.1
theorem filling_short {p : Shop} {s : Stock} (hp : IsShop p) (h : IsStock p s) : (putMaybe putNumbers (fillingOf p s)).length ≤ 5 := maybe_length fun f e => by
  rw [(filling_some h e).1.1]
  exact stock_short hp h
theorem answer_at {t : List Nat} {s : Stock} {f : Shop → Stock → Octets} {o : Octets} (h : atStock t s f = .ok o) (k : ∀ p, IsShop p → IsStock p s → (f p s).length ≤ 900) : o.length ≤ 900 := by
  unfold atStock at h
  rw [then_ok] at h
  obtain ⟨p, hp, h⟩ := h
  rw [map_ok] at h
  obtain ⟨z, hz, rfl⟩ := h
  obtain ⟨hs, rfl⟩ := stock_ok.1 hz
  exact k p (shop_of_ok hp) hs
theorem flat_length {l : List Stock} (h : ∀ s, s ∈ l → s.length ≤ 3) : (l.flatMap putNumbers).length ≤ 4 * l.length := by
  induction l with
  | nil => simp
  | cons s l ih =>
    have a := h s List.mem_cons_self
    have b := ih fun x hx => h x (List.mem_cons_of_mem _ hx)
    rw [List.flatMap_cons, List.length_append, numbers_length, List.length_cons]
    omega
theorem safe_length (p : Shop) : (safeStocks p).length ≤ bound p := by
  obtain ⟨m, e, _⟩ := safe_kept p
  rw [e]
  have : ∀ n, (kept p n).length ≤ bound p := fun n => by
    induction n with
    | zero => exact Nat.le_refl _
    | succ n ih => exact Nat.le_trans (List.length_filter_le _ _) ih
  exact this m
theorem answer_ok {w : World} {x : Request} {z : World × Octets} (g : Good w) (h : callOn w x = .ok z) : z.2.length ≤ 900 := by
  cases x with
  | format t =>
    obtain ⟨o, k1, rfl⟩ := told_ok_iff.1 h; have h := k1; clear k1
    unfold formatCall at h
    rw [map_ok] at h
    obtain ⟨p, hp, rfl⟩ := h
    show (putUnits (shopUnits p)).length ≤ 900
    have := shop_length (shop_of_ok hp)
    unfold putUnits putList16 putU16
    have e : ∀ l : Units, (l.flatMap fun c => putU8 c.toNat).length = l.length := fun l => by
      induction l with
      | nil => rfl
      | cons a l ih => rw [List.flatMap_cons, List.length_append, ih]; simp [putU8]; omega
    rw [List.length_append, e]
    simp
    omega
  | safe t s =>
    obtain ⟨o, k1, rfl⟩ := told_ok_iff.1 h; have h := k1; clear k1
    refine answer_at (f := fun p s => putFlag (isSafe p s)) h fun p _ _ => ?_
    unfold putFlag
    split <;> simp
  | filling t s =>
    obtain ⟨o, k1, rfl⟩ := told_ok_iff.1 h; have h := k1; clear k1
    exact answer_at h fun p hp hs => Nat.le_trans (filling_short hp hs) (by decide)
  | doom t s =>
    obtain ⟨o, k1, rfl⟩ := told_ok_iff.1 h; have h := k1; clear k1
    refine answer_at h fun p _ _ => ?_
    cases doomOf p s <;> simp [putMaybe, putU16]
  | attack t s =>
    obtain ⟨o, k1, rfl⟩ := told_ok_iff.1 h; have h := k1; clear k1
    refine answer_at h fun p hp hs => Nat.le_trans (maybe_length fun f e => ?_) (by decide)
    rw [(attack_some hs e).1.1]
    exact hp.1.2.1
  | least t =>
    obtain ⟨o, k1, rfl⟩ := told_ok_iff.1 h; have h := k1; clear k1
    unfold leastCall at h
    rw [map_ok] at h
    obtain ⟨p, hp, rfl⟩ := h
    have sp := shop_of_ok hp
    show (putU16 (leastOf p).length ++ (leastOf p).flatMap putNumbers).length ≤ 900
    have a := flat_length (l := leastOf p) fun s hs => stock_short sp (mem_least.1 hs).1
    have b : (leastOf p).length ≤ 125 := Nat.le_trans (List.length_filter_le _ _) (Nat.le_trans (safe_length p) (bound_le sp))
    rw [List.length_append, show (putU16 (leastOf p).length).length = 2 from rfl]
    omega
  | fewest t =>
    obtain ⟨o, k1, rfl⟩ := told_ok_iff.1 h; have h := k1; clear k1
    unfold fewestCall at h
    rw [map_ok] at h
    obtain ⟨p, hp, rfl⟩ := h
    show (putMaybe putU8 (fewestItems p) ++ putMaybe putU8 (fewestOnto p)).length ≤ 900
    cases fewestItems p <;> cases fewestOnto p <;> simp [putMaybe, putU8]
  | parting t u =>
    obtain ⟨o, k1, rfl⟩ := told_ok_iff.1 h; have h := k1; clear k1
    unfold partingCall at h
    rw [then_ok] at h
    obtain ⟨p, hp, h⟩ := h
    rw [then_ok] at h
    obtain ⟨q, hq, h⟩ := h
    rw [then_ok] at h
    obtain ⟨_, _, h⟩ := h
    cases h
    refine Nat.le_trans (maybe_length fun f e => ?_) (by decide)
    exact stock_short (shop_of_ok hp) (parting_some e).1
  | round k t =>
    obtain ⟨_, p, _, rfl⟩ := round_ok.1 h
    simp
  | fill k f =>
    obtain ⟨q, e, _, he, rfl⟩ := withRound_ok.1 h
    obtain ⟨_, _, _, _, rfl⟩ := fill_ok.1 he
    simp
  | sell k f =>
    obtain ⟨q, e, _, he, rfl⟩ := withRound_ok.1 h
    obtain ⟨_, _, _, _, _, rfl⟩ := sell_ok.1 he
    simp
  | undo k =>
    obtain ⟨q, e, _, he, rfl⟩ := withRound_ok.1 h
    have he : Res.ok (undone q) = .ok e := he
    cases he
    unfold undone
    cases q.past <;> simp [putFlag]
  | look k =>
    obtain ⟨o, k1, rfl⟩ := told_ok_iff.1 h; have h := k1; clear k1
    unfold lookCall at h
    rw [map_ok] at h
    obtain ⟨q, hq, rfl⟩ := h
    have hq : roundAt w k = some q := by
      unfold orError at hq
      cases c : roundAt w k with
      | none => rw [c] at hq; cases hq
      | some y => rw [c] at hq; cases hq; rfl
    have st := well_stock g hq
    have sp := (g.2 k q hq).1
    show (putNumbers (stockNow q) ++ (putFlag (isOpen q) ++ (putFlag (isWell q) ++ putMaybe putNumbers (hintOf q)))).length ≤ 900
    have a := stock_short sp st
    have b : (putMaybe putNumbers (hintOf q)).length ≤ 5 := by
      unfold hintOf
      split
      · simp [putMaybe]
      · exact filling_short sp st
    have c : ∀ b, (putFlag b).length = 1 := fun b => by cases b <;> rfl
    simp only [List.length_append, numbers_length, c]
    omega
theorem p_Answers_fit : Answers_fit := fun l r => by
  have g := good_life l
  have bl : ∀ o : Octets, (bytesOf o).length = o.length := fun o => by unfold bytesOf; simp
  rcases step_cases (behind start l) r with ⟨_, e⟩ | ⟨x, _, (⟨e, k, q⟩ | ⟨z, k, q⟩)⟩
  · rw [e]
    show (2 : Nat) ≤ 1000
    decide
  · rw [q, bl]
    obtain ⟨n, m, rfl, _, _, h⟩ := err_call k
    simp
    omega
  · rw [q, bl]
    have := answer_ok g k
    simp
    omega
end RsP
theorem PySem.Challenge.cw_fullshelves_m01_mainlaw_law : Zz33Law.MainLaw :=
  open RsP in ⟨p_Requests_exact, p_Step_exact, p_Malformed_refused, p_Texts_read, p_Texts_refused, p_Start_empty, p_Format_shows, p_Safe_shows, p_Doom_shows, p_Filling_told, p_Attack_told, p_Least_told, p_Fewest_shows, p_Parting_told, p_Shelves_refused, p_Stocks_refused, p_Hints_keep, p_Round_answers, p_Fill_answers, p_Fill_refused, p_Sell_answers, p_Sell_refused, p_Undo_answers, p_Undo_back, p_Look_shows, p_Look_told, p_Seats_refused, p_Seats_stay, p_Seats_apart, p_Refused_keeps, p_Calls_keep, p_Filling_shows, p_Attack_shows, p_Least_shows, p_Parting_shows, p_Rounds_good, p_Round_lays, p_Answers_fit, p_Calls_alone, p_filling_exact, p_attack_exact, p_least_exact, p_fewest_exact, p_parting_exact, p_round_exact, p_moves_exact, p_safe_exact, p_doom_exact, p_more_told, p_lines_read, p_words_read, p_faults_exact, p_digits_read, p_shops_read⟩
